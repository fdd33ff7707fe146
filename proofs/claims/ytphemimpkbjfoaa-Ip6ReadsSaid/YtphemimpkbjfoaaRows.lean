/-
  No cell of these rows narrows 'for every input' (looked for: loops, veiled, ifaces, maps, wideKeys, modest, calm, conditions, laid).
  DERIVED. THE GIVEN ROWS OF THIS SEAT. 8 by the template 'for every input the law returns true; each argument reads behind the call as it read before'; 0 by the template 'total and deterministic' (their statements: YtphemimpkbjfoaaTotals.lean).
  GIVEN WITH THE SEED: the statements are not yours to turn. If you find one false, say at which input.
  Laid BY PROGRAM, IN A SANDBOX (cutbox-rows.mjs): the forced cells as the released guide's own fill.sh prints them over the translation 66637f33462c57e2… (all of the seat's roots in one cut). By AI agents, Wed Nov 11 2026. No macro, syntax, notation, axiom, sorry.
-/
import Derived.Test.YtphemimpkbjfoaaChecked
import GoSem.Claim
import GoSem.ClaimJoined
import GoSem.ClaimMapViews
import Derived.JoinedTies
import Derived.KernelRfl
namespace Go.Proofs.Ytphemimpkbjfoaa
/- THE CELL 'sum', in the pinned program and in every row, IS THE sha256 OF THE DUMP (.gsa) THAT YtphemimpkbjfoaaProg.lean LOADS. Nothing in Lean hashes anything: it is a label: what it is worth is what the hold of that sum in a sandbox is worth. -/
noncomputable def Try.pinned : Pinned := { name := "ytphemimpkbjfoaa", sum := "66637f33462c57e2fd06a73f6b61a9c85b8f39cd20838df3f579506638af044f", checked := Try.checked }
namespace Rows
def none {H : Type} : Left H := { results := [], args := [] }

/-- 'interpreterlaw04.Ip6Known': WHATEVER THE INPUT: true; the input reads as it did. -/
def ip6KnownSpec : ChangeSpec := { name := "ip6Known", fn := fun _ => fun
  | [] => { results := [.lit (.bool true)], args := [] }
  | _ => none }
def ip6KnownRow : OpenClaim := { program := "ytphemimpkbjfoaa", sum := "66637f33462c57e2fd06a73f6b61a9c85b8f39cd20838df3f579506638af044f", func := "interpreter/interpreterlaw04.Ip6Known", spec := "ip6Known", inPlace := ["internal/abi.NoEscape", "internal/bytealg.MakeNoZero"], unfollowed := true, recurses := true, apart := false }
def Ip6KnownSaid : Prop := ip6KnownRow.holds Try.pinned (OpenSpec.ofChange ip6KnownSpec)

/-- ITS FALSE NEIGHBOUR: 'it returns false'. Refute it at one input. -/
def ip6KnownWrong : ChangeSpec := { name := "ip6Known", fn := fun _ => fun
  | [] => { results := [.lit (.bool false)], args := [] }
  | _ => none }
def Ip6KnownWrongFalsely : Prop := ip6KnownRow.holds Try.pinned (OpenSpec.ofChange ip6KnownWrong)

/-- 'interpreterlaw04.Ip6Writes': WHATEVER THE INPUT: true; the input reads as it did. -/
def ip6WritesSpec : ChangeSpec := { name := "ip6Writes", fn := fun _ => fun
  | [d] => { results := [.lit (.bool true)], args := [d] }
  | _ => none }
def ip6WritesRow : OpenClaim := { program := "ytphemimpkbjfoaa", sum := "66637f33462c57e2fd06a73f6b61a9c85b8f39cd20838df3f579506638af044f", func := "interpreter/interpreterlaw04.Ip6Writes", spec := "ip6Writes", inPlace := ["internal/abi.NoEscape", "internal/bytealg.MakeNoZero"], unfollowed := true, recurses := true, apart := false }
def Ip6WritesSaid : Prop := ip6WritesRow.holds Try.pinned (OpenSpec.ofChange ip6WritesSpec)

/-- ITS FALSE NEIGHBOUR: 'it returns false'. Refute it at one input. -/
def ip6WritesWrong : ChangeSpec := { name := "ip6Writes", fn := fun _ => fun
  | [d] => { results := [.lit (.bool false)], args := [d] }
  | _ => none }
def Ip6WritesWrongFalsely : Prop := ip6WritesRow.holds Try.pinned (OpenSpec.ofChange ip6WritesWrong)

/-- 'interpreterlaw04.Ip6Reads': WHATEVER THE INPUT: true; the input reads as it did. -/
def ip6ReadsSpec : ChangeSpec := { name := "ip6Reads", fn := fun _ => fun
  | [d] => { results := [.lit (.bool true)], args := [d] }
  | _ => none }
def ip6ReadsRow : OpenClaim := { program := "ytphemimpkbjfoaa", sum := "66637f33462c57e2fd06a73f6b61a9c85b8f39cd20838df3f579506638af044f", func := "interpreter/interpreterlaw04.Ip6Reads", spec := "ip6Reads", inPlace := ["internal/abi.NoEscape", "internal/bytealg.MakeNoZero"], unfollowed := true, recurses := true, apart := false }
def Ip6ReadsSaid : Prop := ip6ReadsRow.holds Try.pinned (OpenSpec.ofChange ip6ReadsSpec)

/-- ITS FALSE NEIGHBOUR: 'it returns false'. Refute it at one input. -/
def ip6ReadsWrong : ChangeSpec := { name := "ip6Reads", fn := fun _ => fun
  | [d] => { results := [.lit (.bool false)], args := [d] }
  | _ => none }
def Ip6ReadsWrongFalsely : Prop := ip6ReadsRow.holds Try.pinned (OpenSpec.ofChange ip6ReadsWrong)

/-- 'interpreterlaw04.Ip6Chains': WHATEVER THE INPUT: true; the input reads as it did. -/
def ip6ChainsSpec : ChangeSpec := { name := "ip6Chains", fn := fun _ => fun
  | [d1, d2] => { results := [.lit (.bool true)], args := [d1, d2] }
  | _ => none }
def ip6ChainsRow : OpenClaim := { program := "ytphemimpkbjfoaa", sum := "66637f33462c57e2fd06a73f6b61a9c85b8f39cd20838df3f579506638af044f", func := "interpreter/interpreterlaw04.Ip6Chains", spec := "ip6Chains", inPlace := ["internal/abi.NoEscape", "internal/bytealg.MakeNoZero"], unfollowed := true, recurses := true, apart := false }
def Ip6ChainsSaid : Prop := ip6ChainsRow.holds Try.pinned (OpenSpec.ofChange ip6ChainsSpec)

/-- ITS FALSE NEIGHBOUR: 'it returns false'. Refute it at one input. -/
def ip6ChainsWrong : ChangeSpec := { name := "ip6Chains", fn := fun _ => fun
  | [d1, d2] => { results := [.lit (.bool false)], args := [d1, d2] }
  | _ => none }
def Ip6ChainsWrongFalsely : Prop := ip6ChainsRow.holds Try.pinned (OpenSpec.ofChange ip6ChainsWrong)

/-- 'interpreterlaw04.Ip6Back': WHATEVER THE INPUT: true; the input reads as it did. -/
def ip6BackSpec : ChangeSpec := { name := "ip6Back", fn := fun _ => fun
  | [d1, d2] => { results := [.lit (.bool true)], args := [d1, d2] }
  | _ => none }
def ip6BackRow : OpenClaim := { program := "ytphemimpkbjfoaa", sum := "66637f33462c57e2fd06a73f6b61a9c85b8f39cd20838df3f579506638af044f", func := "interpreter/interpreterlaw04.Ip6Back", spec := "ip6Back", inPlace := ["internal/abi.NoEscape", "internal/bytealg.MakeNoZero"], unfollowed := true, recurses := true, apart := false }
def Ip6BackSaid : Prop := ip6BackRow.holds Try.pinned (OpenSpec.ofChange ip6BackSpec)

/-- ITS FALSE NEIGHBOUR: 'it returns false'. Refute it at one input. -/
def ip6BackWrong : ChangeSpec := { name := "ip6Back", fn := fun _ => fun
  | [d1, d2] => { results := [.lit (.bool false)], args := [d1, d2] }
  | _ => none }
def Ip6BackWrongFalsely : Prop := ip6BackRow.holds Try.pinned (OpenSpec.ofChange ip6BackWrong)

/-- 'interpreterlaw04.Ip6Again': WHATEVER THE INPUT: true; the input reads as it did. -/
def ip6AgainSpec : ChangeSpec := { name := "ip6Again", fn := fun _ => fun
  | [d] => { results := [.lit (.bool true)], args := [d] }
  | _ => none }
def ip6AgainRow : OpenClaim := { program := "ytphemimpkbjfoaa", sum := "66637f33462c57e2fd06a73f6b61a9c85b8f39cd20838df3f579506638af044f", func := "interpreter/interpreterlaw04.Ip6Again", spec := "ip6Again", inPlace := ["internal/abi.NoEscape", "internal/bytealg.MakeNoZero"], unfollowed := true, recurses := true, apart := false }
def Ip6AgainSaid : Prop := ip6AgainRow.holds Try.pinned (OpenSpec.ofChange ip6AgainSpec)

/-- ITS FALSE NEIGHBOUR: 'it returns false'. Refute it at one input. -/
def ip6AgainWrong : ChangeSpec := { name := "ip6Again", fn := fun _ => fun
  | [d] => { results := [.lit (.bool false)], args := [d] }
  | _ => none }
def Ip6AgainWrongFalsely : Prop := ip6AgainRow.holds Try.pinned (OpenSpec.ofChange ip6AgainWrong)

/-- 'interpreterlaw04.Ip6Links': WHATEVER THE INPUT: true; the input reads as it did. -/
def ip6LinksSpec : ChangeSpec := { name := "ip6Links", fn := fun _ => fun
  | [d1, d2, d3, d4] => { results := [.lit (.bool true)], args := [d1, d2, d3, d4] }
  | _ => none }
def ip6LinksRow : OpenClaim := { program := "ytphemimpkbjfoaa", sum := "66637f33462c57e2fd06a73f6b61a9c85b8f39cd20838df3f579506638af044f", func := "interpreter/interpreterlaw04.Ip6Links", spec := "ip6Links", inPlace := ["internal/abi.NoEscape", "internal/bytealg.MakeNoZero"], unfollowed := true, recurses := true, apart := false }
def Ip6LinksSaid : Prop := ip6LinksRow.holds Try.pinned (OpenSpec.ofChange ip6LinksSpec)

/-- ITS FALSE NEIGHBOUR: 'it returns false'. Refute it at one input. -/
def ip6LinksWrong : ChangeSpec := { name := "ip6Links", fn := fun _ => fun
  | [d1, d2, d3, d4] => { results := [.lit (.bool false)], args := [d1, d2, d3, d4] }
  | _ => none }
def Ip6LinksWrongFalsely : Prop := ip6LinksRow.holds Try.pinned (OpenSpec.ofChange ip6LinksWrong)

/-- 'interpreterlaw04.Ip6Fields': WHATEVER THE INPUT: true; the input reads as it did. -/
def ip6FieldsSpec : ChangeSpec := { name := "ip6Fields", fn := fun _ => fun
  | [d1, d2, d3] => { results := [.lit (.bool true)], args := [d1, d2, d3] }
  | _ => none }
def ip6FieldsRow : OpenClaim := { program := "ytphemimpkbjfoaa", sum := "66637f33462c57e2fd06a73f6b61a9c85b8f39cd20838df3f579506638af044f", func := "interpreter/interpreterlaw04.Ip6Fields", spec := "ip6Fields", inPlace := ["internal/abi.NoEscape", "internal/bytealg.MakeNoZero"], unfollowed := true, recurses := true, apart := false }
def Ip6FieldsSaid : Prop := ip6FieldsRow.holds Try.pinned (OpenSpec.ofChange ip6FieldsSpec)

/-- ITS FALSE NEIGHBOUR: 'it returns false'. Refute it at one input. -/
def ip6FieldsWrong : ChangeSpec := { name := "ip6Fields", fn := fun _ => fun
  | [d1, d2, d3] => { results := [.lit (.bool false)], args := [d1, d2, d3] }
  | _ => none }
def Ip6FieldsWrongFalsely : Prop := ip6FieldsRow.holds Try.pinned (OpenSpec.ofChange ip6FieldsWrong)

/- THE SECOND FORM. 'bulk': how many values and letters a reading holds, each counted each time it is reached (what is shared counts as often as it is met; a slice's spare places count too). A statement '..UptoSaid' is the law's where the arguments, and the package variables that the reading takes, are together of bulk at most 1048576: NARROWER than '..Said'. Prove '..Said' where nothing that the law and all that it calls make is longer than what came in: it says more and counts as full. Else prove '..UptoSaid'. A law counts once. -/
mutual
def uptoBulk {H : Type} : DataW H → Nat
  | .lit (.string bytes) => bytes.length + 1
  | .lit _ => 1
  | .nil => 1
  | .ptr d => uptoBulk d + 1
  | .slice elems spare => uptoBulkAll elems + uptoBulkAll spare + 1
  | .agg parts => uptoBulkAll parts + 1
  | .iface _ d => uptoBulk d + 1
  | .map entries => uptoBulkEntries entries + 1
  | .held _ => 1
def uptoBulkAll {H : Type} : List (DataW H) → Nat
  | [] => 0
  | d :: r => uptoBulk d + uptoBulkAll r
def uptoBulkEntries {H : Type} : List (Lit × DataW H) → Nat
  | [] => 0
  | x :: r => uptoBulkEntry x + uptoBulkEntries r
def uptoBulkEntry {H : Type} : Lit × DataW H → Nat
  | (.string bytes, d) => bytes.length + uptoBulk d + 1
  | (_, d) => uptoBulk d + 1
 end
def uptoSmall : (H : Type) → List (DataW H) → Bool := fun _ ds => decide (uptoBulkAll ds ≤ 1048576)
def OpenSpec.upto (s : _root_.Go.ChangeSpec) : _root_.Go.OpenSpec := { _root_.Go.OpenSpec.ofChange s with cond := some uptoSmall }

/-- 'interpreterlaw04.Ip6Known', WHERE WHAT IT READS IS OF BULK AT MOST 1048576: true; the input reads as it did. -/
def ip6KnownUptoRow : OpenClaim := { program := "ytphemimpkbjfoaa", sum := "66637f33462c57e2fd06a73f6b61a9c85b8f39cd20838df3f579506638af044f", func := "interpreter/interpreterlaw04.Ip6Known", spec := "ip6Known", inPlace := ["internal/abi.NoEscape", "internal/bytealg.MakeNoZero"], unfollowed := true, recurses := true, apart := false, narrowed := true }
def Ip6KnownUptoSaid : Prop := ip6KnownUptoRow.holds Try.pinned (OpenSpec.upto ip6KnownSpec)

/-- 'interpreterlaw04.Ip6Writes', WHERE WHAT IT READS IS OF BULK AT MOST 1048576: true; the input reads as it did. -/
def ip6WritesUptoRow : OpenClaim := { program := "ytphemimpkbjfoaa", sum := "66637f33462c57e2fd06a73f6b61a9c85b8f39cd20838df3f579506638af044f", func := "interpreter/interpreterlaw04.Ip6Writes", spec := "ip6Writes", inPlace := ["internal/abi.NoEscape", "internal/bytealg.MakeNoZero"], unfollowed := true, recurses := true, apart := false, narrowed := true }
def Ip6WritesUptoSaid : Prop := ip6WritesUptoRow.holds Try.pinned (OpenSpec.upto ip6WritesSpec)

/-- 'interpreterlaw04.Ip6Reads', WHERE WHAT IT READS IS OF BULK AT MOST 1048576: true; the input reads as it did. -/
def ip6ReadsUptoRow : OpenClaim := { program := "ytphemimpkbjfoaa", sum := "66637f33462c57e2fd06a73f6b61a9c85b8f39cd20838df3f579506638af044f", func := "interpreter/interpreterlaw04.Ip6Reads", spec := "ip6Reads", inPlace := ["internal/abi.NoEscape", "internal/bytealg.MakeNoZero"], unfollowed := true, recurses := true, apart := false, narrowed := true }
def Ip6ReadsUptoSaid : Prop := ip6ReadsUptoRow.holds Try.pinned (OpenSpec.upto ip6ReadsSpec)

/-- 'interpreterlaw04.Ip6Chains', WHERE WHAT IT READS IS OF BULK AT MOST 1048576: true; the input reads as it did. -/
def ip6ChainsUptoRow : OpenClaim := { program := "ytphemimpkbjfoaa", sum := "66637f33462c57e2fd06a73f6b61a9c85b8f39cd20838df3f579506638af044f", func := "interpreter/interpreterlaw04.Ip6Chains", spec := "ip6Chains", inPlace := ["internal/abi.NoEscape", "internal/bytealg.MakeNoZero"], unfollowed := true, recurses := true, apart := false, narrowed := true }
def Ip6ChainsUptoSaid : Prop := ip6ChainsUptoRow.holds Try.pinned (OpenSpec.upto ip6ChainsSpec)

/-- 'interpreterlaw04.Ip6Back', WHERE WHAT IT READS IS OF BULK AT MOST 1048576: true; the input reads as it did. -/
def ip6BackUptoRow : OpenClaim := { program := "ytphemimpkbjfoaa", sum := "66637f33462c57e2fd06a73f6b61a9c85b8f39cd20838df3f579506638af044f", func := "interpreter/interpreterlaw04.Ip6Back", spec := "ip6Back", inPlace := ["internal/abi.NoEscape", "internal/bytealg.MakeNoZero"], unfollowed := true, recurses := true, apart := false, narrowed := true }
def Ip6BackUptoSaid : Prop := ip6BackUptoRow.holds Try.pinned (OpenSpec.upto ip6BackSpec)

/-- 'interpreterlaw04.Ip6Again', WHERE WHAT IT READS IS OF BULK AT MOST 1048576: true; the input reads as it did. -/
def ip6AgainUptoRow : OpenClaim := { program := "ytphemimpkbjfoaa", sum := "66637f33462c57e2fd06a73f6b61a9c85b8f39cd20838df3f579506638af044f", func := "interpreter/interpreterlaw04.Ip6Again", spec := "ip6Again", inPlace := ["internal/abi.NoEscape", "internal/bytealg.MakeNoZero"], unfollowed := true, recurses := true, apart := false, narrowed := true }
def Ip6AgainUptoSaid : Prop := ip6AgainUptoRow.holds Try.pinned (OpenSpec.upto ip6AgainSpec)

/-- 'interpreterlaw04.Ip6Links', WHERE WHAT IT READS IS OF BULK AT MOST 1048576: true; the input reads as it did. -/
def ip6LinksUptoRow : OpenClaim := { program := "ytphemimpkbjfoaa", sum := "66637f33462c57e2fd06a73f6b61a9c85b8f39cd20838df3f579506638af044f", func := "interpreter/interpreterlaw04.Ip6Links", spec := "ip6Links", inPlace := ["internal/abi.NoEscape", "internal/bytealg.MakeNoZero"], unfollowed := true, recurses := true, apart := false, narrowed := true }
def Ip6LinksUptoSaid : Prop := ip6LinksUptoRow.holds Try.pinned (OpenSpec.upto ip6LinksSpec)

/-- 'interpreterlaw04.Ip6Fields', WHERE WHAT IT READS IS OF BULK AT MOST 1048576: true; the input reads as it did. -/
def ip6FieldsUptoRow : OpenClaim := { program := "ytphemimpkbjfoaa", sum := "66637f33462c57e2fd06a73f6b61a9c85b8f39cd20838df3f579506638af044f", func := "interpreter/interpreterlaw04.Ip6Fields", spec := "ip6Fields", inPlace := ["internal/abi.NoEscape", "internal/bytealg.MakeNoZero"], unfollowed := true, recurses := true, apart := false, narrowed := true }
def Ip6FieldsUptoSaid : Prop := ip6FieldsUptoRow.holds Try.pinned (OpenSpec.upto ip6FieldsSpec)

end Rows
end Go.Proofs.Ytphemimpkbjfoaa
