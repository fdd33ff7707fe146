/-
  No cell of these rows narrows 'for every input' (looked for: loops, veiled, ifaces, maps, wideKeys, modest, calm, conditions, laid).
  DERIVED. THE GIVEN ROWS OF THIS SEAT. 4 by the template 'for every input the law returns true; each argument reads behind the call as it read before'; 0 by the template 'total and deterministic' (their statements: YtdljjcnihajchaaTotals.lean).
  GIVEN WITH THE SEED: the statements are not yours to turn. If you find one false, say at which input.
  Laid BY PROGRAM, IN A SANDBOX (cutbox-rows.mjs): the forced cells as the released guide's own fill.sh prints them over the translation 675f23099fd15f5d… (all of the seat's roots in one cut). By AI agents, Wed Nov 11 2026. No macro, syntax, notation, axiom, sorry.
-/
import Derived.Test.YtdljjcnihajchaaChecked
import GoSem.Claim
import GoSem.ClaimJoined
import GoSem.ClaimMapViews
import Derived.JoinedTies
import Derived.KernelRfl
namespace Go.Proofs.Ytdljjcnihajchaa
/- THE CELL 'sum', in the pinned program and in every row, IS THE sha256 OF THE DUMP (.gsa) THAT YtdljjcnihajchaaProg.lean LOADS. Nothing in Lean hashes anything: it is a label: what it is worth is what the hold of that sum in a sandbox is worth. -/
noncomputable def Try.pinned : Pinned := { name := "ytdljjcnihajchaa", sum := "675f23099fd15f5d80b92c8e9d7032ad70e60cabbcdd559095564372b0c6791d", checked := Try.checked }
namespace Rows
def none {H : Type} : Left H := { results := [], args := [] }

/-- 'interpreterlaw12.Head46Known': WHATEVER THE INPUT: true; the input reads as it did. -/
def head46KnownSpec : ChangeSpec := { name := "head46Known", fn := fun _ => fun
  | [] => { results := [.lit (.bool true)], args := [] }
  | _ => none }
def head46KnownRow : OpenClaim := { program := "ytdljjcnihajchaa", sum := "675f23099fd15f5d80b92c8e9d7032ad70e60cabbcdd559095564372b0c6791d", func := "interpreter/interpreterlaw12.Head46Known", spec := "head46Known", apart := false }
def Head46KnownSaid : Prop := head46KnownRow.holds Try.pinned (OpenSpec.ofChange head46KnownSpec)

/-- ITS FALSE NEIGHBOUR: 'it returns false'. Refute it at one input. -/
def head46KnownWrong : ChangeSpec := { name := "head46Known", fn := fun _ => fun
  | [] => { results := [.lit (.bool false)], args := [] }
  | _ => none }
def Head46KnownWrongFalsely : Prop := head46KnownRow.holds Try.pinned (OpenSpec.ofChange head46KnownWrong)

/-- 'interpreterlaw12.Head46Does': WHATEVER THE INPUT: true; the input reads as it did. -/
def head46DoesSpec : ChangeSpec := { name := "head46Does", fn := fun _ => fun
  | [d1, d2, d3, d4] => { results := [.lit (.bool true)], args := [d1, d2, d3, d4] }
  | _ => none }
def head46DoesRow : OpenClaim := { program := "ytdljjcnihajchaa", sum := "675f23099fd15f5d80b92c8e9d7032ad70e60cabbcdd559095564372b0c6791d", func := "interpreter/interpreterlaw12.Head46Does", spec := "head46Does", apart := false }
def Head46DoesSaid : Prop := head46DoesRow.holds Try.pinned (OpenSpec.ofChange head46DoesSpec)

/-- ITS FALSE NEIGHBOUR: 'it returns false'. Refute it at one input. -/
def head46DoesWrong : ChangeSpec := { name := "head46Does", fn := fun _ => fun
  | [d1, d2, d3, d4] => { results := [.lit (.bool false)], args := [d1, d2, d3, d4] }
  | _ => none }
def Head46DoesWrongFalsely : Prop := head46DoesRow.holds Try.pinned (OpenSpec.ofChange head46DoesWrong)

/-- 'interpreterlaw12.Head46Goes': WHATEVER THE INPUT: true; the input reads as it did. -/
def head46GoesSpec : ChangeSpec := { name := "head46Goes", fn := fun _ => fun
  | [d1, d2, d3] => { results := [.lit (.bool true)], args := [d1, d2, d3] }
  | _ => none }
def head46GoesRow : OpenClaim := { program := "ytdljjcnihajchaa", sum := "675f23099fd15f5d80b92c8e9d7032ad70e60cabbcdd559095564372b0c6791d", func := "interpreter/interpreterlaw12.Head46Goes", spec := "head46Goes", unfollowed := true, recurses := true, apart := false }
def Head46GoesSaid : Prop := head46GoesRow.holds Try.pinned (OpenSpec.ofChange head46GoesSpec)

/-- ITS FALSE NEIGHBOUR: 'it returns false'. Refute it at one input. -/
def head46GoesWrong : ChangeSpec := { name := "head46Goes", fn := fun _ => fun
  | [d1, d2, d3] => { results := [.lit (.bool false)], args := [d1, d2, d3] }
  | _ => none }
def Head46GoesWrongFalsely : Prop := head46GoesRow.holds Try.pinned (OpenSpec.ofChange head46GoesWrong)

/-- 'interpreterlaw12.Head46Blind': WHATEVER THE INPUT: true; the input reads as it did. -/
def head46BlindSpec : ChangeSpec := { name := "head46Blind", fn := fun _ => fun
  | [d1, d2, d3] => { results := [.lit (.bool true)], args := [d1, d2, d3] }
  | _ => none }
def head46BlindRow : OpenClaim := { program := "ytdljjcnihajchaa", sum := "675f23099fd15f5d80b92c8e9d7032ad70e60cabbcdd559095564372b0c6791d", func := "interpreter/interpreterlaw12.Head46Blind", spec := "head46Blind", unfollowed := true, recurses := true, apart := false }
def Head46BlindSaid : Prop := head46BlindRow.holds Try.pinned (OpenSpec.ofChange head46BlindSpec)

/-- ITS FALSE NEIGHBOUR: 'it returns false'. Refute it at one input. -/
def head46BlindWrong : ChangeSpec := { name := "head46Blind", fn := fun _ => fun
  | [d1, d2, d3] => { results := [.lit (.bool false)], args := [d1, d2, d3] }
  | _ => none }
def Head46BlindWrongFalsely : Prop := head46BlindRow.holds Try.pinned (OpenSpec.ofChange head46BlindWrong)

/- THE SECOND FORM. 'bulk': how many values and letters a reading holds, each counted each time it is reached (what is shared counts as often as it is met; a slice's spare places count too). A statement '..UptoSaid' is the law's where the arguments, and the package variables that the reading takes, are together of bulk at most 1048576: NARROWER than '..Said'. Prove '..Said' where nothing that the law and all that it calls make is longer than what came in: it says more and counts as full. Else prove '..UptoSaid'. A law counts once. -/
mutual
def uptoBulk {H : Type} : DataW H → Nat
  | .lit (.string bytes) => bytes.length + 1
  | .lit _ => 1
  | .nil => 1
  | .ptr d => uptoBulk d + 1
  | .slice elems spare => uptoBulkAll elems + uptoBulkAll spare + 1
  | .agg parts => uptoBulkAll parts + 1
  | .iface _ d => uptoBulk d + 1
  | .map entries => uptoBulkEntries entries + 1
  | .held _ => 1
def uptoBulkAll {H : Type} : List (DataW H) → Nat
  | [] => 0
  | d :: r => uptoBulk d + uptoBulkAll r
def uptoBulkEntries {H : Type} : List (Lit × DataW H) → Nat
  | [] => 0
  | x :: r => uptoBulkEntry x + uptoBulkEntries r
def uptoBulkEntry {H : Type} : Lit × DataW H → Nat
  | (.string bytes, d) => bytes.length + uptoBulk d + 1
  | (_, d) => uptoBulk d + 1
 end
def uptoSmall : (H : Type) → List (DataW H) → Bool := fun _ ds => decide (uptoBulkAll ds ≤ 1048576)
def OpenSpec.upto (s : _root_.Go.ChangeSpec) : _root_.Go.OpenSpec := { _root_.Go.OpenSpec.ofChange s with cond := some uptoSmall }

/-- 'interpreterlaw12.Head46Known', WHERE WHAT IT READS IS OF BULK AT MOST 1048576: true; the input reads as it did. -/
def head46KnownUptoRow : OpenClaim := { program := "ytdljjcnihajchaa", sum := "675f23099fd15f5d80b92c8e9d7032ad70e60cabbcdd559095564372b0c6791d", func := "interpreter/interpreterlaw12.Head46Known", spec := "head46Known", apart := false, narrowed := true }
def Head46KnownUptoSaid : Prop := head46KnownUptoRow.holds Try.pinned (OpenSpec.upto head46KnownSpec)

/-- 'interpreterlaw12.Head46Does', WHERE WHAT IT READS IS OF BULK AT MOST 1048576: true; the input reads as it did. -/
def head46DoesUptoRow : OpenClaim := { program := "ytdljjcnihajchaa", sum := "675f23099fd15f5d80b92c8e9d7032ad70e60cabbcdd559095564372b0c6791d", func := "interpreter/interpreterlaw12.Head46Does", spec := "head46Does", apart := false, narrowed := true }
def Head46DoesUptoSaid : Prop := head46DoesUptoRow.holds Try.pinned (OpenSpec.upto head46DoesSpec)

/-- 'interpreterlaw12.Head46Goes', WHERE WHAT IT READS IS OF BULK AT MOST 1048576: true; the input reads as it did. -/
def head46GoesUptoRow : OpenClaim := { program := "ytdljjcnihajchaa", sum := "675f23099fd15f5d80b92c8e9d7032ad70e60cabbcdd559095564372b0c6791d", func := "interpreter/interpreterlaw12.Head46Goes", spec := "head46Goes", unfollowed := true, recurses := true, apart := false, narrowed := true }
def Head46GoesUptoSaid : Prop := head46GoesUptoRow.holds Try.pinned (OpenSpec.upto head46GoesSpec)

/-- 'interpreterlaw12.Head46Blind', WHERE WHAT IT READS IS OF BULK AT MOST 1048576: true; the input reads as it did. -/
def head46BlindUptoRow : OpenClaim := { program := "ytdljjcnihajchaa", sum := "675f23099fd15f5d80b92c8e9d7032ad70e60cabbcdd559095564372b0c6791d", func := "interpreter/interpreterlaw12.Head46Blind", spec := "head46Blind", unfollowed := true, recurses := true, apart := false, narrowed := true }
def Head46BlindUptoSaid : Prop := head46BlindUptoRow.holds Try.pinned (OpenSpec.upto head46BlindSpec)

end Rows
end Go.Proofs.Ytdljjcnihajchaa
