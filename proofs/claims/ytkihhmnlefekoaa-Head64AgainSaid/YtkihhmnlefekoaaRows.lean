/-
  No cell of these rows narrows 'for every input' (looked for: loops, veiled, ifaces, maps, wideKeys, modest, calm, conditions, laid).
  DERIVED. THE GIVEN ROWS OF THIS SEAT. 6 by the template 'for every input the law returns true; each argument reads behind the call as it read before'; 0 by the template 'total and deterministic' (their statements: YtkihhmnlefekoaaTotals.lean).
  GIVEN WITH THE SEED: the statements are not yours to turn. If you find one false, say at which input.
  Laid BY PROGRAM, IN A SANDBOX (cutbox-rows.mjs): the forced cells as the released guide's own fill.sh prints them over the translation f3b94a919c6d7db8… (all of the seat's roots in one cut). By AI agents, Wed Nov 11 2026. No macro, syntax, notation, axiom, sorry.
-/
import Derived.Test.YtkihhmnlefekoaaChecked
import GoSem.Claim
import GoSem.ClaimJoined
import GoSem.ClaimMapViews
import Derived.JoinedTies
import Derived.KernelRfl
namespace Go.Proofs.Ytkihhmnlefekoaa
/- THE CELL 'sum', in the pinned program and in every row, IS THE sha256 OF THE DUMP (.gsa) THAT YtkihhmnlefekoaaProg.lean LOADS. Nothing in Lean hashes anything: it is a label: what it is worth is what the hold of that sum in a sandbox is worth. -/
noncomputable def Try.pinned : Pinned := { name := "ytkihhmnlefekoaa", sum := "f3b94a919c6d7db822b2ab3c41236c14273937927f0e883c553fc432365f3c21", checked := Try.checked }
namespace Rows
def none {H : Type} : Left H := { results := [], args := [] }

/-- 'interpreterlaw13.Head64Known': WHATEVER THE INPUT: true; the input reads as it did. -/
def head64KnownSpec : ChangeSpec := { name := "head64Known", fn := fun _ => fun
  | [] => { results := [.lit (.bool true)], args := [] }
  | _ => none }
def head64KnownRow : OpenClaim := { program := "ytkihhmnlefekoaa", sum := "f3b94a919c6d7db822b2ab3c41236c14273937927f0e883c553fc432365f3c21", func := "interpreter/interpreterlaw13.Head64Known", spec := "head64Known", inPlace := ["internal/abi.NoEscape", "internal/bytealg.MakeNoZero"], apart := false }
def Head64KnownSaid : Prop := head64KnownRow.holds Try.pinned (OpenSpec.ofChange head64KnownSpec)

/-- ITS FALSE NEIGHBOUR: 'it returns false'. Refute it at one input. -/
def head64KnownWrong : ChangeSpec := { name := "head64Known", fn := fun _ => fun
  | [] => { results := [.lit (.bool false)], args := [] }
  | _ => none }
def Head64KnownWrongFalsely : Prop := head64KnownRow.holds Try.pinned (OpenSpec.ofChange head64KnownWrong)

/-- 'interpreterlaw13.Head64Does': WHATEVER THE INPUT: true; the input reads as it did. -/
def head64DoesSpec : ChangeSpec := { name := "head64Does", fn := fun _ => fun
  | [d1, d2, d3, d4, d5] => { results := [.lit (.bool true)], args := [d1, d2, d3, d4, d5] }
  | _ => none }
def head64DoesRow : OpenClaim := { program := "ytkihhmnlefekoaa", sum := "f3b94a919c6d7db822b2ab3c41236c14273937927f0e883c553fc432365f3c21", func := "interpreter/interpreterlaw13.Head64Does", spec := "head64Does", apart := false }
def Head64DoesSaid : Prop := head64DoesRow.holds Try.pinned (OpenSpec.ofChange head64DoesSpec)

/-- ITS FALSE NEIGHBOUR: 'it returns false'. Refute it at one input. -/
def head64DoesWrong : ChangeSpec := { name := "head64Does", fn := fun _ => fun
  | [d1, d2, d3, d4, d5] => { results := [.lit (.bool false)], args := [d1, d2, d3, d4, d5] }
  | _ => none }
def Head64DoesWrongFalsely : Prop := head64DoesRow.holds Try.pinned (OpenSpec.ofChange head64DoesWrong)

/-- 'interpreterlaw13.Head64Goes': WHATEVER THE INPUT: true; the input reads as it did. -/
def head64GoesSpec : ChangeSpec := { name := "head64Goes", fn := fun _ => fun
  | [d1, d2, d3, d4] => { results := [.lit (.bool true)], args := [d1, d2, d3, d4] }
  | _ => none }
def head64GoesRow : OpenClaim := { program := "ytkihhmnlefekoaa", sum := "f3b94a919c6d7db822b2ab3c41236c14273937927f0e883c553fc432365f3c21", func := "interpreter/interpreterlaw13.Head64Goes", spec := "head64Goes", apart := false }
def Head64GoesSaid : Prop := head64GoesRow.holds Try.pinned (OpenSpec.ofChange head64GoesSpec)

/-- ITS FALSE NEIGHBOUR: 'it returns false'. Refute it at one input. -/
def head64GoesWrong : ChangeSpec := { name := "head64Goes", fn := fun _ => fun
  | [d1, d2, d3, d4] => { results := [.lit (.bool false)], args := [d1, d2, d3, d4] }
  | _ => none }
def Head64GoesWrongFalsely : Prop := head64GoesRow.holds Try.pinned (OpenSpec.ofChange head64GoesWrong)

/-- 'interpreterlaw13.Head64Again': WHATEVER THE INPUT: true; the input reads as it did. -/
def head64AgainSpec : ChangeSpec := { name := "head64Again", fn := fun _ => fun
  | [d1, d2, d3, d4] => { results := [.lit (.bool true)], args := [d1, d2, d3, d4] }
  | _ => none }
def head64AgainRow : OpenClaim := { program := "ytkihhmnlefekoaa", sum := "f3b94a919c6d7db822b2ab3c41236c14273937927f0e883c553fc432365f3c21", func := "interpreter/interpreterlaw13.Head64Again", spec := "head64Again", apart := false }
def Head64AgainSaid : Prop := head64AgainRow.holds Try.pinned (OpenSpec.ofChange head64AgainSpec)

/-- ITS FALSE NEIGHBOUR: 'it returns false'. Refute it at one input. -/
def head64AgainWrong : ChangeSpec := { name := "head64Again", fn := fun _ => fun
  | [d1, d2, d3, d4] => { results := [.lit (.bool false)], args := [d1, d2, d3, d4] }
  | _ => none }
def Head64AgainWrongFalsely : Prop := head64AgainRow.holds Try.pinned (OpenSpec.ofChange head64AgainWrong)

/-- 'interpreterlaw13.Head64Blind': WHATEVER THE INPUT: true; the input reads as it did. -/
def head64BlindSpec : ChangeSpec := { name := "head64Blind", fn := fun _ => fun
  | [d1, d2, d3, d4, d5, d6] => { results := [.lit (.bool true)], args := [d1, d2, d3, d4, d5, d6] }
  | _ => none }
def head64BlindRow : OpenClaim := { program := "ytkihhmnlefekoaa", sum := "f3b94a919c6d7db822b2ab3c41236c14273937927f0e883c553fc432365f3c21", func := "interpreter/interpreterlaw13.Head64Blind", spec := "head64Blind", apart := false }
def Head64BlindSaid : Prop := head64BlindRow.holds Try.pinned (OpenSpec.ofChange head64BlindSpec)

/-- ITS FALSE NEIGHBOUR: 'it returns false'. Refute it at one input. -/
def head64BlindWrong : ChangeSpec := { name := "head64Blind", fn := fun _ => fun
  | [d1, d2, d3, d4, d5, d6] => { results := [.lit (.bool false)], args := [d1, d2, d3, d4, d5, d6] }
  | _ => none }
def Head64BlindWrongFalsely : Prop := head64BlindRow.holds Try.pinned (OpenSpec.ofChange head64BlindWrong)

/-- 'interpreterlaw13.Head64Proto': WHATEVER THE INPUT: true; the input reads as it did. -/
def head64ProtoSpec : ChangeSpec := { name := "head64Proto", fn := fun _ => fun
  | [d1, d2] => { results := [.lit (.bool true)], args := [d1, d2] }
  | _ => none }
def head64ProtoRow : OpenClaim := { program := "ytkihhmnlefekoaa", sum := "f3b94a919c6d7db822b2ab3c41236c14273937927f0e883c553fc432365f3c21", func := "interpreter/interpreterlaw13.Head64Proto", spec := "head64Proto", apart := false }
def Head64ProtoSaid : Prop := head64ProtoRow.holds Try.pinned (OpenSpec.ofChange head64ProtoSpec)

/-- ITS FALSE NEIGHBOUR: 'it returns false'. Refute it at one input. -/
def head64ProtoWrong : ChangeSpec := { name := "head64Proto", fn := fun _ => fun
  | [d1, d2] => { results := [.lit (.bool false)], args := [d1, d2] }
  | _ => none }
def Head64ProtoWrongFalsely : Prop := head64ProtoRow.holds Try.pinned (OpenSpec.ofChange head64ProtoWrong)

/- THE SECOND FORM. 'bulk': how many values and letters a reading holds, each counted each time it is reached (what is shared counts as often as it is met; a slice's spare places count too). A statement '..UptoSaid' is the law's where the arguments, and the package variables that the reading takes, are together of bulk at most 1048576: NARROWER than '..Said'. Prove '..Said' where nothing that the law and all that it calls make is longer than what came in: it says more and counts as full. Else prove '..UptoSaid'. A law counts once. -/
mutual
def uptoBulk {H : Type} : DataW H → Nat
  | .lit (.string bytes) => bytes.length + 1
  | .lit _ => 1
  | .nil => 1
  | .ptr d => uptoBulk d + 1
  | .slice elems spare => uptoBulkAll elems + uptoBulkAll spare + 1
  | .agg parts => uptoBulkAll parts + 1
  | .iface _ d => uptoBulk d + 1
  | .map entries => uptoBulkEntries entries + 1
  | .held _ => 1
def uptoBulkAll {H : Type} : List (DataW H) → Nat
  | [] => 0
  | d :: r => uptoBulk d + uptoBulkAll r
def uptoBulkEntries {H : Type} : List (Lit × DataW H) → Nat
  | [] => 0
  | x :: r => uptoBulkEntry x + uptoBulkEntries r
def uptoBulkEntry {H : Type} : Lit × DataW H → Nat
  | (.string bytes, d) => bytes.length + uptoBulk d + 1
  | (_, d) => uptoBulk d + 1
 end
def uptoSmall : (H : Type) → List (DataW H) → Bool := fun _ ds => decide (uptoBulkAll ds ≤ 1048576)
def OpenSpec.upto (s : _root_.Go.ChangeSpec) : _root_.Go.OpenSpec := { _root_.Go.OpenSpec.ofChange s with cond := some uptoSmall }

/-- 'interpreterlaw13.Head64Known', WHERE WHAT IT READS IS OF BULK AT MOST 1048576: true; the input reads as it did. -/
def head64KnownUptoRow : OpenClaim := { program := "ytkihhmnlefekoaa", sum := "f3b94a919c6d7db822b2ab3c41236c14273937927f0e883c553fc432365f3c21", func := "interpreter/interpreterlaw13.Head64Known", spec := "head64Known", inPlace := ["internal/abi.NoEscape", "internal/bytealg.MakeNoZero"], apart := false, narrowed := true }
def Head64KnownUptoSaid : Prop := head64KnownUptoRow.holds Try.pinned (OpenSpec.upto head64KnownSpec)

/-- 'interpreterlaw13.Head64Does', WHERE WHAT IT READS IS OF BULK AT MOST 1048576: true; the input reads as it did. -/
def head64DoesUptoRow : OpenClaim := { program := "ytkihhmnlefekoaa", sum := "f3b94a919c6d7db822b2ab3c41236c14273937927f0e883c553fc432365f3c21", func := "interpreter/interpreterlaw13.Head64Does", spec := "head64Does", apart := false, narrowed := true }
def Head64DoesUptoSaid : Prop := head64DoesUptoRow.holds Try.pinned (OpenSpec.upto head64DoesSpec)

/-- 'interpreterlaw13.Head64Goes', WHERE WHAT IT READS IS OF BULK AT MOST 1048576: true; the input reads as it did. -/
def head64GoesUptoRow : OpenClaim := { program := "ytkihhmnlefekoaa", sum := "f3b94a919c6d7db822b2ab3c41236c14273937927f0e883c553fc432365f3c21", func := "interpreter/interpreterlaw13.Head64Goes", spec := "head64Goes", apart := false, narrowed := true }
def Head64GoesUptoSaid : Prop := head64GoesUptoRow.holds Try.pinned (OpenSpec.upto head64GoesSpec)

/-- 'interpreterlaw13.Head64Again', WHERE WHAT IT READS IS OF BULK AT MOST 1048576: true; the input reads as it did. -/
def head64AgainUptoRow : OpenClaim := { program := "ytkihhmnlefekoaa", sum := "f3b94a919c6d7db822b2ab3c41236c14273937927f0e883c553fc432365f3c21", func := "interpreter/interpreterlaw13.Head64Again", spec := "head64Again", apart := false, narrowed := true }
def Head64AgainUptoSaid : Prop := head64AgainUptoRow.holds Try.pinned (OpenSpec.upto head64AgainSpec)

/-- 'interpreterlaw13.Head64Blind', WHERE WHAT IT READS IS OF BULK AT MOST 1048576: true; the input reads as it did. -/
def head64BlindUptoRow : OpenClaim := { program := "ytkihhmnlefekoaa", sum := "f3b94a919c6d7db822b2ab3c41236c14273937927f0e883c553fc432365f3c21", func := "interpreter/interpreterlaw13.Head64Blind", spec := "head64Blind", apart := false, narrowed := true }
def Head64BlindUptoSaid : Prop := head64BlindUptoRow.holds Try.pinned (OpenSpec.upto head64BlindSpec)

/-- 'interpreterlaw13.Head64Proto', WHERE WHAT IT READS IS OF BULK AT MOST 1048576: true; the input reads as it did. -/
def head64ProtoUptoRow : OpenClaim := { program := "ytkihhmnlefekoaa", sum := "f3b94a919c6d7db822b2ab3c41236c14273937927f0e883c553fc432365f3c21", func := "interpreter/interpreterlaw13.Head64Proto", spec := "head64Proto", apart := false, narrowed := true }
def Head64ProtoUptoSaid : Prop := head64ProtoUptoRow.holds Try.pinned (OpenSpec.upto head64ProtoSpec)

end Rows
end Go.Proofs.Ytkihhmnlefekoaa
