/-
  No cell of these rows narrows 'for every input' (looked for: loops, veiled, ifaces, maps, wideKeys, modest, calm, conditions, laid).
  DERIVED. THE GIVEN ROWS OF THIS SEAT. 7 by the template 'for every input the law returns true; each argument reads behind the call as it read before'; 0 by the template 'total and deterministic' (their statements: YtpjcanejenmldaaTotals.lean).
  GIVEN WITH THE SEED: the statements are not yours to turn. If you find one false, say at which input.
  Laid BY PROGRAM, IN A SANDBOX (cutbox-rows.mjs): the forced cells as the released guide's own fill.sh prints them over the translation 9ede9f6a064c88c7… (all of the seat's roots in one cut). By AI agents, Wed Nov 11 2026. No macro, syntax, notation, axiom, sorry.
-/
import Derived.Test.YtpjcanejenmldaaChecked
import GoSem.Claim
import GoSem.ClaimJoined
import GoSem.ClaimMapViews
import Derived.JoinedTies
import Derived.KernelRfl
namespace Go.Proofs.Ytpjcanejenmldaa
/- THE CELL 'sum', in the pinned program and in every row, IS THE sha256 OF THE DUMP (.gsa) THAT YtpjcanejenmldaaProg.lean LOADS. Nothing in Lean hashes anything: it is a label: what it is worth is what the hold of that sum in a sandbox is worth. -/
noncomputable def Try.pinned : Pinned := { name := "ytpjcanejenmldaa", sum := "9ede9f6a064c88c7cb9846539076dfbcdf48f82a83009569e49a509eb3a3ed96", checked := Try.checked }
namespace Rows
def none {H : Type} : Left H := { results := [], args := [] }

/-- 'interpreterlaw09.EmbedKnown': WHATEVER THE INPUT: true; the input reads as it did. -/
def embedKnownSpec : ChangeSpec := { name := "embedKnown", fn := fun _ => fun
  | [] => { results := [.lit (.bool true)], args := [] }
  | _ => none }
def embedKnownRow : OpenClaim := { program := "ytpjcanejenmldaa", sum := "9ede9f6a064c88c7cb9846539076dfbcdf48f82a83009569e49a509eb3a3ed96", func := "interpreter/interpreterlaw09.EmbedKnown", spec := "embedKnown", apart := false }
def EmbedKnownSaid : Prop := embedKnownRow.holds Try.pinned (OpenSpec.ofChange embedKnownSpec)

/-- ITS FALSE NEIGHBOUR: 'it returns false'. Refute it at one input. -/
def embedKnownWrong : ChangeSpec := { name := "embedKnown", fn := fun _ => fun
  | [] => { results := [.lit (.bool false)], args := [] }
  | _ => none }
def EmbedKnownWrongFalsely : Prop := embedKnownRow.holds Try.pinned (OpenSpec.ofChange embedKnownWrong)

/-- 'interpreterlaw09.EmbedDoes': WHATEVER THE INPUT: true; the input reads as it did. -/
def embedDoesSpec : ChangeSpec := { name := "embedDoes", fn := fun _ => fun
  | [d1, d2, d3] => { results := [.lit (.bool true)], args := [d1, d2, d3] }
  | _ => none }
def embedDoesRow : OpenClaim := { program := "ytpjcanejenmldaa", sum := "9ede9f6a064c88c7cb9846539076dfbcdf48f82a83009569e49a509eb3a3ed96", func := "interpreter/interpreterlaw09.EmbedDoes", spec := "embedDoes", apart := false }
def EmbedDoesSaid : Prop := embedDoesRow.holds Try.pinned (OpenSpec.ofChange embedDoesSpec)

/-- ITS FALSE NEIGHBOUR: 'it returns false'. Refute it at one input. -/
def embedDoesWrong : ChangeSpec := { name := "embedDoes", fn := fun _ => fun
  | [d1, d2, d3] => { results := [.lit (.bool false)], args := [d1, d2, d3] }
  | _ => none }
def EmbedDoesWrongFalsely : Prop := embedDoesRow.holds Try.pinned (OpenSpec.ofChange embedDoesWrong)

/-- 'interpreterlaw09.EmbedNear': WHATEVER THE INPUT: true; the input reads as it did. -/
def embedNearSpec : ChangeSpec := { name := "embedNear", fn := fun _ => fun
  | [d1, d2, d3, d4, d5] => { results := [.lit (.bool true)], args := [d1, d2, d3, d4, d5] }
  | _ => none }
def embedNearRow : OpenClaim := { program := "ytpjcanejenmldaa", sum := "9ede9f6a064c88c7cb9846539076dfbcdf48f82a83009569e49a509eb3a3ed96", func := "interpreter/interpreterlaw09.EmbedNear", spec := "embedNear", apart := false }
def EmbedNearSaid : Prop := embedNearRow.holds Try.pinned (OpenSpec.ofChange embedNearSpec)

/-- ITS FALSE NEIGHBOUR: 'it returns false'. Refute it at one input. -/
def embedNearWrong : ChangeSpec := { name := "embedNear", fn := fun _ => fun
  | [d1, d2, d3, d4, d5] => { results := [.lit (.bool false)], args := [d1, d2, d3, d4, d5] }
  | _ => none }
def EmbedNearWrongFalsely : Prop := embedNearRow.holds Try.pinned (OpenSpec.ofChange embedNearWrong)

/-- 'interpreterlaw09.EmbedBack': WHATEVER THE INPUT: true; the input reads as it did. -/
def embedBackSpec : ChangeSpec := { name := "embedBack", fn := fun _ => fun
  | [d1, d2, d3, d4] => { results := [.lit (.bool true)], args := [d1, d2, d3, d4] }
  | _ => none }
def embedBackRow : OpenClaim := { program := "ytpjcanejenmldaa", sum := "9ede9f6a064c88c7cb9846539076dfbcdf48f82a83009569e49a509eb3a3ed96", func := "interpreter/interpreterlaw09.EmbedBack", spec := "embedBack", apart := false }
def EmbedBackSaid : Prop := embedBackRow.holds Try.pinned (OpenSpec.ofChange embedBackSpec)

/-- ITS FALSE NEIGHBOUR: 'it returns false'. Refute it at one input. -/
def embedBackWrong : ChangeSpec := { name := "embedBack", fn := fun _ => fun
  | [d1, d2, d3, d4] => { results := [.lit (.bool false)], args := [d1, d2, d3, d4] }
  | _ => none }
def EmbedBackWrongFalsely : Prop := embedBackRow.holds Try.pinned (OpenSpec.ofChange embedBackWrong)

/-- 'interpreterlaw09.EmbedOnce': WHATEVER THE INPUT: true; the input reads as it did. -/
def embedOnceSpec : ChangeSpec := { name := "embedOnce", fn := fun _ => fun
  | [d1, d2] => { results := [.lit (.bool true)], args := [d1, d2] }
  | _ => none }
def embedOnceRow : OpenClaim := { program := "ytpjcanejenmldaa", sum := "9ede9f6a064c88c7cb9846539076dfbcdf48f82a83009569e49a509eb3a3ed96", func := "interpreter/interpreterlaw09.EmbedOnce", spec := "embedOnce", apart := false }
def EmbedOnceSaid : Prop := embedOnceRow.holds Try.pinned (OpenSpec.ofChange embedOnceSpec)

/-- ITS FALSE NEIGHBOUR: 'it returns false'. Refute it at one input. -/
def embedOnceWrong : ChangeSpec := { name := "embedOnce", fn := fun _ => fun
  | [d1, d2] => { results := [.lit (.bool false)], args := [d1, d2] }
  | _ => none }
def EmbedOnceWrongFalsely : Prop := embedOnceRow.holds Try.pinned (OpenSpec.ofChange embedOnceWrong)

/-- 'interpreterlaw09.EmbedApart': WHATEVER THE INPUT: true; the input reads as it did. -/
def embedApartSpec : ChangeSpec := { name := "embedApart", fn := fun _ => fun
  | [d1, d2, d3] => { results := [.lit (.bool true)], args := [d1, d2, d3] }
  | _ => none }
def embedApartRow : OpenClaim := { program := "ytpjcanejenmldaa", sum := "9ede9f6a064c88c7cb9846539076dfbcdf48f82a83009569e49a509eb3a3ed96", func := "interpreter/interpreterlaw09.EmbedApart", spec := "embedApart", apart := false }
def EmbedApartSaid : Prop := embedApartRow.holds Try.pinned (OpenSpec.ofChange embedApartSpec)

/-- ITS FALSE NEIGHBOUR: 'it returns false'. Refute it at one input. -/
def embedApartWrong : ChangeSpec := { name := "embedApart", fn := fun _ => fun
  | [d1, d2, d3] => { results := [.lit (.bool false)], args := [d1, d2, d3] }
  | _ => none }
def EmbedApartWrongFalsely : Prop := embedApartRow.holds Try.pinned (OpenSpec.ofChange embedApartWrong)

/-- 'interpreterlaw09.EmbedMoves': WHATEVER THE INPUT: true; the input reads as it did. -/
def embedMovesSpec : ChangeSpec := { name := "embedMoves", fn := fun _ => fun
  | [d1, d2, d3] => { results := [.lit (.bool true)], args := [d1, d2, d3] }
  | _ => none }
def embedMovesRow : OpenClaim := { program := "ytpjcanejenmldaa", sum := "9ede9f6a064c88c7cb9846539076dfbcdf48f82a83009569e49a509eb3a3ed96", func := "interpreter/interpreterlaw09.EmbedMoves", spec := "embedMoves", apart := false }
def EmbedMovesSaid : Prop := embedMovesRow.holds Try.pinned (OpenSpec.ofChange embedMovesSpec)

/-- ITS FALSE NEIGHBOUR: 'it returns false'. Refute it at one input. -/
def embedMovesWrong : ChangeSpec := { name := "embedMoves", fn := fun _ => fun
  | [d1, d2, d3] => { results := [.lit (.bool false)], args := [d1, d2, d3] }
  | _ => none }
def EmbedMovesWrongFalsely : Prop := embedMovesRow.holds Try.pinned (OpenSpec.ofChange embedMovesWrong)

/- THE SECOND FORM. 'bulk': how many values and letters a reading holds, each counted each time it is reached (what is shared counts as often as it is met; a slice's spare places count too). A statement '..UptoSaid' is the law's where the arguments, and the package variables that the reading takes, are together of bulk at most 1048576: NARROWER than '..Said'. Prove '..Said' where nothing that the law and all that it calls make is longer than what came in: it says more and counts as full. Else prove '..UptoSaid'. A law counts once. -/
mutual
def uptoBulk {H : Type} : DataW H → Nat
  | .lit (.string bytes) => bytes.length + 1
  | .lit _ => 1
  | .nil => 1
  | .ptr d => uptoBulk d + 1
  | .slice elems spare => uptoBulkAll elems + uptoBulkAll spare + 1
  | .agg parts => uptoBulkAll parts + 1
  | .iface _ d => uptoBulk d + 1
  | .map entries => uptoBulkEntries entries + 1
  | .held _ => 1
def uptoBulkAll {H : Type} : List (DataW H) → Nat
  | [] => 0
  | d :: r => uptoBulk d + uptoBulkAll r
def uptoBulkEntries {H : Type} : List (Lit × DataW H) → Nat
  | [] => 0
  | x :: r => uptoBulkEntry x + uptoBulkEntries r
def uptoBulkEntry {H : Type} : Lit × DataW H → Nat
  | (.string bytes, d) => bytes.length + uptoBulk d + 1
  | (_, d) => uptoBulk d + 1
 end
def uptoSmall : (H : Type) → List (DataW H) → Bool := fun _ ds => decide (uptoBulkAll ds ≤ 1048576)
def OpenSpec.upto (s : _root_.Go.ChangeSpec) : _root_.Go.OpenSpec := { _root_.Go.OpenSpec.ofChange s with cond := some uptoSmall }

/-- 'interpreterlaw09.EmbedKnown', WHERE WHAT IT READS IS OF BULK AT MOST 1048576: true; the input reads as it did. -/
def embedKnownUptoRow : OpenClaim := { program := "ytpjcanejenmldaa", sum := "9ede9f6a064c88c7cb9846539076dfbcdf48f82a83009569e49a509eb3a3ed96", func := "interpreter/interpreterlaw09.EmbedKnown", spec := "embedKnown", apart := false, narrowed := true }
def EmbedKnownUptoSaid : Prop := embedKnownUptoRow.holds Try.pinned (OpenSpec.upto embedKnownSpec)

/-- 'interpreterlaw09.EmbedDoes', WHERE WHAT IT READS IS OF BULK AT MOST 1048576: true; the input reads as it did. -/
def embedDoesUptoRow : OpenClaim := { program := "ytpjcanejenmldaa", sum := "9ede9f6a064c88c7cb9846539076dfbcdf48f82a83009569e49a509eb3a3ed96", func := "interpreter/interpreterlaw09.EmbedDoes", spec := "embedDoes", apart := false, narrowed := true }
def EmbedDoesUptoSaid : Prop := embedDoesUptoRow.holds Try.pinned (OpenSpec.upto embedDoesSpec)

/-- 'interpreterlaw09.EmbedNear', WHERE WHAT IT READS IS OF BULK AT MOST 1048576: true; the input reads as it did. -/
def embedNearUptoRow : OpenClaim := { program := "ytpjcanejenmldaa", sum := "9ede9f6a064c88c7cb9846539076dfbcdf48f82a83009569e49a509eb3a3ed96", func := "interpreter/interpreterlaw09.EmbedNear", spec := "embedNear", apart := false, narrowed := true }
def EmbedNearUptoSaid : Prop := embedNearUptoRow.holds Try.pinned (OpenSpec.upto embedNearSpec)

/-- 'interpreterlaw09.EmbedBack', WHERE WHAT IT READS IS OF BULK AT MOST 1048576: true; the input reads as it did. -/
def embedBackUptoRow : OpenClaim := { program := "ytpjcanejenmldaa", sum := "9ede9f6a064c88c7cb9846539076dfbcdf48f82a83009569e49a509eb3a3ed96", func := "interpreter/interpreterlaw09.EmbedBack", spec := "embedBack", apart := false, narrowed := true }
def EmbedBackUptoSaid : Prop := embedBackUptoRow.holds Try.pinned (OpenSpec.upto embedBackSpec)

/-- 'interpreterlaw09.EmbedOnce', WHERE WHAT IT READS IS OF BULK AT MOST 1048576: true; the input reads as it did. -/
def embedOnceUptoRow : OpenClaim := { program := "ytpjcanejenmldaa", sum := "9ede9f6a064c88c7cb9846539076dfbcdf48f82a83009569e49a509eb3a3ed96", func := "interpreter/interpreterlaw09.EmbedOnce", spec := "embedOnce", apart := false, narrowed := true }
def EmbedOnceUptoSaid : Prop := embedOnceUptoRow.holds Try.pinned (OpenSpec.upto embedOnceSpec)

/-- 'interpreterlaw09.EmbedApart', WHERE WHAT IT READS IS OF BULK AT MOST 1048576: true; the input reads as it did. -/
def embedApartUptoRow : OpenClaim := { program := "ytpjcanejenmldaa", sum := "9ede9f6a064c88c7cb9846539076dfbcdf48f82a83009569e49a509eb3a3ed96", func := "interpreter/interpreterlaw09.EmbedApart", spec := "embedApart", apart := false, narrowed := true }
def EmbedApartUptoSaid : Prop := embedApartUptoRow.holds Try.pinned (OpenSpec.upto embedApartSpec)

/-- 'interpreterlaw09.EmbedMoves', WHERE WHAT IT READS IS OF BULK AT MOST 1048576: true; the input reads as it did. -/
def embedMovesUptoRow : OpenClaim := { program := "ytpjcanejenmldaa", sum := "9ede9f6a064c88c7cb9846539076dfbcdf48f82a83009569e49a509eb3a3ed96", func := "interpreter/interpreterlaw09.EmbedMoves", spec := "embedMoves", apart := false, narrowed := true }
def EmbedMovesUptoSaid : Prop := embedMovesUptoRow.holds Try.pinned (OpenSpec.upto embedMovesSpec)

end Rows
end Go.Proofs.Ytpjcanejenmldaa
