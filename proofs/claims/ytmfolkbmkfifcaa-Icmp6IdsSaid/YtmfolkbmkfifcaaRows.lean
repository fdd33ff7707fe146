/-
  No cell of these rows narrows 'for every input' (looked for: loops, veiled, ifaces, maps, wideKeys, modest, calm, conditions, laid).
  DERIVED. THE GIVEN ROWS OF THIS SEAT. 5 by the template 'for every input the law returns true; each argument reads behind the call as it read before'; 0 by the template 'total and deterministic' (their statements: YtmfolkbmkfifcaaTotals.lean).
  GIVEN WITH THE SEED: the statements are not yours to turn. If you find one false, say at which input.
  Laid BY PROGRAM, IN A SANDBOX (cutbox-rows.mjs): the forced cells as the released guide's own fill.sh prints them over the translation bc538d95f85b5bba… (all of the seat's roots in one cut). By AI agents, Wed Nov 11 2026. No macro, syntax, notation, axiom, sorry.
-/
import Derived.Test.YtmfolkbmkfifcaaChecked
import GoSem.Claim
import GoSem.ClaimJoined
import GoSem.ClaimMapViews
import Derived.JoinedTies
import Derived.KernelRfl
namespace Go.Proofs.Ytmfolkbmkfifcaa
/- THE CELL 'sum', in the pinned program and in every row, IS THE sha256 OF THE DUMP (.gsa) THAT YtmfolkbmkfifcaaProg.lean LOADS. Nothing in Lean hashes anything: it is a label: what it is worth is what the hold of that sum in a sandbox is worth. -/
noncomputable def Try.pinned : Pinned := { name := "ytmfolkbmkfifcaa", sum := "bc538d95f85b5bba7f012bb9e7aa663c8b7241389629778ab70dd38e11f5e301", checked := Try.checked }
namespace Rows
def none {H : Type} : Left H := { results := [], args := [] }

/-- 'interpreterlaw08.Icmp6Known': WHATEVER THE INPUT: true; the input reads as it did. -/
def icmp6KnownSpec : ChangeSpec := { name := "icmp6Known", fn := fun _ => fun
  | [] => { results := [.lit (.bool true)], args := [] }
  | _ => none }
def icmp6KnownRow : OpenClaim := { program := "ytmfolkbmkfifcaa", sum := "bc538d95f85b5bba7f012bb9e7aa663c8b7241389629778ab70dd38e11f5e301", func := "interpreter/interpreterlaw08.Icmp6Known", spec := "icmp6Known", apart := false }
def Icmp6KnownSaid : Prop := icmp6KnownRow.holds Try.pinned (OpenSpec.ofChange icmp6KnownSpec)

/-- ITS FALSE NEIGHBOUR: 'it returns false'. Refute it at one input. -/
def icmp6KnownWrong : ChangeSpec := { name := "icmp6Known", fn := fun _ => fun
  | [] => { results := [.lit (.bool false)], args := [] }
  | _ => none }
def Icmp6KnownWrongFalsely : Prop := icmp6KnownRow.holds Try.pinned (OpenSpec.ofChange icmp6KnownWrong)

/-- 'interpreterlaw08.Icmp6Codes': WHATEVER THE INPUT: true; the input reads as it did. -/
def icmp6CodesSpec : ChangeSpec := { name := "icmp6Codes", fn := fun _ => fun
  | [d1, d2, d3] => { results := [.lit (.bool true)], args := [d1, d2, d3] }
  | _ => none }
def icmp6CodesRow : OpenClaim := { program := "ytmfolkbmkfifcaa", sum := "bc538d95f85b5bba7f012bb9e7aa663c8b7241389629778ab70dd38e11f5e301", func := "interpreter/interpreterlaw08.Icmp6Codes", spec := "icmp6Codes", apart := false }
def Icmp6CodesSaid : Prop := icmp6CodesRow.holds Try.pinned (OpenSpec.ofChange icmp6CodesSpec)

/-- ITS FALSE NEIGHBOUR: 'it returns false'. Refute it at one input. -/
def icmp6CodesWrong : ChangeSpec := { name := "icmp6Codes", fn := fun _ => fun
  | [d1, d2, d3] => { results := [.lit (.bool false)], args := [d1, d2, d3] }
  | _ => none }
def Icmp6CodesWrongFalsely : Prop := icmp6CodesRow.holds Try.pinned (OpenSpec.ofChange icmp6CodesWrong)

/-- 'interpreterlaw08.Icmp6Tells': WHATEVER THE INPUT: true; the input reads as it did. -/
def icmp6TellsSpec : ChangeSpec := { name := "icmp6Tells", fn := fun _ => fun
  | [d1, d2] => { results := [.lit (.bool true)], args := [d1, d2] }
  | _ => none }
def icmp6TellsRow : OpenClaim := { program := "ytmfolkbmkfifcaa", sum := "bc538d95f85b5bba7f012bb9e7aa663c8b7241389629778ab70dd38e11f5e301", func := "interpreter/interpreterlaw08.Icmp6Tells", spec := "icmp6Tells", apart := false }
def Icmp6TellsSaid : Prop := icmp6TellsRow.holds Try.pinned (OpenSpec.ofChange icmp6TellsSpec)

/-- ITS FALSE NEIGHBOUR: 'it returns false'. Refute it at one input. -/
def icmp6TellsWrong : ChangeSpec := { name := "icmp6Tells", fn := fun _ => fun
  | [d1, d2] => { results := [.lit (.bool false)], args := [d1, d2] }
  | _ => none }
def Icmp6TellsWrongFalsely : Prop := icmp6TellsRow.holds Try.pinned (OpenSpec.ofChange icmp6TellsWrong)

/-- 'interpreterlaw08.Icmp6Back': WHATEVER THE INPUT: true; the input reads as it did. -/
def icmp6BackSpec : ChangeSpec := { name := "icmp6Back", fn := fun _ => fun
  | [d1, d2, d3, d4, d5] => { results := [.lit (.bool true)], args := [d1, d2, d3, d4, d5] }
  | _ => none }
def icmp6BackRow : OpenClaim := { program := "ytmfolkbmkfifcaa", sum := "bc538d95f85b5bba7f012bb9e7aa663c8b7241389629778ab70dd38e11f5e301", func := "interpreter/interpreterlaw08.Icmp6Back", spec := "icmp6Back", apart := false }
def Icmp6BackSaid : Prop := icmp6BackRow.holds Try.pinned (OpenSpec.ofChange icmp6BackSpec)

/-- ITS FALSE NEIGHBOUR: 'it returns false'. Refute it at one input. -/
def icmp6BackWrong : ChangeSpec := { name := "icmp6Back", fn := fun _ => fun
  | [d1, d2, d3, d4, d5] => { results := [.lit (.bool false)], args := [d1, d2, d3, d4, d5] }
  | _ => none }
def Icmp6BackWrongFalsely : Prop := icmp6BackRow.holds Try.pinned (OpenSpec.ofChange icmp6BackWrong)

/-- 'interpreterlaw08.Icmp6Ids': WHATEVER THE INPUT: true; the input reads as it did. -/
def icmp6IdsSpec : ChangeSpec := { name := "icmp6Ids", fn := fun _ => fun
  | [d1, d2] => { results := [.lit (.bool true)], args := [d1, d2] }
  | _ => none }
def icmp6IdsRow : OpenClaim := { program := "ytmfolkbmkfifcaa", sum := "bc538d95f85b5bba7f012bb9e7aa663c8b7241389629778ab70dd38e11f5e301", func := "interpreter/interpreterlaw08.Icmp6Ids", spec := "icmp6Ids", apart := false }
def Icmp6IdsSaid : Prop := icmp6IdsRow.holds Try.pinned (OpenSpec.ofChange icmp6IdsSpec)

/-- ITS FALSE NEIGHBOUR: 'it returns false'. Refute it at one input. -/
def icmp6IdsWrong : ChangeSpec := { name := "icmp6Ids", fn := fun _ => fun
  | [d1, d2] => { results := [.lit (.bool false)], args := [d1, d2] }
  | _ => none }
def Icmp6IdsWrongFalsely : Prop := icmp6IdsRow.holds Try.pinned (OpenSpec.ofChange icmp6IdsWrong)

/- THE SECOND FORM. 'bulk': how many values and letters a reading holds, each counted each time it is reached (what is shared counts as often as it is met; a slice's spare places count too). A statement '..UptoSaid' is the law's where the arguments, and the package variables that the reading takes, are together of bulk at most 1048576: NARROWER than '..Said'. Prove '..Said' where nothing that the law and all that it calls make is longer than what came in: it says more and counts as full. Else prove '..UptoSaid'. A law counts once. -/
mutual
def uptoBulk {H : Type} : DataW H → Nat
  | .lit (.string bytes) => bytes.length + 1
  | .lit _ => 1
  | .nil => 1
  | .ptr d => uptoBulk d + 1
  | .slice elems spare => uptoBulkAll elems + uptoBulkAll spare + 1
  | .agg parts => uptoBulkAll parts + 1
  | .iface _ d => uptoBulk d + 1
  | .map entries => uptoBulkEntries entries + 1
  | .held _ => 1
def uptoBulkAll {H : Type} : List (DataW H) → Nat
  | [] => 0
  | d :: r => uptoBulk d + uptoBulkAll r
def uptoBulkEntries {H : Type} : List (Lit × DataW H) → Nat
  | [] => 0
  | x :: r => uptoBulkEntry x + uptoBulkEntries r
def uptoBulkEntry {H : Type} : Lit × DataW H → Nat
  | (.string bytes, d) => bytes.length + uptoBulk d + 1
  | (_, d) => uptoBulk d + 1
 end
def uptoSmall : (H : Type) → List (DataW H) → Bool := fun _ ds => decide (uptoBulkAll ds ≤ 1048576)
def OpenSpec.upto (s : _root_.Go.ChangeSpec) : _root_.Go.OpenSpec := { _root_.Go.OpenSpec.ofChange s with cond := some uptoSmall }

/-- 'interpreterlaw08.Icmp6Known', WHERE WHAT IT READS IS OF BULK AT MOST 1048576: true; the input reads as it did. -/
def icmp6KnownUptoRow : OpenClaim := { program := "ytmfolkbmkfifcaa", sum := "bc538d95f85b5bba7f012bb9e7aa663c8b7241389629778ab70dd38e11f5e301", func := "interpreter/interpreterlaw08.Icmp6Known", spec := "icmp6Known", apart := false, narrowed := true }
def Icmp6KnownUptoSaid : Prop := icmp6KnownUptoRow.holds Try.pinned (OpenSpec.upto icmp6KnownSpec)

/-- 'interpreterlaw08.Icmp6Codes', WHERE WHAT IT READS IS OF BULK AT MOST 1048576: true; the input reads as it did. -/
def icmp6CodesUptoRow : OpenClaim := { program := "ytmfolkbmkfifcaa", sum := "bc538d95f85b5bba7f012bb9e7aa663c8b7241389629778ab70dd38e11f5e301", func := "interpreter/interpreterlaw08.Icmp6Codes", spec := "icmp6Codes", apart := false, narrowed := true }
def Icmp6CodesUptoSaid : Prop := icmp6CodesUptoRow.holds Try.pinned (OpenSpec.upto icmp6CodesSpec)

/-- 'interpreterlaw08.Icmp6Tells', WHERE WHAT IT READS IS OF BULK AT MOST 1048576: true; the input reads as it did. -/
def icmp6TellsUptoRow : OpenClaim := { program := "ytmfolkbmkfifcaa", sum := "bc538d95f85b5bba7f012bb9e7aa663c8b7241389629778ab70dd38e11f5e301", func := "interpreter/interpreterlaw08.Icmp6Tells", spec := "icmp6Tells", apart := false, narrowed := true }
def Icmp6TellsUptoSaid : Prop := icmp6TellsUptoRow.holds Try.pinned (OpenSpec.upto icmp6TellsSpec)

/-- 'interpreterlaw08.Icmp6Back', WHERE WHAT IT READS IS OF BULK AT MOST 1048576: true; the input reads as it did. -/
def icmp6BackUptoRow : OpenClaim := { program := "ytmfolkbmkfifcaa", sum := "bc538d95f85b5bba7f012bb9e7aa663c8b7241389629778ab70dd38e11f5e301", func := "interpreter/interpreterlaw08.Icmp6Back", spec := "icmp6Back", apart := false, narrowed := true }
def Icmp6BackUptoSaid : Prop := icmp6BackUptoRow.holds Try.pinned (OpenSpec.upto icmp6BackSpec)

/-- 'interpreterlaw08.Icmp6Ids', WHERE WHAT IT READS IS OF BULK AT MOST 1048576: true; the input reads as it did. -/
def icmp6IdsUptoRow : OpenClaim := { program := "ytmfolkbmkfifcaa", sum := "bc538d95f85b5bba7f012bb9e7aa663c8b7241389629778ab70dd38e11f5e301", func := "interpreter/interpreterlaw08.Icmp6Ids", spec := "icmp6Ids", apart := false, narrowed := true }
def Icmp6IdsUptoSaid : Prop := icmp6IdsUptoRow.holds Try.pinned (OpenSpec.upto icmp6IdsSpec)

end Rows
end Go.Proofs.Ytmfolkbmkfifcaa
