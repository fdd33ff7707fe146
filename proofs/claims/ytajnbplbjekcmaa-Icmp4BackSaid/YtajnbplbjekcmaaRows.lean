/-
  No cell of these rows narrows 'for every input' (looked for: loops, veiled, ifaces, maps, wideKeys, modest, calm, conditions, laid).
  DERIVED. THE GIVEN ROWS OF THIS SEAT. 5 by the template 'for every input the law returns true; each argument reads behind the call as it read before'; 0 by the template 'total and deterministic' (their statements: YtajnbplbjekcmaaTotals.lean).
  GIVEN WITH THE SEED: the statements are not yours to turn. If you find one false, say at which input.
  Laid BY PROGRAM, IN A SANDBOX (cutbox-rows.mjs): the forced cells as the released guide's own fill.sh prints them over the translation e67e90f7f83c5be8… (all of the seat's roots in one cut). By AI agents, Wed Nov 11 2026. No macro, syntax, notation, axiom, sorry.
-/
import Derived.Test.YtajnbplbjekcmaaChecked
import GoSem.Claim
import GoSem.ClaimJoined
import GoSem.ClaimMapViews
import Derived.JoinedTies
import Derived.KernelRfl
namespace Go.Proofs.Ytajnbplbjekcmaa
/- THE CELL 'sum', in the pinned program and in every row, IS THE sha256 OF THE DUMP (.gsa) THAT YtajnbplbjekcmaaProg.lean LOADS. Nothing in Lean hashes anything: it is a label: what it is worth is what the hold of that sum in a sandbox is worth. -/
noncomputable def Try.pinned : Pinned := { name := "ytajnbplbjekcmaa", sum := "e67e90f7f83c5be8d2f759b5b5aedefa9b37d1beda8d8609bf091015a750729a", checked := Try.checked }
namespace Rows
def none {H : Type} : Left H := { results := [], args := [] }

/-- 'interpreterlaw07.Icmp4Known': WHATEVER THE INPUT: true; the input reads as it did. -/
def icmp4KnownSpec : ChangeSpec := { name := "icmp4Known", fn := fun _ => fun
  | [] => { results := [.lit (.bool true)], args := [] }
  | _ => none }
def icmp4KnownRow : OpenClaim := { program := "ytajnbplbjekcmaa", sum := "e67e90f7f83c5be8d2f759b5b5aedefa9b37d1beda8d8609bf091015a750729a", func := "interpreter/interpreterlaw07.Icmp4Known", spec := "icmp4Known", apart := false }
def Icmp4KnownSaid : Prop := icmp4KnownRow.holds Try.pinned (OpenSpec.ofChange icmp4KnownSpec)

/-- ITS FALSE NEIGHBOUR: 'it returns false'. Refute it at one input. -/
def icmp4KnownWrong : ChangeSpec := { name := "icmp4Known", fn := fun _ => fun
  | [] => { results := [.lit (.bool false)], args := [] }
  | _ => none }
def Icmp4KnownWrongFalsely : Prop := icmp4KnownRow.holds Try.pinned (OpenSpec.ofChange icmp4KnownWrong)

/-- 'interpreterlaw07.Icmp4Codes': WHATEVER THE INPUT: true; the input reads as it did. -/
def icmp4CodesSpec : ChangeSpec := { name := "icmp4Codes", fn := fun _ => fun
  | [d1, d2] => { results := [.lit (.bool true)], args := [d1, d2] }
  | _ => none }
def icmp4CodesRow : OpenClaim := { program := "ytajnbplbjekcmaa", sum := "e67e90f7f83c5be8d2f759b5b5aedefa9b37d1beda8d8609bf091015a750729a", func := "interpreter/interpreterlaw07.Icmp4Codes", spec := "icmp4Codes", apart := false }
def Icmp4CodesSaid : Prop := icmp4CodesRow.holds Try.pinned (OpenSpec.ofChange icmp4CodesSpec)

/-- ITS FALSE NEIGHBOUR: 'it returns false'. Refute it at one input. -/
def icmp4CodesWrong : ChangeSpec := { name := "icmp4Codes", fn := fun _ => fun
  | [d1, d2] => { results := [.lit (.bool false)], args := [d1, d2] }
  | _ => none }
def Icmp4CodesWrongFalsely : Prop := icmp4CodesRow.holds Try.pinned (OpenSpec.ofChange icmp4CodesWrong)

/-- 'interpreterlaw07.Icmp4Tells': WHATEVER THE INPUT: true; the input reads as it did. -/
def icmp4TellsSpec : ChangeSpec := { name := "icmp4Tells", fn := fun _ => fun
  | [d1, d2] => { results := [.lit (.bool true)], args := [d1, d2] }
  | _ => none }
def icmp4TellsRow : OpenClaim := { program := "ytajnbplbjekcmaa", sum := "e67e90f7f83c5be8d2f759b5b5aedefa9b37d1beda8d8609bf091015a750729a", func := "interpreter/interpreterlaw07.Icmp4Tells", spec := "icmp4Tells", apart := false }
def Icmp4TellsSaid : Prop := icmp4TellsRow.holds Try.pinned (OpenSpec.ofChange icmp4TellsSpec)

/-- ITS FALSE NEIGHBOUR: 'it returns false'. Refute it at one input. -/
def icmp4TellsWrong : ChangeSpec := { name := "icmp4Tells", fn := fun _ => fun
  | [d1, d2] => { results := [.lit (.bool false)], args := [d1, d2] }
  | _ => none }
def Icmp4TellsWrongFalsely : Prop := icmp4TellsRow.holds Try.pinned (OpenSpec.ofChange icmp4TellsWrong)

/-- 'interpreterlaw07.Icmp4Back': WHATEVER THE INPUT: true; the input reads as it did. -/
def icmp4BackSpec : ChangeSpec := { name := "icmp4Back", fn := fun _ => fun
  | [d1, d2, d3, d4] => { results := [.lit (.bool true)], args := [d1, d2, d3, d4] }
  | _ => none }
def icmp4BackRow : OpenClaim := { program := "ytajnbplbjekcmaa", sum := "e67e90f7f83c5be8d2f759b5b5aedefa9b37d1beda8d8609bf091015a750729a", func := "interpreter/interpreterlaw07.Icmp4Back", spec := "icmp4Back", apart := false }
def Icmp4BackSaid : Prop := icmp4BackRow.holds Try.pinned (OpenSpec.ofChange icmp4BackSpec)

/-- ITS FALSE NEIGHBOUR: 'it returns false'. Refute it at one input. -/
def icmp4BackWrong : ChangeSpec := { name := "icmp4Back", fn := fun _ => fun
  | [d1, d2, d3, d4] => { results := [.lit (.bool false)], args := [d1, d2, d3, d4] }
  | _ => none }
def Icmp4BackWrongFalsely : Prop := icmp4BackRow.holds Try.pinned (OpenSpec.ofChange icmp4BackWrong)

/-- 'interpreterlaw07.Icmp4Ids': WHATEVER THE INPUT: true; the input reads as it did. -/
def icmp4IdsSpec : ChangeSpec := { name := "icmp4Ids", fn := fun _ => fun
  | [d1, d2] => { results := [.lit (.bool true)], args := [d1, d2] }
  | _ => none }
def icmp4IdsRow : OpenClaim := { program := "ytajnbplbjekcmaa", sum := "e67e90f7f83c5be8d2f759b5b5aedefa9b37d1beda8d8609bf091015a750729a", func := "interpreter/interpreterlaw07.Icmp4Ids", spec := "icmp4Ids", apart := false }
def Icmp4IdsSaid : Prop := icmp4IdsRow.holds Try.pinned (OpenSpec.ofChange icmp4IdsSpec)

/-- ITS FALSE NEIGHBOUR: 'it returns false'. Refute it at one input. -/
def icmp4IdsWrong : ChangeSpec := { name := "icmp4Ids", fn := fun _ => fun
  | [d1, d2] => { results := [.lit (.bool false)], args := [d1, d2] }
  | _ => none }
def Icmp4IdsWrongFalsely : Prop := icmp4IdsRow.holds Try.pinned (OpenSpec.ofChange icmp4IdsWrong)

/- THE SECOND FORM. 'bulk': how many values and letters a reading holds, each counted each time it is reached (what is shared counts as often as it is met; a slice's spare places count too). A statement '..UptoSaid' is the law's where the arguments, and the package variables that the reading takes, are together of bulk at most 1048576: NARROWER than '..Said'. Prove '..Said' where nothing that the law and all that it calls make is longer than what came in: it says more and counts as full. Else prove '..UptoSaid'. A law counts once. -/
mutual
def uptoBulk {H : Type} : DataW H → Nat
  | .lit (.string bytes) => bytes.length + 1
  | .lit _ => 1
  | .nil => 1
  | .ptr d => uptoBulk d + 1
  | .slice elems spare => uptoBulkAll elems + uptoBulkAll spare + 1
  | .agg parts => uptoBulkAll parts + 1
  | .iface _ d => uptoBulk d + 1
  | .map entries => uptoBulkEntries entries + 1
  | .held _ => 1
def uptoBulkAll {H : Type} : List (DataW H) → Nat
  | [] => 0
  | d :: r => uptoBulk d + uptoBulkAll r
def uptoBulkEntries {H : Type} : List (Lit × DataW H) → Nat
  | [] => 0
  | x :: r => uptoBulkEntry x + uptoBulkEntries r
def uptoBulkEntry {H : Type} : Lit × DataW H → Nat
  | (.string bytes, d) => bytes.length + uptoBulk d + 1
  | (_, d) => uptoBulk d + 1
 end
def uptoSmall : (H : Type) → List (DataW H) → Bool := fun _ ds => decide (uptoBulkAll ds ≤ 1048576)
def OpenSpec.upto (s : _root_.Go.ChangeSpec) : _root_.Go.OpenSpec := { _root_.Go.OpenSpec.ofChange s with cond := some uptoSmall }

/-- 'interpreterlaw07.Icmp4Known', WHERE WHAT IT READS IS OF BULK AT MOST 1048576: true; the input reads as it did. -/
def icmp4KnownUptoRow : OpenClaim := { program := "ytajnbplbjekcmaa", sum := "e67e90f7f83c5be8d2f759b5b5aedefa9b37d1beda8d8609bf091015a750729a", func := "interpreter/interpreterlaw07.Icmp4Known", spec := "icmp4Known", apart := false, narrowed := true }
def Icmp4KnownUptoSaid : Prop := icmp4KnownUptoRow.holds Try.pinned (OpenSpec.upto icmp4KnownSpec)

/-- 'interpreterlaw07.Icmp4Codes', WHERE WHAT IT READS IS OF BULK AT MOST 1048576: true; the input reads as it did. -/
def icmp4CodesUptoRow : OpenClaim := { program := "ytajnbplbjekcmaa", sum := "e67e90f7f83c5be8d2f759b5b5aedefa9b37d1beda8d8609bf091015a750729a", func := "interpreter/interpreterlaw07.Icmp4Codes", spec := "icmp4Codes", apart := false, narrowed := true }
def Icmp4CodesUptoSaid : Prop := icmp4CodesUptoRow.holds Try.pinned (OpenSpec.upto icmp4CodesSpec)

/-- 'interpreterlaw07.Icmp4Tells', WHERE WHAT IT READS IS OF BULK AT MOST 1048576: true; the input reads as it did. -/
def icmp4TellsUptoRow : OpenClaim := { program := "ytajnbplbjekcmaa", sum := "e67e90f7f83c5be8d2f759b5b5aedefa9b37d1beda8d8609bf091015a750729a", func := "interpreter/interpreterlaw07.Icmp4Tells", spec := "icmp4Tells", apart := false, narrowed := true }
def Icmp4TellsUptoSaid : Prop := icmp4TellsUptoRow.holds Try.pinned (OpenSpec.upto icmp4TellsSpec)

/-- 'interpreterlaw07.Icmp4Back', WHERE WHAT IT READS IS OF BULK AT MOST 1048576: true; the input reads as it did. -/
def icmp4BackUptoRow : OpenClaim := { program := "ytajnbplbjekcmaa", sum := "e67e90f7f83c5be8d2f759b5b5aedefa9b37d1beda8d8609bf091015a750729a", func := "interpreter/interpreterlaw07.Icmp4Back", spec := "icmp4Back", apart := false, narrowed := true }
def Icmp4BackUptoSaid : Prop := icmp4BackUptoRow.holds Try.pinned (OpenSpec.upto icmp4BackSpec)

/-- 'interpreterlaw07.Icmp4Ids', WHERE WHAT IT READS IS OF BULK AT MOST 1048576: true; the input reads as it did. -/
def icmp4IdsUptoRow : OpenClaim := { program := "ytajnbplbjekcmaa", sum := "e67e90f7f83c5be8d2f759b5b5aedefa9b37d1beda8d8609bf091015a750729a", func := "interpreter/interpreterlaw07.Icmp4Ids", spec := "icmp4Ids", apart := false, narrowed := true }
def Icmp4IdsUptoSaid : Prop := icmp4IdsUptoRow.holds Try.pinned (OpenSpec.upto icmp4IdsSpec)

end Rows
end Go.Proofs.Ytajnbplbjekcmaa
