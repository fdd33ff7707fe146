/-
  NARROWER THAN 'FOR EVERY INPUT', by the rows' own cells (each row's printed sentence says how): IcmpmapKnown: laid · IcmpmapSays: laid · IcmpmapAll: laid · IcmpmapOne: laid · IcmpmapBack: laid · IcmpmapPlateau: laid · IcmpmapMtus: laid · IcmpmapData: laid.
  DERIVED. THE GIVEN ROWS OF THIS SEAT. 8 by the template 'for every input the law returns true; each argument reads behind the call as it read before'; 0 by the template 'total and deterministic' (their statements: YtnehabpdpkjaeaaDoorTotals.lean).
  GIVEN WITH THE SEED: the statements are not yours to turn. If you find one false, say at which input.
  Laid BY PROGRAM, IN A SANDBOX (cutbox-rows.mjs): the forced cells as the released guide's own fill.sh prints them over the translation 5885517191d799ba… (all of the seat's roots in one cut). By AI agents, Wed Nov 11 2026. No macro, syntax, notation, axiom, sorry.
-/
import Derived.Test.YtnehabpdpkjaeaaDoorChecked
import GoSem.Claim
import GoSem.ClaimJoined
import GoSem.ClaimMapViews
import Derived.JoinedTies
import Derived.KernelRfl
namespace Go.Proofs.YtnehabpdpkjaeaaDoor
/- THE CELL 'sum', in the pinned program and in every row, IS THE sha256 OF THE DUMP (.gsa) THAT YtnehabpdpkjaeaaDoorProg.lean LOADS. Nothing in Lean hashes anything: it is a label: what it is worth is what the hold of that sum in a sandbox is worth. -/
noncomputable def Tryd.pinned : Pinned := { name := "ytnehabpdpkjaeaadoor", sum := "5885517191d799ba29cbe0978de0021ae1054f827d387bbdf2a283a03c6b6f52", checked := Tryd.checked }
namespace Rows
def none {H : Type} : Left H := { results := [], args := [] }

/- WHAT THE LISTED PACKAGE-LEVEL VARIABLES READ AS WHEN THE CALL BEGINS. Each datum BY PROGRAM (the guide's laid-datum.mjs) off the statement by which the dump's own 'gosem.cut.vars' lays the variable. In a bare row this is a premise. The card (YtnehabpdpkjaeaaDoorCards.lean) ties it to the program's text. -/
def laid_interpreter_icmpmap_plateaus {H : Type} : DataW H := .agg [.lit (.int .i64 65535), .lit (.int .i64 32000), .lit (.int .i64 17914), .lit (.int .i64 8166), .lit (.int .i64 4352), .lit (.int .i64 2002), .lit (.int .i64 1492), .lit (.int .i64 1006), .lit (.int .i64 508), .lit (.int .i64 296), .lit (.int .i64 68)]

/-- 'interpreterlaw14.IcmpmapKnown': WHATEVER THE INPUT: true; the input reads as it did. -/
def icmpmapKnownSpec : ChangeSpec := { name := "icmpmapKnown", fn := fun _ => fun
  | [] => { results := [.lit (.bool true)], args := [] }
  | _ => none }
def icmpmapKnownRow : OpenClaim := { program := "ytnehabpdpkjaeaadoor", sum := "5885517191d799ba29cbe0978de0021ae1054f827d387bbdf2a283a03c6b6f52", func := "interpreter/interpreterlaw14.IcmpmapKnown", spec := "icmpmapKnown", named := ["interpreter/icmpmap.plateaus"], apart := false, laid := [("interpreter/icmpmap.plateaus", laid_interpreter_icmpmap_plateaus)] }
def IcmpmapKnownSaid : Prop := icmpmapKnownRow.holds Tryd.pinned (OpenSpec.ofChange icmpmapKnownSpec)

/-- ITS FALSE NEIGHBOUR: 'it returns false'. Refute it at one input. -/
def icmpmapKnownWrong : ChangeSpec := { name := "icmpmapKnown", fn := fun _ => fun
  | [] => { results := [.lit (.bool false)], args := [] }
  | _ => none }
def IcmpmapKnownWrongFalsely : Prop := icmpmapKnownRow.holds Tryd.pinned (OpenSpec.ofChange icmpmapKnownWrong)

/-- 'interpreterlaw14.IcmpmapSays': WHATEVER THE INPUT: true; the input reads as it did. -/
def icmpmapSaysSpec : ChangeSpec := { name := "icmpmapSays", fn := fun _ => fun
  | [d1, d2, d3, d4] => { results := [.lit (.bool true)], args := [d1, d2, d3, d4] }
  | _ => none }
def icmpmapSaysRow : OpenClaim := { program := "ytnehabpdpkjaeaadoor", sum := "5885517191d799ba29cbe0978de0021ae1054f827d387bbdf2a283a03c6b6f52", func := "interpreter/interpreterlaw14.IcmpmapSays", spec := "icmpmapSays", named := ["interpreter/icmpmap.plateaus"], apart := false, laid := [("interpreter/icmpmap.plateaus", laid_interpreter_icmpmap_plateaus)] }
def IcmpmapSaysSaid : Prop := icmpmapSaysRow.holds Tryd.pinned (OpenSpec.ofChange icmpmapSaysSpec)

/-- ITS FALSE NEIGHBOUR: 'it returns false'. Refute it at one input. -/
def icmpmapSaysWrong : ChangeSpec := { name := "icmpmapSays", fn := fun _ => fun
  | [d1, d2, d3, d4] => { results := [.lit (.bool false)], args := [d1, d2, d3, d4] }
  | _ => none }
def IcmpmapSaysWrongFalsely : Prop := icmpmapSaysRow.holds Tryd.pinned (OpenSpec.ofChange icmpmapSaysWrong)

/-- 'interpreterlaw14.IcmpmapAll': WHATEVER THE INPUT: true; the input reads as it did. -/
def icmpmapAllSpec : ChangeSpec := { name := "icmpmapAll", fn := fun _ => fun
  | [d1, d2, d3, d4] => { results := [.lit (.bool true)], args := [d1, d2, d3, d4] }
  | _ => none }
def icmpmapAllRow : OpenClaim := { program := "ytnehabpdpkjaeaadoor", sum := "5885517191d799ba29cbe0978de0021ae1054f827d387bbdf2a283a03c6b6f52", func := "interpreter/interpreterlaw14.IcmpmapAll", spec := "icmpmapAll", named := ["interpreter/icmpmap.plateaus"], apart := false, laid := [("interpreter/icmpmap.plateaus", laid_interpreter_icmpmap_plateaus)] }
def IcmpmapAllSaid : Prop := icmpmapAllRow.holds Tryd.pinned (OpenSpec.ofChange icmpmapAllSpec)

/-- ITS FALSE NEIGHBOUR: 'it returns false'. Refute it at one input. -/
def icmpmapAllWrong : ChangeSpec := { name := "icmpmapAll", fn := fun _ => fun
  | [d1, d2, d3, d4] => { results := [.lit (.bool false)], args := [d1, d2, d3, d4] }
  | _ => none }
def IcmpmapAllWrongFalsely : Prop := icmpmapAllRow.holds Tryd.pinned (OpenSpec.ofChange icmpmapAllWrong)

/-- 'interpreterlaw14.IcmpmapOne': WHATEVER THE INPUT: true; the input reads as it did. -/
def icmpmapOneSpec : ChangeSpec := { name := "icmpmapOne", fn := fun _ => fun
  | [d1, d2, d3, d4] => { results := [.lit (.bool true)], args := [d1, d2, d3, d4] }
  | _ => none }
def icmpmapOneRow : OpenClaim := { program := "ytnehabpdpkjaeaadoor", sum := "5885517191d799ba29cbe0978de0021ae1054f827d387bbdf2a283a03c6b6f52", func := "interpreter/interpreterlaw14.IcmpmapOne", spec := "icmpmapOne", named := ["interpreter/icmpmap.plateaus"], apart := false, laid := [("interpreter/icmpmap.plateaus", laid_interpreter_icmpmap_plateaus)] }
def IcmpmapOneSaid : Prop := icmpmapOneRow.holds Tryd.pinned (OpenSpec.ofChange icmpmapOneSpec)

/-- ITS FALSE NEIGHBOUR: 'it returns false'. Refute it at one input. -/
def icmpmapOneWrong : ChangeSpec := { name := "icmpmapOne", fn := fun _ => fun
  | [d1, d2, d3, d4] => { results := [.lit (.bool false)], args := [d1, d2, d3, d4] }
  | _ => none }
def IcmpmapOneWrongFalsely : Prop := icmpmapOneRow.holds Tryd.pinned (OpenSpec.ofChange icmpmapOneWrong)

/-- 'interpreterlaw14.IcmpmapBack': WHATEVER THE INPUT: true; the input reads as it did. -/
def icmpmapBackSpec : ChangeSpec := { name := "icmpmapBack", fn := fun _ => fun
  | [d1, d2, d3, d4] => { results := [.lit (.bool true)], args := [d1, d2, d3, d4] }
  | _ => none }
def icmpmapBackRow : OpenClaim := { program := "ytnehabpdpkjaeaadoor", sum := "5885517191d799ba29cbe0978de0021ae1054f827d387bbdf2a283a03c6b6f52", func := "interpreter/interpreterlaw14.IcmpmapBack", spec := "icmpmapBack", named := ["interpreter/icmpmap.plateaus"], apart := false, laid := [("interpreter/icmpmap.plateaus", laid_interpreter_icmpmap_plateaus)] }
def IcmpmapBackSaid : Prop := icmpmapBackRow.holds Tryd.pinned (OpenSpec.ofChange icmpmapBackSpec)

/-- ITS FALSE NEIGHBOUR: 'it returns false'. Refute it at one input. -/
def icmpmapBackWrong : ChangeSpec := { name := "icmpmapBack", fn := fun _ => fun
  | [d1, d2, d3, d4] => { results := [.lit (.bool false)], args := [d1, d2, d3, d4] }
  | _ => none }
def IcmpmapBackWrongFalsely : Prop := icmpmapBackRow.holds Tryd.pinned (OpenSpec.ofChange icmpmapBackWrong)

/-- 'interpreterlaw14.IcmpmapPlateau': WHATEVER THE INPUT: true; the input reads as it did. -/
def icmpmapPlateauSpec : ChangeSpec := { name := "icmpmapPlateau", fn := fun _ => fun
  | [d1, d2] => { results := [.lit (.bool true)], args := [d1, d2] }
  | _ => none }
def icmpmapPlateauRow : OpenClaim := { program := "ytnehabpdpkjaeaadoor", sum := "5885517191d799ba29cbe0978de0021ae1054f827d387bbdf2a283a03c6b6f52", func := "interpreter/interpreterlaw14.IcmpmapPlateau", spec := "icmpmapPlateau", named := ["interpreter/icmpmap.plateaus"], apart := false, laid := [("interpreter/icmpmap.plateaus", laid_interpreter_icmpmap_plateaus)] }
def IcmpmapPlateauSaid : Prop := icmpmapPlateauRow.holds Tryd.pinned (OpenSpec.ofChange icmpmapPlateauSpec)

/-- ITS FALSE NEIGHBOUR: 'it returns false'. Refute it at one input. -/
def icmpmapPlateauWrong : ChangeSpec := { name := "icmpmapPlateau", fn := fun _ => fun
  | [d1, d2] => { results := [.lit (.bool false)], args := [d1, d2] }
  | _ => none }
def IcmpmapPlateauWrongFalsely : Prop := icmpmapPlateauRow.holds Tryd.pinned (OpenSpec.ofChange icmpmapPlateauWrong)

/-- 'interpreterlaw14.IcmpmapMtus': WHATEVER THE INPUT: true; the input reads as it did. -/
def icmpmapMtusSpec : ChangeSpec := { name := "icmpmapMtus", fn := fun _ => fun
  | [d1, d2, d3, d4, d5] => { results := [.lit (.bool true)], args := [d1, d2, d3, d4, d5] }
  | _ => none }
def icmpmapMtusRow : OpenClaim := { program := "ytnehabpdpkjaeaadoor", sum := "5885517191d799ba29cbe0978de0021ae1054f827d387bbdf2a283a03c6b6f52", func := "interpreter/interpreterlaw14.IcmpmapMtus", spec := "icmpmapMtus", named := ["interpreter/icmpmap.plateaus"], apart := false, laid := [("interpreter/icmpmap.plateaus", laid_interpreter_icmpmap_plateaus)] }
def IcmpmapMtusSaid : Prop := icmpmapMtusRow.holds Tryd.pinned (OpenSpec.ofChange icmpmapMtusSpec)

/-- ITS FALSE NEIGHBOUR: 'it returns false'. Refute it at one input. -/
def icmpmapMtusWrong : ChangeSpec := { name := "icmpmapMtus", fn := fun _ => fun
  | [d1, d2, d3, d4, d5] => { results := [.lit (.bool false)], args := [d1, d2, d3, d4, d5] }
  | _ => none }
def IcmpmapMtusWrongFalsely : Prop := icmpmapMtusRow.holds Tryd.pinned (OpenSpec.ofChange icmpmapMtusWrong)

/-- 'interpreterlaw14.IcmpmapData': WHATEVER THE INPUT: true; the input reads as it did. -/
def icmpmapDataSpec : ChangeSpec := { name := "icmpmapData", fn := fun _ => fun
  | [d1, d2, d3, d4, d5, d6] => { results := [.lit (.bool true)], args := [d1, d2, d3, d4, d5, d6] }
  | _ => none }
def icmpmapDataRow : OpenClaim := { program := "ytnehabpdpkjaeaadoor", sum := "5885517191d799ba29cbe0978de0021ae1054f827d387bbdf2a283a03c6b6f52", func := "interpreter/interpreterlaw14.IcmpmapData", spec := "icmpmapData", named := ["interpreter/icmpmap.plateaus"], apart := false, laid := [("interpreter/icmpmap.plateaus", laid_interpreter_icmpmap_plateaus)] }
def IcmpmapDataSaid : Prop := icmpmapDataRow.holds Tryd.pinned (OpenSpec.ofChange icmpmapDataSpec)

/-- ITS FALSE NEIGHBOUR: 'it returns false'. Refute it at one input. -/
def icmpmapDataWrong : ChangeSpec := { name := "icmpmapData", fn := fun _ => fun
  | [d1, d2, d3, d4, d5, d6] => { results := [.lit (.bool false)], args := [d1, d2, d3, d4, d5, d6] }
  | _ => none }
def IcmpmapDataWrongFalsely : Prop := icmpmapDataRow.holds Tryd.pinned (OpenSpec.ofChange icmpmapDataWrong)

/- THE SECOND FORM. 'bulk': how many values and letters a reading holds, each counted each time it is reached (what is shared counts as often as it is met; a slice's spare places count too). A statement '..UptoSaid' is the law's where the arguments, and the package variables that the reading takes, are together of bulk at most 1048576: NARROWER than '..Said'. Prove '..Said' where nothing that the law and all that it calls make is longer than what came in: it says more and counts as full. Else prove '..UptoSaid'. A law counts once. -/
mutual
def uptoBulk {H : Type} : DataW H → Nat
  | .lit (.string bytes) => bytes.length + 1
  | .lit _ => 1
  | .nil => 1
  | .ptr d => uptoBulk d + 1
  | .slice elems spare => uptoBulkAll elems + uptoBulkAll spare + 1
  | .agg parts => uptoBulkAll parts + 1
  | .iface _ d => uptoBulk d + 1
  | .map entries => uptoBulkEntries entries + 1
  | .held _ => 1
def uptoBulkAll {H : Type} : List (DataW H) → Nat
  | [] => 0
  | d :: r => uptoBulk d + uptoBulkAll r
def uptoBulkEntries {H : Type} : List (Lit × DataW H) → Nat
  | [] => 0
  | x :: r => uptoBulkEntry x + uptoBulkEntries r
def uptoBulkEntry {H : Type} : Lit × DataW H → Nat
  | (.string bytes, d) => bytes.length + uptoBulk d + 1
  | (_, d) => uptoBulk d + 1
 end
def uptoSmall : (H : Type) → List (DataW H) → Bool := fun _ ds => decide (uptoBulkAll ds ≤ 1048576)
def OpenSpec.upto (s : _root_.Go.ChangeSpec) : _root_.Go.OpenSpec := { _root_.Go.OpenSpec.ofChange s with cond := some uptoSmall }

/-- 'interpreterlaw14.IcmpmapKnown', WHERE WHAT IT READS IS OF BULK AT MOST 1048576: true; the input reads as it did. -/
def icmpmapKnownUptoRow : OpenClaim := { program := "ytnehabpdpkjaeaadoor", sum := "5885517191d799ba29cbe0978de0021ae1054f827d387bbdf2a283a03c6b6f52", func := "interpreter/interpreterlaw14.IcmpmapKnown", spec := "icmpmapKnown", named := ["interpreter/icmpmap.plateaus"], apart := false, laid := [("interpreter/icmpmap.plateaus", laid_interpreter_icmpmap_plateaus)], narrowed := true }
def IcmpmapKnownUptoSaid : Prop := icmpmapKnownUptoRow.holds Tryd.pinned (OpenSpec.upto icmpmapKnownSpec)

/-- 'interpreterlaw14.IcmpmapSays', WHERE WHAT IT READS IS OF BULK AT MOST 1048576: true; the input reads as it did. -/
def icmpmapSaysUptoRow : OpenClaim := { program := "ytnehabpdpkjaeaadoor", sum := "5885517191d799ba29cbe0978de0021ae1054f827d387bbdf2a283a03c6b6f52", func := "interpreter/interpreterlaw14.IcmpmapSays", spec := "icmpmapSays", named := ["interpreter/icmpmap.plateaus"], apart := false, laid := [("interpreter/icmpmap.plateaus", laid_interpreter_icmpmap_plateaus)], narrowed := true }
def IcmpmapSaysUptoSaid : Prop := icmpmapSaysUptoRow.holds Tryd.pinned (OpenSpec.upto icmpmapSaysSpec)

/-- 'interpreterlaw14.IcmpmapAll', WHERE WHAT IT READS IS OF BULK AT MOST 1048576: true; the input reads as it did. -/
def icmpmapAllUptoRow : OpenClaim := { program := "ytnehabpdpkjaeaadoor", sum := "5885517191d799ba29cbe0978de0021ae1054f827d387bbdf2a283a03c6b6f52", func := "interpreter/interpreterlaw14.IcmpmapAll", spec := "icmpmapAll", named := ["interpreter/icmpmap.plateaus"], apart := false, laid := [("interpreter/icmpmap.plateaus", laid_interpreter_icmpmap_plateaus)], narrowed := true }
def IcmpmapAllUptoSaid : Prop := icmpmapAllUptoRow.holds Tryd.pinned (OpenSpec.upto icmpmapAllSpec)

/-- 'interpreterlaw14.IcmpmapOne', WHERE WHAT IT READS IS OF BULK AT MOST 1048576: true; the input reads as it did. -/
def icmpmapOneUptoRow : OpenClaim := { program := "ytnehabpdpkjaeaadoor", sum := "5885517191d799ba29cbe0978de0021ae1054f827d387bbdf2a283a03c6b6f52", func := "interpreter/interpreterlaw14.IcmpmapOne", spec := "icmpmapOne", named := ["interpreter/icmpmap.plateaus"], apart := false, laid := [("interpreter/icmpmap.plateaus", laid_interpreter_icmpmap_plateaus)], narrowed := true }
def IcmpmapOneUptoSaid : Prop := icmpmapOneUptoRow.holds Tryd.pinned (OpenSpec.upto icmpmapOneSpec)

/-- 'interpreterlaw14.IcmpmapBack', WHERE WHAT IT READS IS OF BULK AT MOST 1048576: true; the input reads as it did. -/
def icmpmapBackUptoRow : OpenClaim := { program := "ytnehabpdpkjaeaadoor", sum := "5885517191d799ba29cbe0978de0021ae1054f827d387bbdf2a283a03c6b6f52", func := "interpreter/interpreterlaw14.IcmpmapBack", spec := "icmpmapBack", named := ["interpreter/icmpmap.plateaus"], apart := false, laid := [("interpreter/icmpmap.plateaus", laid_interpreter_icmpmap_plateaus)], narrowed := true }
def IcmpmapBackUptoSaid : Prop := icmpmapBackUptoRow.holds Tryd.pinned (OpenSpec.upto icmpmapBackSpec)

/-- 'interpreterlaw14.IcmpmapPlateau', WHERE WHAT IT READS IS OF BULK AT MOST 1048576: true; the input reads as it did. -/
def icmpmapPlateauUptoRow : OpenClaim := { program := "ytnehabpdpkjaeaadoor", sum := "5885517191d799ba29cbe0978de0021ae1054f827d387bbdf2a283a03c6b6f52", func := "interpreter/interpreterlaw14.IcmpmapPlateau", spec := "icmpmapPlateau", named := ["interpreter/icmpmap.plateaus"], apart := false, laid := [("interpreter/icmpmap.plateaus", laid_interpreter_icmpmap_plateaus)], narrowed := true }
def IcmpmapPlateauUptoSaid : Prop := icmpmapPlateauUptoRow.holds Tryd.pinned (OpenSpec.upto icmpmapPlateauSpec)

/-- 'interpreterlaw14.IcmpmapMtus', WHERE WHAT IT READS IS OF BULK AT MOST 1048576: true; the input reads as it did. -/
def icmpmapMtusUptoRow : OpenClaim := { program := "ytnehabpdpkjaeaadoor", sum := "5885517191d799ba29cbe0978de0021ae1054f827d387bbdf2a283a03c6b6f52", func := "interpreter/interpreterlaw14.IcmpmapMtus", spec := "icmpmapMtus", named := ["interpreter/icmpmap.plateaus"], apart := false, laid := [("interpreter/icmpmap.plateaus", laid_interpreter_icmpmap_plateaus)], narrowed := true }
def IcmpmapMtusUptoSaid : Prop := icmpmapMtusUptoRow.holds Tryd.pinned (OpenSpec.upto icmpmapMtusSpec)

/-- 'interpreterlaw14.IcmpmapData', WHERE WHAT IT READS IS OF BULK AT MOST 1048576: true; the input reads as it did. -/
def icmpmapDataUptoRow : OpenClaim := { program := "ytnehabpdpkjaeaadoor", sum := "5885517191d799ba29cbe0978de0021ae1054f827d387bbdf2a283a03c6b6f52", func := "interpreter/interpreterlaw14.IcmpmapData", spec := "icmpmapData", named := ["interpreter/icmpmap.plateaus"], apart := false, laid := [("interpreter/icmpmap.plateaus", laid_interpreter_icmpmap_plateaus)], narrowed := true }
def IcmpmapDataUptoSaid : Prop := icmpmapDataUptoRow.holds Tryd.pinned (OpenSpec.upto icmpmapDataSpec)

end Rows
end Go.Proofs.YtnehabpdpkjaeaaDoor
