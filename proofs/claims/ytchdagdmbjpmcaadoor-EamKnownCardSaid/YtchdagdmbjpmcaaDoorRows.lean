/-
  NARROWER THAN 'FOR EVERY INPUT', by the rows' own cells (each row's printed sentence says how): ClassWords: laid · EamKnown: laid · EamPlays: laid · EamNobody: laid · EamBack: laid · EamAnew: laid · EamTurned: laid.
  DERIVED. THE GIVEN ROWS OF THIS SEAT. 7 by the template 'for every input the law returns true; each argument reads behind the call as it read before'; 0 by the template 'total and deterministic' (their statements: YtchdagdmbjpmcaaDoorTotals.lean).
  GIVEN WITH THE SEED: the statements are not yours to turn. If you find one false, say at which input.
  Laid BY PROGRAM, IN A SANDBOX (cutbox-rows.mjs): the forced cells as the released guide's own fill.sh prints them over the translation 88f0405088f1ccd8… (all of the seat's roots in one cut). By AI agents, Wed Nov 11 2026. No macro, syntax, notation, axiom, sorry.
-/
import Derived.Test.YtchdagdmbjpmcaaDoorChecked
import GoSem.Claim
import GoSem.ClaimJoined
import GoSem.ClaimMapViews
import Derived.JoinedTies
import Derived.KernelRfl
namespace Go.Proofs.YtchdagdmbjpmcaaDoor
/- THE CELL 'sum', in the pinned program and in every row, IS THE sha256 OF THE DUMP (.gsa) THAT YtchdagdmbjpmcaaDoorProg.lean LOADS. Nothing in Lean hashes anything: it is a label: what it is worth is what the hold of that sum in a sandbox is worth. -/
noncomputable def Tryd.pinned : Pinned := { name := "ytchdagdmbjpmcaadoor", sum := "88f0405088f1ccd841d3f222e41df956a8a36e3cb951dc39d5addb6da4592e76", checked := Tryd.checked }
namespace Rows
def none {H : Type} : Left H := { results := [], args := [] }

/- WHAT THE LISTED PACKAGE-LEVEL VARIABLES READ AS WHEN THE CALL BEGINS. Each datum BY PROGRAM (the guide's laid-datum.mjs) off the statement by which the dump's own 'gosem.cut.vars' lays the variable. In a bare row this is a premise. The card (YtchdagdmbjpmcaaDoorCards.lean) ties it to the program's text. -/
def laid_math_bits_deBruijn32tab {H : Type} : DataW H := .agg [.lit (.int .u8 0), .lit (.int .u8 1), .lit (.int .u8 28), .lit (.int .u8 2), .lit (.int .u8 29), .lit (.int .u8 14), .lit (.int .u8 24), .lit (.int .u8 3), .lit (.int .u8 30), .lit (.int .u8 22), .lit (.int .u8 20), .lit (.int .u8 15), .lit (.int .u8 25), .lit (.int .u8 17), .lit (.int .u8 4), .lit (.int .u8 8), .lit (.int .u8 31), .lit (.int .u8 27), .lit (.int .u8 13), .lit (.int .u8 23), .lit (.int .u8 21), .lit (.int .u8 19), .lit (.int .u8 16), .lit (.int .u8 7), .lit (.int .u8 26), .lit (.int .u8 12), .lit (.int .u8 18), .lit (.int .u8 6), .lit (.int .u8 11), .lit (.int .u8 5), .lit (.int .u8 10), .lit (.int .u8 9)]
def laid_math_bits_deBruijn64tab {H : Type} : DataW H := .agg [.lit (.int .u8 0), .lit (.int .u8 1), .lit (.int .u8 56), .lit (.int .u8 2), .lit (.int .u8 57), .lit (.int .u8 49), .lit (.int .u8 28), .lit (.int .u8 3), .lit (.int .u8 61), .lit (.int .u8 58), .lit (.int .u8 42), .lit (.int .u8 50), .lit (.int .u8 38), .lit (.int .u8 29), .lit (.int .u8 17), .lit (.int .u8 4), .lit (.int .u8 62), .lit (.int .u8 47), .lit (.int .u8 59), .lit (.int .u8 36), .lit (.int .u8 45), .lit (.int .u8 43), .lit (.int .u8 51), .lit (.int .u8 22), .lit (.int .u8 53), .lit (.int .u8 39), .lit (.int .u8 33), .lit (.int .u8 30), .lit (.int .u8 24), .lit (.int .u8 18), .lit (.int .u8 12), .lit (.int .u8 5), .lit (.int .u8 63), .lit (.int .u8 55), .lit (.int .u8 48), .lit (.int .u8 27), .lit (.int .u8 60), .lit (.int .u8 41), .lit (.int .u8 37), .lit (.int .u8 16), .lit (.int .u8 46), .lit (.int .u8 35), .lit (.int .u8 44), .lit (.int .u8 21), .lit (.int .u8 52), .lit (.int .u8 32), .lit (.int .u8 23), .lit (.int .u8 11), .lit (.int .u8 54), .lit (.int .u8 26), .lit (.int .u8 40), .lit (.int .u8 15), .lit (.int .u8 34), .lit (.int .u8 20), .lit (.int .u8 31), .lit (.int .u8 10), .lit (.int .u8 25), .lit (.int .u8 14), .lit (.int .u8 19), .lit (.int .u8 9), .lit (.int .u8 13), .lit (.int .u8 8), .lit (.int .u8 7), .lit (.int .u8 6)]
def laid_internal_strconv_uint64pow10 {H : Type} : DataW H := .agg [.lit (.int .u64 1), .lit (.int .u64 10), .lit (.int .u64 100), .lit (.int .u64 1000), .lit (.int .u64 10000), .lit (.int .u64 100000), .lit (.int .u64 1000000), .lit (.int .u64 10000000), .lit (.int .u64 100000000), .lit (.int .u64 1000000000), .lit (.int .u64 10000000000), .lit (.int .u64 100000000000), .lit (.int .u64 1000000000000), .lit (.int .u64 10000000000000), .lit (.int .u64 100000000000000), .lit (.int .u64 1000000000000000), .lit (.int .u64 10000000000000000), .lit (.int .u64 100000000000000000), .lit (.int .u64 1000000000000000000), .lit (.int .u64 10000000000000000000)]
def laid_interpreter_class_martians4 {H : Type} : DataW H := .agg [.agg [.agg [.lit (.int .u8 0), .lit (.int .u8 0), .lit (.int .u8 0), .lit (.int .u8 0)], .lit (.int .i64 8)], .agg [.agg [.lit (.int .u8 127), .lit (.int .u8 0), .lit (.int .u8 0), .lit (.int .u8 0)], .lit (.int .i64 8)], .agg [.agg [.lit (.int .u8 169), .lit (.int .u8 254), .lit (.int .u8 0), .lit (.int .u8 0)], .lit (.int .i64 16)], .agg [.agg [.lit (.int .u8 224), .lit (.int .u8 0), .lit (.int .u8 0), .lit (.int .u8 0)], .lit (.int .i64 4)], .agg [.agg [.lit (.int .u8 240), .lit (.int .u8 0), .lit (.int .u8 0), .lit (.int .u8 0)], .lit (.int .i64 4)]]
def laid_interpreter_class_martians6 {H : Type} : DataW H := .agg [.agg [.agg [.lit (.int .u8 0), .lit (.int .u8 0), .lit (.int .u8 0), .lit (.int .u8 0), .lit (.int .u8 0), .lit (.int .u8 0), .lit (.int .u8 0), .lit (.int .u8 0), .lit (.int .u8 0), .lit (.int .u8 0), .lit (.int .u8 0), .lit (.int .u8 0), .lit (.int .u8 0), .lit (.int .u8 0), .lit (.int .u8 0), .lit (.int .u8 0)], .lit (.int .i64 128)], .agg [.agg [.lit (.int .u8 0), .lit (.int .u8 0), .lit (.int .u8 0), .lit (.int .u8 0), .lit (.int .u8 0), .lit (.int .u8 0), .lit (.int .u8 0), .lit (.int .u8 0), .lit (.int .u8 0), .lit (.int .u8 0), .lit (.int .u8 0), .lit (.int .u8 0), .lit (.int .u8 0), .lit (.int .u8 0), .lit (.int .u8 0), .lit (.int .u8 1)], .lit (.int .i64 128)], .agg [.agg [.lit (.int .u8 0), .lit (.int .u8 0), .lit (.int .u8 0), .lit (.int .u8 0), .lit (.int .u8 0), .lit (.int .u8 0), .lit (.int .u8 0), .lit (.int .u8 0), .lit (.int .u8 0), .lit (.int .u8 0), .lit (.int .u8 255), .lit (.int .u8 255), .lit (.int .u8 0), .lit (.int .u8 0), .lit (.int .u8 0), .lit (.int .u8 0)], .lit (.int .i64 96)], .agg [.agg [.lit (.int .u8 254), .lit (.int .u8 128), .lit (.int .u8 0), .lit (.int .u8 0), .lit (.int .u8 0), .lit (.int .u8 0), .lit (.int .u8 0), .lit (.int .u8 0), .lit (.int .u8 0), .lit (.int .u8 0), .lit (.int .u8 0), .lit (.int .u8 0), .lit (.int .u8 0), .lit (.int .u8 0), .lit (.int .u8 0), .lit (.int .u8 0)], .lit (.int .i64 10)], .agg [.agg [.lit (.int .u8 255), .lit (.int .u8 0), .lit (.int .u8 0), .lit (.int .u8 0), .lit (.int .u8 0), .lit (.int .u8 0), .lit (.int .u8 0), .lit (.int .u8 0), .lit (.int .u8 0), .lit (.int .u8 0), .lit (.int .u8 0), .lit (.int .u8 0), .lit (.int .u8 0), .lit (.int .u8 0), .lit (.int .u8 0), .lit (.int .u8 0)], .lit (.int .i64 8)]]

/-- 'interpreterlaw10.ClassWords': WHATEVER THE INPUT: true; the input reads as it did. -/
def classWordsSpec : ChangeSpec := { name := "classWords", fn := fun _ => fun
  | [d1, d2, d3, d4, d5] => { results := [.lit (.bool true)], args := [d1, d2, d3, d4, d5] }
  | _ => none }
def classWordsRow : OpenClaim := { program := "ytchdagdmbjpmcaadoor", sum := "88f0405088f1ccd841d3f222e41df956a8a36e3cb951dc39d5addb6da4592e76", func := "interpreter/interpreterlaw10.ClassWords", spec := "classWords", inPlace := ["internal/bytealg.IndexByteString", "internal/bytealg.IndexString", "internal/abi.NoEscape", "internal/bytealg.MakeNoZero"], named := ["internal/bytealg.MaxLen", "internal/strconv.uint64pow10", "math/bits.deBruijn32tab", "math/bits.deBruijn64tab"], plainKeys := false, apart := false, laid := [("math/bits.deBruijn32tab", laid_math_bits_deBruijn32tab), ("math/bits.deBruijn64tab", laid_math_bits_deBruijn64tab), ("internal/strconv.uint64pow10", laid_internal_strconv_uint64pow10)] }
def ClassWordsSaid : Prop := classWordsRow.holds Tryd.pinned (OpenSpec.ofChange classWordsSpec)

/-- ITS FALSE NEIGHBOUR: 'it returns false'. Refute it at one input. -/
def classWordsWrong : ChangeSpec := { name := "classWords", fn := fun _ => fun
  | [d1, d2, d3, d4, d5] => { results := [.lit (.bool false)], args := [d1, d2, d3, d4, d5] }
  | _ => none }
def ClassWordsWrongFalsely : Prop := classWordsRow.holds Tryd.pinned (OpenSpec.ofChange classWordsWrong)

/-- 'interpreterlaw11.EamKnown': WHATEVER THE INPUT: true; the input reads as it did. -/
def eamKnownSpec : ChangeSpec := { name := "eamKnown", fn := fun _ => fun
  | [] => { results := [.lit (.bool true)], args := [] }
  | _ => none }
def eamKnownRow : OpenClaim := { program := "ytchdagdmbjpmcaadoor", sum := "88f0405088f1ccd841d3f222e41df956a8a36e3cb951dc39d5addb6da4592e76", func := "interpreter/interpreterlaw11.EamKnown", spec := "eamKnown", named := ["interpreter/class.martians4", "interpreter/class.martians6"], plainKeys := false, apart := false, laid := [("interpreter/class.martians4", laid_interpreter_class_martians4), ("interpreter/class.martians6", laid_interpreter_class_martians6)] }
def EamKnownSaid : Prop := eamKnownRow.holds Tryd.pinned (OpenSpec.ofChange eamKnownSpec)

/-- ITS FALSE NEIGHBOUR: 'it returns false'. Refute it at one input. -/
def eamKnownWrong : ChangeSpec := { name := "eamKnown", fn := fun _ => fun
  | [] => { results := [.lit (.bool false)], args := [] }
  | _ => none }
def EamKnownWrongFalsely : Prop := eamKnownRow.holds Tryd.pinned (OpenSpec.ofChange eamKnownWrong)

/-- 'interpreterlaw11.EamPlays': WHATEVER THE INPUT: true; the input reads as it did. -/
def eamPlaysSpec : ChangeSpec := { name := "eamPlays", fn := fun _ => fun
  | [d1, d2] => { results := [.lit (.bool true)], args := [d1, d2] }
  | _ => none }
def eamPlaysRow : OpenClaim := { program := "ytchdagdmbjpmcaadoor", sum := "88f0405088f1ccd841d3f222e41df956a8a36e3cb951dc39d5addb6da4592e76", func := "interpreter/interpreterlaw11.EamPlays", spec := "eamPlays", named := ["interpreter/class.martians4", "interpreter/class.martians6"], plainKeys := false, apart := false, laid := [("interpreter/class.martians4", laid_interpreter_class_martians4), ("interpreter/class.martians6", laid_interpreter_class_martians6)] }
def EamPlaysSaid : Prop := eamPlaysRow.holds Tryd.pinned (OpenSpec.ofChange eamPlaysSpec)

/-- ITS FALSE NEIGHBOUR: 'it returns false'. Refute it at one input. -/
def eamPlaysWrong : ChangeSpec := { name := "eamPlays", fn := fun _ => fun
  | [d1, d2] => { results := [.lit (.bool false)], args := [d1, d2] }
  | _ => none }
def EamPlaysWrongFalsely : Prop := eamPlaysRow.holds Tryd.pinned (OpenSpec.ofChange eamPlaysWrong)

/-- 'interpreterlaw11.EamNobody': WHATEVER THE INPUT: true; the input reads as it did. -/
def eamNobodySpec : ChangeSpec := { name := "eamNobody", fn := fun _ => fun
  | [d] => { results := [.lit (.bool true)], args := [d] }
  | _ => none }
def eamNobodyRow : OpenClaim := { program := "ytchdagdmbjpmcaadoor", sum := "88f0405088f1ccd841d3f222e41df956a8a36e3cb951dc39d5addb6da4592e76", func := "interpreter/interpreterlaw11.EamNobody", spec := "eamNobody", named := ["interpreter/class.martians4", "interpreter/class.martians6"], plainKeys := false, apart := false, laid := [("interpreter/class.martians4", laid_interpreter_class_martians4), ("interpreter/class.martians6", laid_interpreter_class_martians6)] }
def EamNobodySaid : Prop := eamNobodyRow.holds Tryd.pinned (OpenSpec.ofChange eamNobodySpec)

/-- ITS FALSE NEIGHBOUR: 'it returns false'. Refute it at one input. -/
def eamNobodyWrong : ChangeSpec := { name := "eamNobody", fn := fun _ => fun
  | [d] => { results := [.lit (.bool false)], args := [d] }
  | _ => none }
def EamNobodyWrongFalsely : Prop := eamNobodyRow.holds Tryd.pinned (OpenSpec.ofChange eamNobodyWrong)

/-- 'interpreterlaw11.EamBack': WHATEVER THE INPUT: true; the input reads as it did. -/
def eamBackSpec : ChangeSpec := { name := "eamBack", fn := fun _ => fun
  | [d] => { results := [.lit (.bool true)], args := [d] }
  | _ => none }
def eamBackRow : OpenClaim := { program := "ytchdagdmbjpmcaadoor", sum := "88f0405088f1ccd841d3f222e41df956a8a36e3cb951dc39d5addb6da4592e76", func := "interpreter/interpreterlaw11.EamBack", spec := "eamBack", named := ["interpreter/class.martians4", "interpreter/class.martians6"], plainKeys := false, apart := false, laid := [("interpreter/class.martians4", laid_interpreter_class_martians4), ("interpreter/class.martians6", laid_interpreter_class_martians6)] }
def EamBackSaid : Prop := eamBackRow.holds Tryd.pinned (OpenSpec.ofChange eamBackSpec)

/-- ITS FALSE NEIGHBOUR: 'it returns false'. Refute it at one input. -/
def eamBackWrong : ChangeSpec := { name := "eamBack", fn := fun _ => fun
  | [d] => { results := [.lit (.bool false)], args := [d] }
  | _ => none }
def EamBackWrongFalsely : Prop := eamBackRow.holds Tryd.pinned (OpenSpec.ofChange eamBackWrong)

/-- 'interpreterlaw11.EamAnew': WHATEVER THE INPUT: true; the input reads as it did. -/
def eamAnewSpec : ChangeSpec := { name := "eamAnew", fn := fun _ => fun
  | [d1, d2] => { results := [.lit (.bool true)], args := [d1, d2] }
  | _ => none }
def eamAnewRow : OpenClaim := { program := "ytchdagdmbjpmcaadoor", sum := "88f0405088f1ccd841d3f222e41df956a8a36e3cb951dc39d5addb6da4592e76", func := "interpreter/interpreterlaw11.EamAnew", spec := "eamAnew", named := ["interpreter/class.martians4", "interpreter/class.martians6"], plainKeys := false, apart := false, laid := [("interpreter/class.martians4", laid_interpreter_class_martians4), ("interpreter/class.martians6", laid_interpreter_class_martians6)] }
def EamAnewSaid : Prop := eamAnewRow.holds Tryd.pinned (OpenSpec.ofChange eamAnewSpec)

/-- ITS FALSE NEIGHBOUR: 'it returns false'. Refute it at one input. -/
def eamAnewWrong : ChangeSpec := { name := "eamAnew", fn := fun _ => fun
  | [d1, d2] => { results := [.lit (.bool false)], args := [d1, d2] }
  | _ => none }
def EamAnewWrongFalsely : Prop := eamAnewRow.holds Tryd.pinned (OpenSpec.ofChange eamAnewWrong)

/-- 'interpreterlaw11.EamTurned': WHATEVER THE INPUT: true; the input reads as it did. -/
def eamTurnedSpec : ChangeSpec := { name := "eamTurned", fn := fun _ => fun
  | [d] => { results := [.lit (.bool true)], args := [d] }
  | _ => none }
def eamTurnedRow : OpenClaim := { program := "ytchdagdmbjpmcaadoor", sum := "88f0405088f1ccd841d3f222e41df956a8a36e3cb951dc39d5addb6da4592e76", func := "interpreter/interpreterlaw11.EamTurned", spec := "eamTurned", named := ["interpreter/class.martians4", "interpreter/class.martians6"], plainKeys := false, apart := false, laid := [("interpreter/class.martians4", laid_interpreter_class_martians4), ("interpreter/class.martians6", laid_interpreter_class_martians6)] }
def EamTurnedSaid : Prop := eamTurnedRow.holds Tryd.pinned (OpenSpec.ofChange eamTurnedSpec)

/-- ITS FALSE NEIGHBOUR: 'it returns false'. Refute it at one input. -/
def eamTurnedWrong : ChangeSpec := { name := "eamTurned", fn := fun _ => fun
  | [d] => { results := [.lit (.bool false)], args := [d] }
  | _ => none }
def EamTurnedWrongFalsely : Prop := eamTurnedRow.holds Tryd.pinned (OpenSpec.ofChange eamTurnedWrong)

/- THE SECOND FORM. 'bulk': how many values and letters a reading holds, each counted each time it is reached (what is shared counts as often as it is met; a slice's spare places count too). A statement '..UptoSaid' is the law's where the arguments, and the package variables that the reading takes, are together of bulk at most 1048576: NARROWER than '..Said'. Prove '..Said' where nothing that the law and all that it calls make is longer than what came in: it says more and counts as full. Else prove '..UptoSaid'. A law counts once. -/
mutual
def uptoBulk {H : Type} : DataW H → Nat
  | .lit (.string bytes) => bytes.length + 1
  | .lit _ => 1
  | .nil => 1
  | .ptr d => uptoBulk d + 1
  | .slice elems spare => uptoBulkAll elems + uptoBulkAll spare + 1
  | .agg parts => uptoBulkAll parts + 1
  | .iface _ d => uptoBulk d + 1
  | .map entries => uptoBulkEntries entries + 1
  | .held _ => 1
def uptoBulkAll {H : Type} : List (DataW H) → Nat
  | [] => 0
  | d :: r => uptoBulk d + uptoBulkAll r
def uptoBulkEntries {H : Type} : List (Lit × DataW H) → Nat
  | [] => 0
  | x :: r => uptoBulkEntry x + uptoBulkEntries r
def uptoBulkEntry {H : Type} : Lit × DataW H → Nat
  | (.string bytes, d) => bytes.length + uptoBulk d + 1
  | (_, d) => uptoBulk d + 1
 end
def uptoSmall : (H : Type) → List (DataW H) → Bool := fun _ ds => decide (uptoBulkAll ds ≤ 1048576)
def OpenSpec.upto (s : _root_.Go.ChangeSpec) : _root_.Go.OpenSpec := { _root_.Go.OpenSpec.ofChange s with cond := some uptoSmall }

/-- 'interpreterlaw10.ClassWords', WHERE WHAT IT READS IS OF BULK AT MOST 1048576: true; the input reads as it did. -/
def classWordsUptoRow : OpenClaim := { program := "ytchdagdmbjpmcaadoor", sum := "88f0405088f1ccd841d3f222e41df956a8a36e3cb951dc39d5addb6da4592e76", func := "interpreter/interpreterlaw10.ClassWords", spec := "classWords", inPlace := ["internal/bytealg.IndexByteString", "internal/bytealg.IndexString", "internal/abi.NoEscape", "internal/bytealg.MakeNoZero"], named := ["internal/bytealg.MaxLen", "internal/strconv.uint64pow10", "math/bits.deBruijn32tab", "math/bits.deBruijn64tab"], plainKeys := false, apart := false, laid := [("math/bits.deBruijn32tab", laid_math_bits_deBruijn32tab), ("math/bits.deBruijn64tab", laid_math_bits_deBruijn64tab), ("internal/strconv.uint64pow10", laid_internal_strconv_uint64pow10)], narrowed := true }
def ClassWordsUptoSaid : Prop := classWordsUptoRow.holds Tryd.pinned (OpenSpec.upto classWordsSpec)

/-- 'interpreterlaw11.EamKnown', WHERE WHAT IT READS IS OF BULK AT MOST 1048576: true; the input reads as it did. -/
def eamKnownUptoRow : OpenClaim := { program := "ytchdagdmbjpmcaadoor", sum := "88f0405088f1ccd841d3f222e41df956a8a36e3cb951dc39d5addb6da4592e76", func := "interpreter/interpreterlaw11.EamKnown", spec := "eamKnown", named := ["interpreter/class.martians4", "interpreter/class.martians6"], plainKeys := false, apart := false, laid := [("interpreter/class.martians4", laid_interpreter_class_martians4), ("interpreter/class.martians6", laid_interpreter_class_martians6)], narrowed := true }
def EamKnownUptoSaid : Prop := eamKnownUptoRow.holds Tryd.pinned (OpenSpec.upto eamKnownSpec)

/-- 'interpreterlaw11.EamPlays', WHERE WHAT IT READS IS OF BULK AT MOST 1048576: true; the input reads as it did. -/
def eamPlaysUptoRow : OpenClaim := { program := "ytchdagdmbjpmcaadoor", sum := "88f0405088f1ccd841d3f222e41df956a8a36e3cb951dc39d5addb6da4592e76", func := "interpreter/interpreterlaw11.EamPlays", spec := "eamPlays", named := ["interpreter/class.martians4", "interpreter/class.martians6"], plainKeys := false, apart := false, laid := [("interpreter/class.martians4", laid_interpreter_class_martians4), ("interpreter/class.martians6", laid_interpreter_class_martians6)], narrowed := true }
def EamPlaysUptoSaid : Prop := eamPlaysUptoRow.holds Tryd.pinned (OpenSpec.upto eamPlaysSpec)

/-- 'interpreterlaw11.EamNobody', WHERE WHAT IT READS IS OF BULK AT MOST 1048576: true; the input reads as it did. -/
def eamNobodyUptoRow : OpenClaim := { program := "ytchdagdmbjpmcaadoor", sum := "88f0405088f1ccd841d3f222e41df956a8a36e3cb951dc39d5addb6da4592e76", func := "interpreter/interpreterlaw11.EamNobody", spec := "eamNobody", named := ["interpreter/class.martians4", "interpreter/class.martians6"], plainKeys := false, apart := false, laid := [("interpreter/class.martians4", laid_interpreter_class_martians4), ("interpreter/class.martians6", laid_interpreter_class_martians6)], narrowed := true }
def EamNobodyUptoSaid : Prop := eamNobodyUptoRow.holds Tryd.pinned (OpenSpec.upto eamNobodySpec)

/-- 'interpreterlaw11.EamBack', WHERE WHAT IT READS IS OF BULK AT MOST 1048576: true; the input reads as it did. -/
def eamBackUptoRow : OpenClaim := { program := "ytchdagdmbjpmcaadoor", sum := "88f0405088f1ccd841d3f222e41df956a8a36e3cb951dc39d5addb6da4592e76", func := "interpreter/interpreterlaw11.EamBack", spec := "eamBack", named := ["interpreter/class.martians4", "interpreter/class.martians6"], plainKeys := false, apart := false, laid := [("interpreter/class.martians4", laid_interpreter_class_martians4), ("interpreter/class.martians6", laid_interpreter_class_martians6)], narrowed := true }
def EamBackUptoSaid : Prop := eamBackUptoRow.holds Tryd.pinned (OpenSpec.upto eamBackSpec)

/-- 'interpreterlaw11.EamAnew', WHERE WHAT IT READS IS OF BULK AT MOST 1048576: true; the input reads as it did. -/
def eamAnewUptoRow : OpenClaim := { program := "ytchdagdmbjpmcaadoor", sum := "88f0405088f1ccd841d3f222e41df956a8a36e3cb951dc39d5addb6da4592e76", func := "interpreter/interpreterlaw11.EamAnew", spec := "eamAnew", named := ["interpreter/class.martians4", "interpreter/class.martians6"], plainKeys := false, apart := false, laid := [("interpreter/class.martians4", laid_interpreter_class_martians4), ("interpreter/class.martians6", laid_interpreter_class_martians6)], narrowed := true }
def EamAnewUptoSaid : Prop := eamAnewUptoRow.holds Tryd.pinned (OpenSpec.upto eamAnewSpec)

/-- 'interpreterlaw11.EamTurned', WHERE WHAT IT READS IS OF BULK AT MOST 1048576: true; the input reads as it did. -/
def eamTurnedUptoRow : OpenClaim := { program := "ytchdagdmbjpmcaadoor", sum := "88f0405088f1ccd841d3f222e41df956a8a36e3cb951dc39d5addb6da4592e76", func := "interpreter/interpreterlaw11.EamTurned", spec := "eamTurned", named := ["interpreter/class.martians4", "interpreter/class.martians6"], plainKeys := false, apart := false, laid := [("interpreter/class.martians4", laid_interpreter_class_martians4), ("interpreter/class.martians6", laid_interpreter_class_martians6)], narrowed := true }
def EamTurnedUptoSaid : Prop := eamTurnedUptoRow.holds Tryd.pinned (OpenSpec.upto eamTurnedSpec)

end Rows
end Go.Proofs.YtchdagdmbjpmcaaDoor
