/-
  Proved here: the law IcmpmapData, as its row calls it.
  Conditions: none.
-/
import Derived.Test.YtnehabpdpkjaeaaDoorOpenMs
import Derived.Test.YtnehabpdpkjaeaaDoorLData
namespace Go.Proofs.YtnehabpdpkjaeaaDoor
open Go.RowKit

theorem icmpmapData_any (d : Ms) (r : Int) (s : ByteArray) (a b len : Int) (w : World) (hm : Hm w) (hx : d.rs < 4294967296) (ir : (Lit.int .u32 r).wf = true) : Calls Tryd.prog 10 #[.agg #[.int .i64 d.kd, .int .i64 d.cd, .int .u32 (d.rs : Nat), .string d.da], .int .u32 r, .string s, .int .i64 a, .int .i64 b, .int .i64 len] w (fun e w' => e = .returned (.bool true) ∧ Below w.heap.size w w') := by
  have ir : 0 ≤ r ∧ r ≤ 4294967295 := by simpa [Lit.wf, IntKind.min, IntKind.max, IntKind.signed, IntKind.bits] using ir
  exact icmpmapData_all (⟨d.kd, d.cd, (d.rs : Nat), d.da⟩ : Mg) r s a b len w hm ⟨by show (0 : Int) ≤ (d.rs : Nat); omega, by show ((d.rs : Nat) : Int) < 4294967296; omega⟩ ⟨ir.1, by omega⟩
end Go.Proofs.YtnehabpdpkjaeaaDoor
