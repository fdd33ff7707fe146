/-
  Proved here: laws with a message, as their rows call them.
  Conditions: none.
-/
import Derived.Test.YtnehabpdpkjaeaaDoorOpenMs
import Derived.Test.YtnehabpdpkjaeaaDoorLBack14
namespace Go.Proofs.YtnehabpdpkjaeaaDoor
open Go.RowKit

theorem icmpmapBack_any (d : Ms) (a b len : Int) (w : World) (hm : Hm w) (hx : d.rs < 4294967296) : Calls Tryd.prog 7 #[.agg #[.int .i64 d.kd, .int .i64 d.cd, .int .u32 (d.rs : Nat), .string d.da], .int .i64 a, .int .i64 b, .int .i64 len] w (fun e w' => e = .returned (.bool true) ∧ Below w.heap.size w w') :=
  icmpmapBack_all (⟨d.kd, d.cd, (d.rs : Nat), d.da⟩ : Mg) a b len w hm ⟨by show (0 : Int) ≤ (d.rs : Nat); omega, by show ((d.rs : Nat) : Int) < 4294967296; omega⟩
end Go.Proofs.YtnehabpdpkjaeaaDoor
