/-
  Proved here: what the document's To6 answers, in one.
  Conditions: none.
-/
import Derived.Test.YtnehabpdpkjaeaaDoorR6c
namespace Go.Proofs.YtnehabpdpkjaeaaDoor
open Go.RowKit

theorem rsix_any (m : Mg) (a b len : Int) (w : World) (hr : 0 ≤ m.rs ∧ m.rs < 4294967296) : Calls Tryd.prog 15 #[.agg m.vals.toArray, .int .i64 a, .int .i64 b, .int .i64 len] w (fun e w' => e = .returned (.tuple #[.agg (six m a b len).1.vals.toArray, .bool (six m a b len).2]) ∧ Below w.heap.size w w') := by
  cases hb : mtus a b
  · exact rsix_mtu m a b len w hb
  by_cases h3 : m.kd = 3
  · by_cases h4 : m.cd = 4
    · by_cases hz : m.rs % 65536 = 0
      · exact rsix_told_z m a b len w hr hb h3 h4 hz
      · exact rsix_told_n m a b len w hr hb h3 h4 hz
    · cases hf : findL (ln6 m.rs) m.kd m.cd with
      | none => exact rsix_tabB_none m a b len w hr hb h3 h4 hf
      | some x => exact rsix_tabB_some m a b len w hr hb x h3 h4 hf
  by_cases h12 : m.kd = 12
  · by_cases c0 : m.cd = 0
    · by_cases hp : 20 ≤ m.rs / 16777216
      · exact rsix_ptr0_far m a b len w hr hb h12 c0 hp
      · by_cases hn : ptr6 (m.rs / 16777216) < 0
        · exact rsix_ptr0_none m a b len w hr hb h12 c0 (by omega) hn
        · exact rsix_ptr0_some m a b len w hr hb h12 c0 (by omega) hn
    by_cases c2 : m.cd = 2
    · by_cases hp : 20 ≤ m.rs / 16777216
      · exact rsix_ptr2_far m a b len w hr hb h12 c2 hp
      · by_cases hn : ptr6 (m.rs / 16777216) < 0
        · exact rsix_ptr2_none m a b len w hr hb h12 c2 (by omega) hn
        · exact rsix_ptr2_some m a b len w hr hb h12 c2 (by omega) hn
    cases hf : findL (ln6 m.rs) m.kd m.cd with
    | none => exact rsix_tabC_none m a b len w hr hb h12 c0 c2 hf
    | some x => exact rsix_tabC_some m a b len w hr hb x h12 c0 c2 hf
  cases hf : findL (ln6 m.rs) m.kd m.cd with
  | none => exact rsix_tabA_none m a b len w hr hb h3 h12 hf
  | some x => exact rsix_tabA_some m a b len w hr hb x h3 h12 hf
end Go.Proofs.YtnehabpdpkjaeaaDoor
