/-
  Proved here: what MTUs the program tells.
  Conditions: none.
-/
import Derived.Test.YtnehabpdpkjaeaaDoorPa
namespace Go.Proofs.YtnehabpdpkjaeaaDoor
open Go.RowKit

theorem and_u32_16 (x : Int) : bits .and .u32 x 65535 = x % 65536 := by
  have h2 : (BitVec.ofInt 32 65535).toNat = 2 ^ 16 - 1 := by decide
  show IntKind.u32.wrap ((BitVec.ofInt 32 x &&& BitVec.ofInt 32 65535).toNat : Int) = _
  rw [BitVec.toNat_and, h2, Nat.and_two_pow_sub_one_eq_mod, BitVec.toNat_ofInt, IntKind.wrap_u32]
  omega
/-- Some blocks are kept; one more has so many cells. -/
def Pst (w0 : World) (B : Nat) (l : List (Nat × TypeId × List Value)) (g : Nat) (T : TypeId) (n : Nat) (w : World) : Prop := Kp w0 B l w ∧ ∃ A : Array Value, Bk w g T A ∧ A.size = n
theorem min3 (ts : Array TypeId) (T : TypeId) (x y z : Int) (W : World) : (Builtin.min_ ts T #[.int .i64 x, .int .i64 y, .int .i64 z]).run Tryd.prog W = .ok (.int .i64 (min (min x y) z)) W := by
  have e : ∀ p q : Int, (if q < p then q else p) = min p q := fun p q => by
    rw [Int.min_def]
    split <;> split <;> omega
  simp [Builtin.min_, Builtin.min2, e]
theorem max2 (ts : Array TypeId) (T : TypeId) (x y : Int) (W : World) : (Builtin.max_ ts T #[.int .i64 x, .int .i64 y]).run Tryd.prog W = .ok (.int .i64 (max x y)) W := by
  have e : (if y > x then y else x) = max x y := by
    rw [Int.max_def]
    split <;> split <;> omega
  simp [Builtin.max_, Builtin.max2, e]
set_option maxRecDepth 100000 in
set_option maxHeartbeats 4000000 in
theorem ptold4_any (m : Mg) (a b : Int) (w : World) (hr : 0 ≤ m.rs ∧ m.rs < 4294967296) (hb : mtus a b = true) : Calls Tryd.prog 22 #[.agg m.vals.toArray, .int .i64 a, .int .i64 b] w fun e w' => e = .returned (.int .i64 (told4 m.rs a b)) ∧ Below w.heap.size w w' := by
  obtain ⟨q0, q1, q2, q3⟩ := mtus_iff.1 hb
  have HT : Hid (told4 m.rs a b = min 65535 (max 68 (min (min (m.rs - 20) a) (b - 20)))) := Lib.hid rfl
  have kid : IntKind.i64.wrap m.rs = m.rs := IntWalk.i64_in _ (by omega)
  have kt : IntKind.i64.wrap (m.rs - 20) = m.rs - 20 := IntWalk.i64_in _ (by omega)
  have kb : IntKind.i64.wrap (b - 20) = b - 20 := IntWalk.i64_in _ (by omega)
  have HI_VM : Hid ((Tryd.prog.info? 24).map (·.size) = some m.vals.length) := Lib.hid (Tryd.infoMg _)
  have HO_VM : Hid (m.vals.toArray.all (·.oneCell') = true) := Lib.hid (mg_one _)
  have HL_VM : Hid (m.vals.length = 4) := Lib.hid rfl
  have HM0 : Hid (m.vals[0]? = some (.int .i64 m.kd)) := Lib.hid (rfl)
  have HM1 : Hid (m.vals[1]? = some (.int .i64 m.cd)) := Lib.hid (rfl)
  have HM2 : Hid (m.vals[2]? = some (.int .u32 m.rs)) := Lib.hid (rfl)
  have HM3 : Hid (m.vals[3]? = some (.string m.da)) := Lib.hid (rfl)
  have HK1 : Hid (Kp w w.heap.size [(w.heap.size, 24, m.vals)] (w.alloc (.cells m.vals.toArray 24))) := Lib.hid ((Kp.start w).new 24 m.vals)
  generalize m.vals = VM at *
  generalize hw1 : w.alloc (.cells VM.toArray 24) = w1 at *
  go_enter Tryd.func22, Tryd.ntmps22
  go_upto_region 1 with (fail)
  clear hw1
  have c2 : w1.cell? ⟨w.heap.size, 2, none⟩ = some (.int .u32 m.rs) := HK1.out.hd.at HM2.out
  have kmin := fun ts T W => min3 ts T (m.rs - 20) a (b - 20) W
  have kmax := fun ts T W => max2 ts T (min (min (m.rs - 20) a) (b - 20)) 68 W
  go_wp2_with (fail)
  go_ret
  exact ⟨by rw [HT.out]; show Ending.returned (.int .i64 (max (min (m.rs - 20) (min a (b - 20))) 68)) = _; congr 2; omega, HK1.out.2.1⟩
set_option maxRecDepth 100000 in
set_option maxHeartbeats 4000000 in
theorem ptold6_z (m : Mg) (a b len : Int) (w : World) (hb : mtus a b = true) (hm : Hm w) (hz :  m.rs % 65536 = 0) : Calls Tryd.prog 20 #[.agg m.vals.toArray, .int .i64 a, .int .i64 b, .int .i64 len] w fun e w' => e = .returned (.int .i64 (told6 m.rs a b len)) ∧ Below w.heap.size w w' := by
  obtain ⟨q0, q1, q2, q3⟩ := mtus_iff.1 hb
  have pl := plat_in len
  have HT : Hid (told6 m.rs a b len = max 1280 (min (min ((plat len) + 20) b) (a + 20))) := Lib.hid (by unfold told6; rw [if_pos hz])
  have kand := and_u32_16 m.rs
  have kid : IntKind.i64.wrap (m.rs % 65536) = m.rs % 65536 := IntWalk.i64_in _ (by omega)
  have kt : IntKind.i64.wrap ((plat len) + 20) = (plat len) + 20 := IntWalk.i64_in _ (by omega)
  have kb : IntKind.i64.wrap (a + 20) = a + 20 := IntWalk.i64_in _ (by omega)
  have CP : Hid (∀ W, Below w.heap.size w W → Calls Tryd.prog 14 #[.int .i64 len] W fun e w' => e = .returned (.int .i64 (plat len)) ∧ Below W.heap.size W w') := Lib.hid (fun W hW => pplat_any len W (hm.below hW))
  clear hm pl
  rw [hz] at kand kid
  have HI_VM : Hid ((Tryd.prog.info? 24).map (·.size) = some m.vals.length) := Lib.hid (Tryd.infoMg _)
  have HO_VM : Hid (m.vals.toArray.all (·.oneCell') = true) := Lib.hid (mg_one _)
  have HL_VM : Hid (m.vals.length = 4) := Lib.hid rfl
  have HM0 : Hid (m.vals[0]? = some (.int .i64 m.kd)) := Lib.hid (rfl)
  have HM1 : Hid (m.vals[1]? = some (.int .i64 m.cd)) := Lib.hid (rfl)
  have HM2 : Hid (m.vals[2]? = some (.int .u32 m.rs)) := Lib.hid (rfl)
  have HM3 : Hid (m.vals[3]? = some (.string m.da)) := Lib.hid (rfl)
  have HK1 : Hid (Kp w w.heap.size [(w.heap.size, 24, m.vals)] (w.alloc (.cells m.vals.toArray 24))) := Lib.hid ((Kp.start w).new 24 m.vals)
  generalize m.vals = VM at *
  generalize hw1 : w.alloc (.cells VM.toArray 24) = w1 at *
  go_enter Tryd.func20, Tryd.ntmps20
  go_upto_region 1 with (fail)
  clear hw1
  have c2 : w1.cell? ⟨w.heap.size, 2, none⟩ = some (.int .u32 m.rs) := HK1.out.hd.at HM2.out
  generalize plat len = pl at *
  go_wp2_with (fail)
  refine (CP.out _ HK1.out.2.1).mono ?_
  rintro e w2 ⟨rfl, bb⟩
  have HK2 := Lib.hid (HK1.out.below bb (Nat.le_refl _))
  clear bb HK1
  have kmin := fun ts T W => min3 ts T (pl + 20) b (a + 20) W
  have kmax := fun ts T W => max2 ts T (min (min (pl + 20) b) (a + 20)) 1280 W
  go_wp2_with (fail)
  go_ret
  exact ⟨by rw [HT.out]; show Ending.returned (.int .i64 (max (min (pl + 20) (min b (a + 20))) 1280)) = _; congr 2; omega, HK2.out.2.1⟩
set_option maxRecDepth 100000 in
set_option maxHeartbeats 4000000 in
theorem ptold6_n (m : Mg) (a b len : Int) (w : World) (hb : mtus a b = true) (hm : Hm w) (hz : ¬ m.rs % 65536 = 0) : Calls Tryd.prog 20 #[.agg m.vals.toArray, .int .i64 a, .int .i64 b, .int .i64 len] w fun e w' => e = .returned (.int .i64 (told6 m.rs a b len)) ∧ Below w.heap.size w w' := by
  obtain ⟨q0, q1, q2, q3⟩ := mtus_iff.1 hb
  have pl := plat_in len
  have HT : Hid (told6 m.rs a b len = max 1280 (min (min ((m.rs % 65536) + 20) b) (a + 20))) := Lib.hid (by unfold told6; rw [if_neg hz])
  have kand := and_u32_16 m.rs
  have kid : IntKind.i64.wrap (m.rs % 65536) = m.rs % 65536 := IntWalk.i64_in _ (by omega)
  have kt : IntKind.i64.wrap ((m.rs % 65536) + 20) = (m.rs % 65536) + 20 := IntWalk.i64_in _ (by omega)
  have kb : IntKind.i64.wrap (a + 20) = a + 20 := IntWalk.i64_in _ (by omega)
  have CP : Hid (∀ W, Below w.heap.size w W → Calls Tryd.prog 14 #[.int .i64 len] W fun e w' => e = .returned (.int .i64 (plat len)) ∧ Below W.heap.size W w') := Lib.hid (fun W hW => pplat_any len W (hm.below hW))
  clear hm pl
  have kz : (m.rs % 65536 == 0) = false := by rw [beq_eq_false_iff_ne]; exact hz
  have HI_VM : Hid ((Tryd.prog.info? 24).map (·.size) = some m.vals.length) := Lib.hid (Tryd.infoMg _)
  have HO_VM : Hid (m.vals.toArray.all (·.oneCell') = true) := Lib.hid (mg_one _)
  have HL_VM : Hid (m.vals.length = 4) := Lib.hid rfl
  have HM0 : Hid (m.vals[0]? = some (.int .i64 m.kd)) := Lib.hid (rfl)
  have HM1 : Hid (m.vals[1]? = some (.int .i64 m.cd)) := Lib.hid (rfl)
  have HM2 : Hid (m.vals[2]? = some (.int .u32 m.rs)) := Lib.hid (rfl)
  have HM3 : Hid (m.vals[3]? = some (.string m.da)) := Lib.hid (rfl)
  have HK1 : Hid (Kp w w.heap.size [(w.heap.size, 24, m.vals)] (w.alloc (.cells m.vals.toArray 24))) := Lib.hid ((Kp.start w).new 24 m.vals)
  generalize m.vals = VM at *
  generalize hw1 : w.alloc (.cells VM.toArray 24) = w1 at *
  go_enter Tryd.func20, Tryd.ntmps20
  go_upto_region 1 with (fail)
  clear hw1
  have c2 : w1.cell? ⟨w.heap.size, 2, none⟩ = some (.int .u32 m.rs) := HK1.out.hd.at HM2.out
  have kmin := fun ts T W => min3 ts T ((m.rs % 65536) + 20) b (a + 20) W
  have kmax := fun ts T W => max2 ts T (min (min ((m.rs % 65536) + 20) b) (a + 20)) 1280 W
  go_wp2_with (fail)
  go_ret
  exact ⟨by rw [HT.out]; show Ending.returned (.int .i64 (max (min ((m.rs % 65536) + 20) (min b (a + 20))) 1280)) = _; congr 2; omega, HK1.out.2.1⟩
theorem ptold6_any (m : Mg) (a b len : Int) (w : World) (hb : mtus a b = true) (hm : Hm w) : Calls Tryd.prog 20 #[.agg m.vals.toArray, .int .i64 a, .int .i64 b, .int .i64 len] w fun e w' => e = .returned (.int .i64 (told6 m.rs a b len)) ∧ Below w.heap.size w w' := by
  by_cases hz : m.rs % 65536 = 0
  · exact ptold6_z m a b len w hb hm hz
  · exact ptold6_n m a b len w hb hm hz
end Go.Proofs.YtnehabpdpkjaeaaDoor
