/-
  Proved here: what the program's first4 and first6 answer.
  Conditions: a length from 0 to 128.
-/
import Derived.Test.YtkdplnbabelkoaaDoorClear
import Derived.Test.YtkdplnbabelkoaaDoorEqs
namespace Go.Proofs.YtkdplnbabelkoaaDoor
open Go.RowKit

theorem Kp.swap {w0 w : World} {B : Nat} {x y : Nat × TypeId × List Value} {l : List (Nat × TypeId × List Value)} (h : Kp w0 B (x :: y :: l) w) : Kp w0 B (y :: x :: l) w :=
  ⟨fun z hz => h.1 z (by simp at hz ⊢; rcases hz with h | h | h <;> simp [h]), h.2⟩
theorem Tryd.infoSix (l : List Int) (h : l.length = 16) : (Tryd.prog.info? 24).map (·.size) = some (b8 l).length := by
  rw [b8_len, h]
  kernel_rfl
theorem Tryd.infoU4 (l : List UInt8) (h : l.length = 4) : (Tryd.prog.info? 28).map (·.size) = some (bu l).length := by
  rw [bu_b8]
  exact Tryd.infoFour (iu l) (by rw [iu_len, h])
theorem Tryd.infoU6 (l : List UInt8) (h : l.length = 16) : (Tryd.prog.info? 24).map (·.size) = some (bu l).length := by
  rw [bu_b8]
  exact Tryd.infoSix (iu l) (by rw [iu_len, h])
set_option maxRecDepth 100000 in
set_option maxHeartbeats 4000000 in
theorem first4_any (x : List UInt8) (n : Int) (w : World) (hx : x.length = 4) (h0 : 0 ≤ n) (h9 : n ≤ 128) :
    Calls Tryd.prog 54 #[.agg (bu x).toArray, .int .i64 n] w fun e w' => e = .returned (.agg (bu (clr x n)).toArray) ∧ Below w.heap.size w w' := by
  obtain ⟨VZ, hVZ⟩ : ∃ VZ, VZ = ([.int .u8 0, .int .u8 0, .int .u8 0, .int .u8 0] : List Value) := ⟨_, rfl⟩
  have HLZ : Hid (VZ.length = 4) := Lib.hid (by rw [hVZ]; rfl)
  have HK1 := Lib.hid (kp2 w 28 28 (bu x) VZ).swap
  have CC := Lib.hid (fun W (k : Kp w w.heap.size [(w.heap.size, 28, bu x), (w.heap.size + 1, 28, VZ)] W) => clear_any w.heap.size x n 4 28 w W w.heap.size [(w.heap.size + 1, 28, VZ)] k (by intro y hy; rw [List.mem_singleton] at hy; rw [hy]; show w.heap.size + 1 ≠ w.heap.size; omega) (Nat.le_refl _) (by omega) h0 h9)
  rw [hx] at CC
  have HIV : Hid ((Tryd.prog.info? 28).map (·.size) = some (bu (clr x n)).length) := Lib.hid (Tryd.infoU4 _ (by rw [clr_len, hx]))
  have HOV := Lib.hid (bu_one (clr x n))
  have HLV : Hid ((bu (clr x n)).length = 4) := Lib.hid (by rw [bu_len, clr_len, hx])
  have hz : ([.int .u8 0, .int .u8 0, .int .u8 0, .int .u8 0] : List Value).toArray = VZ.toArray := by rw [hVZ]
  generalize bu (clr x n) = V at *
  generalize bu x = X at *
  clear hx h0 h9 hVZ
  generalize hw1 : (w.alloc (.cells X.toArray 28)).alloc (.cells VZ.toArray 28) = w1 at *
  go_enter Tryd.func54, Tryd.ntmps54
  go_upto_region 1 with (fail)
  clear hw1 hz
  have CC1 := Lib.hid (CC.out w1 HK1.out)
  clear CC HK1
  go_wp2_with fail
  refine CC1.out.mono ?_
  rintro e w2 ⟨rfl, hK2⟩
  have HK2 := Lib.hid hK2
  have hr := hK2.hd.range
  have ht : w2.there (w.heap.size + 1) 0 V.toArray.size := hK2.tl.hd.there _ (by have := HLZ.out; have := HLV.out; simp; omega)
  have hk7 := Bk.sets V 0 _ _ hK2.tl.hd
  rw [puts_whole VZ.toArray V (by have := HLZ.out; have := HLV.out; simp; omega)] at hk7
  have HK7 := Lib.hid hk7
  clear hk7 hK2 CC1
  go_wp2_with (first | (refine wpList_load_mid rfl 28 _ rfl w.heap.size 0 rfl V _ hr Tryd.underlying28 rfl HIV.out ?_) | (refine wpList_store_mid rfl 28 _ _ rfl (w.heap.size + 1) 0 V.toArray rfl rfl ht (by simpa using HIV.out) HOV.out ?_))
  refine bodyPost_ret (v := .agg V.toArray) ?_ rfl ⟨rfl, below_sets _ (by omega) 0 _ HK2.out.2.1⟩
  exact results_cell rfl rfl (run_loadVar_mid _ (w.heap.size + 1) 0 28 V _ HK7.out.range Tryd.underlying28 rfl HIV.out)
set_option maxRecDepth 100000 in
set_option maxHeartbeats 4000000 in
theorem first6_any (x : List UInt8) (n : Int) (w : World) (hx : x.length = 16) (h0 : 0 ≤ n) (h9 : n ≤ 128) :
    Calls Tryd.prog 56 #[.agg (bu x).toArray, .int .i64 n] w fun e w' => e = .returned (.agg (bu (clr x n)).toArray) ∧ Below w.heap.size w w' := by
  obtain ⟨VZ, hVZ⟩ : ∃ VZ, VZ = ([.int .u8 0, .int .u8 0, .int .u8 0, .int .u8 0, .int .u8 0, .int .u8 0, .int .u8 0, .int .u8 0, .int .u8 0, .int .u8 0, .int .u8 0, .int .u8 0, .int .u8 0, .int .u8 0, .int .u8 0, .int .u8 0] : List Value) := ⟨_, rfl⟩
  have HLZ : Hid (VZ.length = 16) := Lib.hid (by rw [hVZ]; rfl)
  have HK1 := Lib.hid (kp2 w 24 24 (bu x) VZ).swap
  have CC := Lib.hid (fun W (k : Kp w w.heap.size [(w.heap.size, 24, bu x), (w.heap.size + 1, 24, VZ)] W) => clear_any w.heap.size x n 16 24 w W w.heap.size [(w.heap.size + 1, 24, VZ)] k (by intro y hy; rw [List.mem_singleton] at hy; rw [hy]; show w.heap.size + 1 ≠ w.heap.size; omega) (Nat.le_refl _) (by omega) h0 h9)
  rw [hx] at CC
  have HIV : Hid ((Tryd.prog.info? 24).map (·.size) = some (bu (clr x n)).length) := Lib.hid (Tryd.infoU6 _ (by rw [clr_len, hx]))
  have HOV := Lib.hid (bu_one (clr x n))
  have HLV : Hid ((bu (clr x n)).length = 16) := Lib.hid (by rw [bu_len, clr_len, hx])
  have hz : ([.int .u8 0, .int .u8 0, .int .u8 0, .int .u8 0, .int .u8 0, .int .u8 0, .int .u8 0, .int .u8 0, .int .u8 0, .int .u8 0, .int .u8 0, .int .u8 0, .int .u8 0, .int .u8 0, .int .u8 0, .int .u8 0] : List Value).toArray = VZ.toArray := by rw [hVZ]
  generalize bu (clr x n) = V at *
  generalize bu x = X at *
  clear hx h0 h9 hVZ
  generalize hw1 : (w.alloc (.cells X.toArray 24)).alloc (.cells VZ.toArray 24) = w1 at *
  go_enter Tryd.func56, Tryd.ntmps56
  go_upto_region 1 with (fail)
  clear hw1 hz
  have CC1 := Lib.hid (CC.out w1 HK1.out)
  clear CC HK1
  go_wp2_with fail
  refine CC1.out.mono ?_
  rintro e w2 ⟨rfl, hK2⟩
  have HK2 := Lib.hid hK2
  have hr := hK2.hd.range
  have ht : w2.there (w.heap.size + 1) 0 V.toArray.size := hK2.tl.hd.there _ (by have := HLZ.out; have := HLV.out; simp; omega)
  have hk7 := Bk.sets V 0 _ _ hK2.tl.hd
  rw [puts_whole VZ.toArray V (by have := HLZ.out; have := HLV.out; simp; omega)] at hk7
  have HK7 := Lib.hid hk7
  clear hk7 hK2 CC1
  go_wp2_with (first | (refine wpList_load_mid rfl 24 _ rfl w.heap.size 0 rfl V _ hr Tryd.underlying24 rfl HIV.out ?_) | (refine wpList_store_mid rfl 24 _ _ rfl (w.heap.size + 1) 0 V.toArray rfl rfl ht (by simpa using HIV.out) HOV.out ?_))
  refine bodyPost_ret (v := .agg V.toArray) ?_ rfl ⟨rfl, below_sets _ (by omega) 0 _ HK2.out.2.1⟩
  exact results_cell rfl rfl (run_loadVar_mid _ (w.heap.size + 1) 0 24 V _ HK7.out.range Tryd.underlying24 rfl HIV.out)
end Go.Proofs.YtkdplnbabelkoaaDoor
