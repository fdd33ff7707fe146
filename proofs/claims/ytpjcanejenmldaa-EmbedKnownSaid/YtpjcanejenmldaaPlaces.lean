/-
  Proved here: what the program's places answers.
  Conditions: a length that may be.
-/
import Derived.Test.YtpjcanejenmldaaProgInside
namespace Go.Proofs.Ytpjcanejenmldaa
open Go.RowKit

/-- Numbers as cells. -/
def iv (q : List Nat) : List Value := q.map fun n : Nat => .int .i64 (n : Int)
set_option maxRecDepth 100000 in
set_option maxHeartbeats 1000000 in
theorem places_any (L : Int) (hn : okL L = true) (w : World) :
    Calls Try.prog 21 #[.int .i64 L] w fun e w' => e = .returned (.agg (iv (pos4 L)).toArray) ∧ Below w.heap.size w w' := by
  have HK := Lib.hid (kp2 w 45 45 ([.int .i64 0, .int .i64 0, .int .i64 0, .int .i64 0] : List Value) ([.int .i64 0, .int .i64 0, .int .i64 0, .int .i64 0] : List Value))
  have HI : Hid ((Try.prog.info? 45).map (·.size) = some 4) := Lib.hid (by kernel_rfl)
  generalize hw1 : (w.alloc (.cells ([.int .i64 0, .int .i64 0, .int .i64 0, .int .i64 0] : List Value).toArray 45)).alloc (.cells ([.int .i64 0, .int .i64 0, .int .i64 0, .int .i64 0] : List Value).toArray 45) = w1 at *
  rcases okL_cases hn with rfl | rfl | rfl | rfl | rfl | rfl
  · clear hn
    go_enter Try.func21, Try.ntmps21
    go_upto_region 2 with (fail)
    clear hw1
    have k1 : (32 : Int).tdiv 8 = 4 := by decide
    go_wp2_with fail
    refine wp_loop_rounds 5 ?_
    have hK0 := HK.out
    clear HK
    have c0 := hK0.hd.at (i := 0) rfl
    have z0 := hK0.hd.z 0
    rw [rounds_succ]
    go_wp2_with fail
    have hK1 : Kp w w.heap.size [(w.heap.size + 1, 45, [.int .i64 4, .int .i64 0, .int .i64 0, .int .i64 0]), (w.heap.size, 45, ([.int .i64 0, .int .i64 0, .int .i64 0, .int .i64 0] : List Value))] (w1.setCell ⟨w.heap.size + 1, 0, none⟩ (.int .i64 4)) := hK0.set1 (by intro x hx; rw [List.mem_singleton] at hx; rw [hx]; show w.heap.size ≠ w.heap.size + 1; omega) (by omega) 0 _
    clear hK0 c0 z0
    generalize w1.setCell ⟨w.heap.size + 1, 0, none⟩ (.int .i64 4) = w2 at *
    have c1 := hK1.hd.at (i := 1) rfl
    have z1 := hK1.hd.z 1
    rw [rounds_succ]
    go_wp2_with fail
    have hK2 : Kp w w.heap.size [(w.heap.size + 1, 45, [.int .i64 4, .int .i64 5, .int .i64 0, .int .i64 0]), (w.heap.size, 45, ([.int .i64 0, .int .i64 0, .int .i64 0, .int .i64 0] : List Value))] (w2.setCell ⟨w.heap.size + 1, 1, none⟩ (.int .i64 5)) := hK1.set1 (by intro x hx; rw [List.mem_singleton] at hx; rw [hx]; show w.heap.size ≠ w.heap.size + 1; omega) (by omega) 1 _
    clear hK1 c1 z1
    generalize w2.setCell ⟨w.heap.size + 1, 1, none⟩ (.int .i64 5) = w3 at *
    have c2 := hK2.hd.at (i := 2) rfl
    have z2 := hK2.hd.z 2
    rw [rounds_succ]
    go_wp2_with fail
    have hK3 : Kp w w.heap.size [(w.heap.size + 1, 45, [.int .i64 4, .int .i64 5, .int .i64 6, .int .i64 0]), (w.heap.size, 45, ([.int .i64 0, .int .i64 0, .int .i64 0, .int .i64 0] : List Value))] (w3.setCell ⟨w.heap.size + 1, 2, none⟩ (.int .i64 6)) := hK2.set1 (by intro x hx; rw [List.mem_singleton] at hx; rw [hx]; show w.heap.size ≠ w.heap.size + 1; omega) (by omega) 2 _
    clear hK2 c2 z2
    generalize w3.setCell ⟨w.heap.size + 1, 2, none⟩ (.int .i64 6) = w4 at *
    have c3 := hK3.hd.at (i := 3) rfl
    have z3 := hK3.hd.z 3
    rw [rounds_succ]
    go_wp2_with fail
    have hK4 : Kp w w.heap.size [(w.heap.size + 1, 45, [.int .i64 4, .int .i64 5, .int .i64 6, .int .i64 7]), (w.heap.size, 45, ([.int .i64 0, .int .i64 0, .int .i64 0, .int .i64 0] : List Value))] (w4.setCell ⟨w.heap.size + 1, 3, none⟩ (.int .i64 7)) := hK3.set1 (by intro x hx; rw [List.mem_singleton] at hx; rw [hx]; show w.heap.size ≠ w.heap.size + 1; omega) (by omega) 3 _
    clear hK3 c3 z3
    generalize w4.setCell ⟨w.heap.size + 1, 3, none⟩ (.int .i64 7) = w5 at *
    have HK4 := Lib.hid hK4
    have hr := hK4.hd.range
    have ht := hK4.tl.hd.there 4 (Nat.le_refl _)
    have HOw : Hid (([.int .i64 4, .int .i64 5, .int .i64 6, .int .i64 7] : List Value).toArray.all (·.oneCell') = true) := Lib.hid (by simp [Value.oneCell'])
    clear hK4
    rw [rounds_succ]
    go_wp2_with (first | (refine wpList_load_mid rfl 45 _ rfl (w.heap.size + 1) 0 rfl ([.int .i64 4, .int .i64 5, .int .i64 6, .int .i64 7] : List Value) _ hr Try.underlying45 rfl HI.out ?_) | (refine wpList_store_mid rfl 45 _ _ rfl w.heap.size 0 ([.int .i64 4, .int .i64 5, .int .i64 6, .int .i64 7] : List Value).toArray rfl rfl ht HI.out HOw.out ?_))
    have hk7 := Bk.sets ([.int .i64 4, .int .i64 5, .int .i64 6, .int .i64 7] : List Value) 0 _ _ HK4.out.tl.hd
    rw [puts_whole ([.int .i64 0, .int .i64 0, .int .i64 0, .int .i64 0] : List Value).toArray ([.int .i64 4, .int .i64 5, .int .i64 6, .int .i64 7] : List Value) (by simp)] at hk7
    refine bodyPost_ret (v := .agg ([.int .i64 4, .int .i64 5, .int .i64 6, .int .i64 7] : List Value).toArray) ?_ rfl ⟨rfl, below_sets _ (Nat.le_refl _) 0 _ HK4.out.2.1⟩
    exact results_cell rfl rfl (run_loadVar_mid _ w.heap.size 0 45 ([.int .i64 4, .int .i64 5, .int .i64 6, .int .i64 7] : List Value) _ hk7.range Try.underlying45 rfl HI.out)
  · clear hn
    go_enter Try.func21, Try.ntmps21
    go_upto_region 2 with (fail)
    clear hw1
    have k1 : (40 : Int).tdiv 8 = 5 := by decide
    go_wp2_with fail
    refine wp_loop_rounds 5 ?_
    have hK0 := HK.out
    clear HK
    have c0 := hK0.hd.at (i := 0) rfl
    have z0 := hK0.hd.z 0
    rw [rounds_succ]
    go_wp2_with fail
    have hK1 : Kp w w.heap.size [(w.heap.size + 1, 45, [.int .i64 5, .int .i64 0, .int .i64 0, .int .i64 0]), (w.heap.size, 45, ([.int .i64 0, .int .i64 0, .int .i64 0, .int .i64 0] : List Value))] (w1.setCell ⟨w.heap.size + 1, 0, none⟩ (.int .i64 5)) := hK0.set1 (by intro x hx; rw [List.mem_singleton] at hx; rw [hx]; show w.heap.size ≠ w.heap.size + 1; omega) (by omega) 0 _
    clear hK0 c0 z0
    generalize w1.setCell ⟨w.heap.size + 1, 0, none⟩ (.int .i64 5) = w2 at *
    have c1 := hK1.hd.at (i := 1) rfl
    have z1 := hK1.hd.z 1
    rw [rounds_succ]
    go_wp2_with fail
    have hK2 : Kp w w.heap.size [(w.heap.size + 1, 45, [.int .i64 5, .int .i64 6, .int .i64 0, .int .i64 0]), (w.heap.size, 45, ([.int .i64 0, .int .i64 0, .int .i64 0, .int .i64 0] : List Value))] (w2.setCell ⟨w.heap.size + 1, 1, none⟩ (.int .i64 6)) := hK1.set1 (by intro x hx; rw [List.mem_singleton] at hx; rw [hx]; show w.heap.size ≠ w.heap.size + 1; omega) (by omega) 1 _
    clear hK1 c1 z1
    generalize w2.setCell ⟨w.heap.size + 1, 1, none⟩ (.int .i64 6) = w3 at *
    have c2 := hK2.hd.at (i := 2) rfl
    have z2 := hK2.hd.z 2
    rw [rounds_succ]
    go_wp2_with fail
    have hK3 : Kp w w.heap.size [(w.heap.size + 1, 45, [.int .i64 5, .int .i64 6, .int .i64 7, .int .i64 0]), (w.heap.size, 45, ([.int .i64 0, .int .i64 0, .int .i64 0, .int .i64 0] : List Value))] (w3.setCell ⟨w.heap.size + 1, 2, none⟩ (.int .i64 7)) := hK2.set1 (by intro x hx; rw [List.mem_singleton] at hx; rw [hx]; show w.heap.size ≠ w.heap.size + 1; omega) (by omega) 2 _
    clear hK2 c2 z2
    generalize w3.setCell ⟨w.heap.size + 1, 2, none⟩ (.int .i64 7) = w4 at *
    have c3 := hK3.hd.at (i := 3) rfl
    have z3 := hK3.hd.z 3
    rw [rounds_succ]
    go_wp2_with fail
    have hK4 : Kp w w.heap.size [(w.heap.size + 1, 45, [.int .i64 5, .int .i64 6, .int .i64 7, .int .i64 9]), (w.heap.size, 45, ([.int .i64 0, .int .i64 0, .int .i64 0, .int .i64 0] : List Value))] (w4.setCell ⟨w.heap.size + 1, 3, none⟩ (.int .i64 9)) := hK3.set1 (by intro x hx; rw [List.mem_singleton] at hx; rw [hx]; show w.heap.size ≠ w.heap.size + 1; omega) (by omega) 3 _
    clear hK3 c3 z3
    generalize w4.setCell ⟨w.heap.size + 1, 3, none⟩ (.int .i64 9) = w5 at *
    have HK4 := Lib.hid hK4
    have hr := hK4.hd.range
    have ht := hK4.tl.hd.there 4 (Nat.le_refl _)
    have HOw : Hid (([.int .i64 5, .int .i64 6, .int .i64 7, .int .i64 9] : List Value).toArray.all (·.oneCell') = true) := Lib.hid (by simp [Value.oneCell'])
    clear hK4
    rw [rounds_succ]
    go_wp2_with (first | (refine wpList_load_mid rfl 45 _ rfl (w.heap.size + 1) 0 rfl ([.int .i64 5, .int .i64 6, .int .i64 7, .int .i64 9] : List Value) _ hr Try.underlying45 rfl HI.out ?_) | (refine wpList_store_mid rfl 45 _ _ rfl w.heap.size 0 ([.int .i64 5, .int .i64 6, .int .i64 7, .int .i64 9] : List Value).toArray rfl rfl ht HI.out HOw.out ?_))
    have hk7 := Bk.sets ([.int .i64 5, .int .i64 6, .int .i64 7, .int .i64 9] : List Value) 0 _ _ HK4.out.tl.hd
    rw [puts_whole ([.int .i64 0, .int .i64 0, .int .i64 0, .int .i64 0] : List Value).toArray ([.int .i64 5, .int .i64 6, .int .i64 7, .int .i64 9] : List Value) (by simp)] at hk7
    refine bodyPost_ret (v := .agg ([.int .i64 5, .int .i64 6, .int .i64 7, .int .i64 9] : List Value).toArray) ?_ rfl ⟨rfl, below_sets _ (Nat.le_refl _) 0 _ HK4.out.2.1⟩
    exact results_cell rfl rfl (run_loadVar_mid _ w.heap.size 0 45 ([.int .i64 5, .int .i64 6, .int .i64 7, .int .i64 9] : List Value) _ hk7.range Try.underlying45 rfl HI.out)
  · clear hn
    go_enter Try.func21, Try.ntmps21
    go_upto_region 2 with (fail)
    clear hw1
    have k1 : (48 : Int).tdiv 8 = 6 := by decide
    go_wp2_with fail
    refine wp_loop_rounds 5 ?_
    have hK0 := HK.out
    clear HK
    have c0 := hK0.hd.at (i := 0) rfl
    have z0 := hK0.hd.z 0
    rw [rounds_succ]
    go_wp2_with fail
    have hK1 : Kp w w.heap.size [(w.heap.size + 1, 45, [.int .i64 6, .int .i64 0, .int .i64 0, .int .i64 0]), (w.heap.size, 45, ([.int .i64 0, .int .i64 0, .int .i64 0, .int .i64 0] : List Value))] (w1.setCell ⟨w.heap.size + 1, 0, none⟩ (.int .i64 6)) := hK0.set1 (by intro x hx; rw [List.mem_singleton] at hx; rw [hx]; show w.heap.size ≠ w.heap.size + 1; omega) (by omega) 0 _
    clear hK0 c0 z0
    generalize w1.setCell ⟨w.heap.size + 1, 0, none⟩ (.int .i64 6) = w2 at *
    have c1 := hK1.hd.at (i := 1) rfl
    have z1 := hK1.hd.z 1
    rw [rounds_succ]
    go_wp2_with fail
    have hK2 : Kp w w.heap.size [(w.heap.size + 1, 45, [.int .i64 6, .int .i64 7, .int .i64 0, .int .i64 0]), (w.heap.size, 45, ([.int .i64 0, .int .i64 0, .int .i64 0, .int .i64 0] : List Value))] (w2.setCell ⟨w.heap.size + 1, 1, none⟩ (.int .i64 7)) := hK1.set1 (by intro x hx; rw [List.mem_singleton] at hx; rw [hx]; show w.heap.size ≠ w.heap.size + 1; omega) (by omega) 1 _
    clear hK1 c1 z1
    generalize w2.setCell ⟨w.heap.size + 1, 1, none⟩ (.int .i64 7) = w3 at *
    have c2 := hK2.hd.at (i := 2) rfl
    have z2 := hK2.hd.z 2
    rw [rounds_succ]
    go_wp2_with fail
    have hK3 : Kp w w.heap.size [(w.heap.size + 1, 45, [.int .i64 6, .int .i64 7, .int .i64 9, .int .i64 0]), (w.heap.size, 45, ([.int .i64 0, .int .i64 0, .int .i64 0, .int .i64 0] : List Value))] (w3.setCell ⟨w.heap.size + 1, 2, none⟩ (.int .i64 9)) := hK2.set1 (by intro x hx; rw [List.mem_singleton] at hx; rw [hx]; show w.heap.size ≠ w.heap.size + 1; omega) (by omega) 2 _
    clear hK2 c2 z2
    generalize w3.setCell ⟨w.heap.size + 1, 2, none⟩ (.int .i64 9) = w4 at *
    have c3 := hK3.hd.at (i := 3) rfl
    have z3 := hK3.hd.z 3
    rw [rounds_succ]
    go_wp2_with fail
    have hK4 : Kp w w.heap.size [(w.heap.size + 1, 45, [.int .i64 6, .int .i64 7, .int .i64 9, .int .i64 10]), (w.heap.size, 45, ([.int .i64 0, .int .i64 0, .int .i64 0, .int .i64 0] : List Value))] (w4.setCell ⟨w.heap.size + 1, 3, none⟩ (.int .i64 10)) := hK3.set1 (by intro x hx; rw [List.mem_singleton] at hx; rw [hx]; show w.heap.size ≠ w.heap.size + 1; omega) (by omega) 3 _
    clear hK3 c3 z3
    generalize w4.setCell ⟨w.heap.size + 1, 3, none⟩ (.int .i64 10) = w5 at *
    have HK4 := Lib.hid hK4
    have hr := hK4.hd.range
    have ht := hK4.tl.hd.there 4 (Nat.le_refl _)
    have HOw : Hid (([.int .i64 6, .int .i64 7, .int .i64 9, .int .i64 10] : List Value).toArray.all (·.oneCell') = true) := Lib.hid (by simp [Value.oneCell'])
    clear hK4
    rw [rounds_succ]
    go_wp2_with (first | (refine wpList_load_mid rfl 45 _ rfl (w.heap.size + 1) 0 rfl ([.int .i64 6, .int .i64 7, .int .i64 9, .int .i64 10] : List Value) _ hr Try.underlying45 rfl HI.out ?_) | (refine wpList_store_mid rfl 45 _ _ rfl w.heap.size 0 ([.int .i64 6, .int .i64 7, .int .i64 9, .int .i64 10] : List Value).toArray rfl rfl ht HI.out HOw.out ?_))
    have hk7 := Bk.sets ([.int .i64 6, .int .i64 7, .int .i64 9, .int .i64 10] : List Value) 0 _ _ HK4.out.tl.hd
    rw [puts_whole ([.int .i64 0, .int .i64 0, .int .i64 0, .int .i64 0] : List Value).toArray ([.int .i64 6, .int .i64 7, .int .i64 9, .int .i64 10] : List Value) (by simp)] at hk7
    refine bodyPost_ret (v := .agg ([.int .i64 6, .int .i64 7, .int .i64 9, .int .i64 10] : List Value).toArray) ?_ rfl ⟨rfl, below_sets _ (Nat.le_refl _) 0 _ HK4.out.2.1⟩
    exact results_cell rfl rfl (run_loadVar_mid _ w.heap.size 0 45 ([.int .i64 6, .int .i64 7, .int .i64 9, .int .i64 10] : List Value) _ hk7.range Try.underlying45 rfl HI.out)
  · clear hn
    go_enter Try.func21, Try.ntmps21
    go_upto_region 2 with (fail)
    clear hw1
    have k1 : (56 : Int).tdiv 8 = 7 := by decide
    go_wp2_with fail
    refine wp_loop_rounds 5 ?_
    have hK0 := HK.out
    clear HK
    have c0 := hK0.hd.at (i := 0) rfl
    have z0 := hK0.hd.z 0
    rw [rounds_succ]
    go_wp2_with fail
    have hK1 : Kp w w.heap.size [(w.heap.size + 1, 45, [.int .i64 7, .int .i64 0, .int .i64 0, .int .i64 0]), (w.heap.size, 45, ([.int .i64 0, .int .i64 0, .int .i64 0, .int .i64 0] : List Value))] (w1.setCell ⟨w.heap.size + 1, 0, none⟩ (.int .i64 7)) := hK0.set1 (by intro x hx; rw [List.mem_singleton] at hx; rw [hx]; show w.heap.size ≠ w.heap.size + 1; omega) (by omega) 0 _
    clear hK0 c0 z0
    generalize w1.setCell ⟨w.heap.size + 1, 0, none⟩ (.int .i64 7) = w2 at *
    have c1 := hK1.hd.at (i := 1) rfl
    have z1 := hK1.hd.z 1
    rw [rounds_succ]
    go_wp2_with fail
    have hK2 : Kp w w.heap.size [(w.heap.size + 1, 45, [.int .i64 7, .int .i64 9, .int .i64 0, .int .i64 0]), (w.heap.size, 45, ([.int .i64 0, .int .i64 0, .int .i64 0, .int .i64 0] : List Value))] (w2.setCell ⟨w.heap.size + 1, 1, none⟩ (.int .i64 9)) := hK1.set1 (by intro x hx; rw [List.mem_singleton] at hx; rw [hx]; show w.heap.size ≠ w.heap.size + 1; omega) (by omega) 1 _
    clear hK1 c1 z1
    generalize w2.setCell ⟨w.heap.size + 1, 1, none⟩ (.int .i64 9) = w3 at *
    have c2 := hK2.hd.at (i := 2) rfl
    have z2 := hK2.hd.z 2
    rw [rounds_succ]
    go_wp2_with fail
    have hK3 : Kp w w.heap.size [(w.heap.size + 1, 45, [.int .i64 7, .int .i64 9, .int .i64 10, .int .i64 0]), (w.heap.size, 45, ([.int .i64 0, .int .i64 0, .int .i64 0, .int .i64 0] : List Value))] (w3.setCell ⟨w.heap.size + 1, 2, none⟩ (.int .i64 10)) := hK2.set1 (by intro x hx; rw [List.mem_singleton] at hx; rw [hx]; show w.heap.size ≠ w.heap.size + 1; omega) (by omega) 2 _
    clear hK2 c2 z2
    generalize w3.setCell ⟨w.heap.size + 1, 2, none⟩ (.int .i64 10) = w4 at *
    have c3 := hK3.hd.at (i := 3) rfl
    have z3 := hK3.hd.z 3
    rw [rounds_succ]
    go_wp2_with fail
    have hK4 : Kp w w.heap.size [(w.heap.size + 1, 45, [.int .i64 7, .int .i64 9, .int .i64 10, .int .i64 11]), (w.heap.size, 45, ([.int .i64 0, .int .i64 0, .int .i64 0, .int .i64 0] : List Value))] (w4.setCell ⟨w.heap.size + 1, 3, none⟩ (.int .i64 11)) := hK3.set1 (by intro x hx; rw [List.mem_singleton] at hx; rw [hx]; show w.heap.size ≠ w.heap.size + 1; omega) (by omega) 3 _
    clear hK3 c3 z3
    generalize w4.setCell ⟨w.heap.size + 1, 3, none⟩ (.int .i64 11) = w5 at *
    have HK4 := Lib.hid hK4
    have hr := hK4.hd.range
    have ht := hK4.tl.hd.there 4 (Nat.le_refl _)
    have HOw : Hid (([.int .i64 7, .int .i64 9, .int .i64 10, .int .i64 11] : List Value).toArray.all (·.oneCell') = true) := Lib.hid (by simp [Value.oneCell'])
    clear hK4
    rw [rounds_succ]
    go_wp2_with (first | (refine wpList_load_mid rfl 45 _ rfl (w.heap.size + 1) 0 rfl ([.int .i64 7, .int .i64 9, .int .i64 10, .int .i64 11] : List Value) _ hr Try.underlying45 rfl HI.out ?_) | (refine wpList_store_mid rfl 45 _ _ rfl w.heap.size 0 ([.int .i64 7, .int .i64 9, .int .i64 10, .int .i64 11] : List Value).toArray rfl rfl ht HI.out HOw.out ?_))
    have hk7 := Bk.sets ([.int .i64 7, .int .i64 9, .int .i64 10, .int .i64 11] : List Value) 0 _ _ HK4.out.tl.hd
    rw [puts_whole ([.int .i64 0, .int .i64 0, .int .i64 0, .int .i64 0] : List Value).toArray ([.int .i64 7, .int .i64 9, .int .i64 10, .int .i64 11] : List Value) (by simp)] at hk7
    refine bodyPost_ret (v := .agg ([.int .i64 7, .int .i64 9, .int .i64 10, .int .i64 11] : List Value).toArray) ?_ rfl ⟨rfl, below_sets _ (Nat.le_refl _) 0 _ HK4.out.2.1⟩
    exact results_cell rfl rfl (run_loadVar_mid _ w.heap.size 0 45 ([.int .i64 7, .int .i64 9, .int .i64 10, .int .i64 11] : List Value) _ hk7.range Try.underlying45 rfl HI.out)
  · clear hn
    go_enter Try.func21, Try.ntmps21
    go_upto_region 2 with (fail)
    clear hw1
    have k1 : (64 : Int).tdiv 8 = 8 := by decide
    go_wp2_with fail
    refine wp_loop_rounds 5 ?_
    have hK0 := HK.out
    clear HK
    have c0 := hK0.hd.at (i := 0) rfl
    have z0 := hK0.hd.z 0
    rw [rounds_succ]
    go_wp2_with fail
    have hK1 : Kp w w.heap.size [(w.heap.size + 1, 45, [.int .i64 9, .int .i64 0, .int .i64 0, .int .i64 0]), (w.heap.size, 45, ([.int .i64 0, .int .i64 0, .int .i64 0, .int .i64 0] : List Value))] (w1.setCell ⟨w.heap.size + 1, 0, none⟩ (.int .i64 9)) := hK0.set1 (by intro x hx; rw [List.mem_singleton] at hx; rw [hx]; show w.heap.size ≠ w.heap.size + 1; omega) (by omega) 0 _
    clear hK0 c0 z0
    generalize w1.setCell ⟨w.heap.size + 1, 0, none⟩ (.int .i64 9) = w2 at *
    have c1 := hK1.hd.at (i := 1) rfl
    have z1 := hK1.hd.z 1
    rw [rounds_succ]
    go_wp2_with fail
    have hK2 : Kp w w.heap.size [(w.heap.size + 1, 45, [.int .i64 9, .int .i64 10, .int .i64 0, .int .i64 0]), (w.heap.size, 45, ([.int .i64 0, .int .i64 0, .int .i64 0, .int .i64 0] : List Value))] (w2.setCell ⟨w.heap.size + 1, 1, none⟩ (.int .i64 10)) := hK1.set1 (by intro x hx; rw [List.mem_singleton] at hx; rw [hx]; show w.heap.size ≠ w.heap.size + 1; omega) (by omega) 1 _
    clear hK1 c1 z1
    generalize w2.setCell ⟨w.heap.size + 1, 1, none⟩ (.int .i64 10) = w3 at *
    have c2 := hK2.hd.at (i := 2) rfl
    have z2 := hK2.hd.z 2
    rw [rounds_succ]
    go_wp2_with fail
    have hK3 : Kp w w.heap.size [(w.heap.size + 1, 45, [.int .i64 9, .int .i64 10, .int .i64 11, .int .i64 0]), (w.heap.size, 45, ([.int .i64 0, .int .i64 0, .int .i64 0, .int .i64 0] : List Value))] (w3.setCell ⟨w.heap.size + 1, 2, none⟩ (.int .i64 11)) := hK2.set1 (by intro x hx; rw [List.mem_singleton] at hx; rw [hx]; show w.heap.size ≠ w.heap.size + 1; omega) (by omega) 2 _
    clear hK2 c2 z2
    generalize w3.setCell ⟨w.heap.size + 1, 2, none⟩ (.int .i64 11) = w4 at *
    have c3 := hK3.hd.at (i := 3) rfl
    have z3 := hK3.hd.z 3
    rw [rounds_succ]
    go_wp2_with fail
    have hK4 : Kp w w.heap.size [(w.heap.size + 1, 45, [.int .i64 9, .int .i64 10, .int .i64 11, .int .i64 12]), (w.heap.size, 45, ([.int .i64 0, .int .i64 0, .int .i64 0, .int .i64 0] : List Value))] (w4.setCell ⟨w.heap.size + 1, 3, none⟩ (.int .i64 12)) := hK3.set1 (by intro x hx; rw [List.mem_singleton] at hx; rw [hx]; show w.heap.size ≠ w.heap.size + 1; omega) (by omega) 3 _
    clear hK3 c3 z3
    generalize w4.setCell ⟨w.heap.size + 1, 3, none⟩ (.int .i64 12) = w5 at *
    have HK4 := Lib.hid hK4
    have hr := hK4.hd.range
    have ht := hK4.tl.hd.there 4 (Nat.le_refl _)
    have HOw : Hid (([.int .i64 9, .int .i64 10, .int .i64 11, .int .i64 12] : List Value).toArray.all (·.oneCell') = true) := Lib.hid (by simp [Value.oneCell'])
    clear hK4
    rw [rounds_succ]
    go_wp2_with (first | (refine wpList_load_mid rfl 45 _ rfl (w.heap.size + 1) 0 rfl ([.int .i64 9, .int .i64 10, .int .i64 11, .int .i64 12] : List Value) _ hr Try.underlying45 rfl HI.out ?_) | (refine wpList_store_mid rfl 45 _ _ rfl w.heap.size 0 ([.int .i64 9, .int .i64 10, .int .i64 11, .int .i64 12] : List Value).toArray rfl rfl ht HI.out HOw.out ?_))
    have hk7 := Bk.sets ([.int .i64 9, .int .i64 10, .int .i64 11, .int .i64 12] : List Value) 0 _ _ HK4.out.tl.hd
    rw [puts_whole ([.int .i64 0, .int .i64 0, .int .i64 0, .int .i64 0] : List Value).toArray ([.int .i64 9, .int .i64 10, .int .i64 11, .int .i64 12] : List Value) (by simp)] at hk7
    refine bodyPost_ret (v := .agg ([.int .i64 9, .int .i64 10, .int .i64 11, .int .i64 12] : List Value).toArray) ?_ rfl ⟨rfl, below_sets _ (Nat.le_refl _) 0 _ HK4.out.2.1⟩
    exact results_cell rfl rfl (run_loadVar_mid _ w.heap.size 0 45 ([.int .i64 9, .int .i64 10, .int .i64 11, .int .i64 12] : List Value) _ hk7.range Try.underlying45 rfl HI.out)
  · clear hn
    go_enter Try.func21, Try.ntmps21
    go_upto_region 2 with (fail)
    clear hw1
    have k1 : (96 : Int).tdiv 8 = 12 := by decide
    go_wp2_with fail
    refine wp_loop_rounds 5 ?_
    have hK0 := HK.out
    clear HK
    have c0 := hK0.hd.at (i := 0) rfl
    have z0 := hK0.hd.z 0
    rw [rounds_succ]
    go_wp2_with fail
    have hK1 : Kp w w.heap.size [(w.heap.size + 1, 45, [.int .i64 12, .int .i64 0, .int .i64 0, .int .i64 0]), (w.heap.size, 45, ([.int .i64 0, .int .i64 0, .int .i64 0, .int .i64 0] : List Value))] (w1.setCell ⟨w.heap.size + 1, 0, none⟩ (.int .i64 12)) := hK0.set1 (by intro x hx; rw [List.mem_singleton] at hx; rw [hx]; show w.heap.size ≠ w.heap.size + 1; omega) (by omega) 0 _
    clear hK0 c0 z0
    generalize w1.setCell ⟨w.heap.size + 1, 0, none⟩ (.int .i64 12) = w2 at *
    have c1 := hK1.hd.at (i := 1) rfl
    have z1 := hK1.hd.z 1
    rw [rounds_succ]
    go_wp2_with fail
    have hK2 : Kp w w.heap.size [(w.heap.size + 1, 45, [.int .i64 12, .int .i64 13, .int .i64 0, .int .i64 0]), (w.heap.size, 45, ([.int .i64 0, .int .i64 0, .int .i64 0, .int .i64 0] : List Value))] (w2.setCell ⟨w.heap.size + 1, 1, none⟩ (.int .i64 13)) := hK1.set1 (by intro x hx; rw [List.mem_singleton] at hx; rw [hx]; show w.heap.size ≠ w.heap.size + 1; omega) (by omega) 1 _
    clear hK1 c1 z1
    generalize w2.setCell ⟨w.heap.size + 1, 1, none⟩ (.int .i64 13) = w3 at *
    have c2 := hK2.hd.at (i := 2) rfl
    have z2 := hK2.hd.z 2
    rw [rounds_succ]
    go_wp2_with fail
    have hK3 : Kp w w.heap.size [(w.heap.size + 1, 45, [.int .i64 12, .int .i64 13, .int .i64 14, .int .i64 0]), (w.heap.size, 45, ([.int .i64 0, .int .i64 0, .int .i64 0, .int .i64 0] : List Value))] (w3.setCell ⟨w.heap.size + 1, 2, none⟩ (.int .i64 14)) := hK2.set1 (by intro x hx; rw [List.mem_singleton] at hx; rw [hx]; show w.heap.size ≠ w.heap.size + 1; omega) (by omega) 2 _
    clear hK2 c2 z2
    generalize w3.setCell ⟨w.heap.size + 1, 2, none⟩ (.int .i64 14) = w4 at *
    have c3 := hK3.hd.at (i := 3) rfl
    have z3 := hK3.hd.z 3
    rw [rounds_succ]
    go_wp2_with fail
    have hK4 : Kp w w.heap.size [(w.heap.size + 1, 45, [.int .i64 12, .int .i64 13, .int .i64 14, .int .i64 15]), (w.heap.size, 45, ([.int .i64 0, .int .i64 0, .int .i64 0, .int .i64 0] : List Value))] (w4.setCell ⟨w.heap.size + 1, 3, none⟩ (.int .i64 15)) := hK3.set1 (by intro x hx; rw [List.mem_singleton] at hx; rw [hx]; show w.heap.size ≠ w.heap.size + 1; omega) (by omega) 3 _
    clear hK3 c3 z3
    generalize w4.setCell ⟨w.heap.size + 1, 3, none⟩ (.int .i64 15) = w5 at *
    have HK4 := Lib.hid hK4
    have hr := hK4.hd.range
    have ht := hK4.tl.hd.there 4 (Nat.le_refl _)
    have HOw : Hid (([.int .i64 12, .int .i64 13, .int .i64 14, .int .i64 15] : List Value).toArray.all (·.oneCell') = true) := Lib.hid (by simp [Value.oneCell'])
    clear hK4
    rw [rounds_succ]
    go_wp2_with (first | (refine wpList_load_mid rfl 45 _ rfl (w.heap.size + 1) 0 rfl ([.int .i64 12, .int .i64 13, .int .i64 14, .int .i64 15] : List Value) _ hr Try.underlying45 rfl HI.out ?_) | (refine wpList_store_mid rfl 45 _ _ rfl w.heap.size 0 ([.int .i64 12, .int .i64 13, .int .i64 14, .int .i64 15] : List Value).toArray rfl rfl ht HI.out HOw.out ?_))
    have hk7 := Bk.sets ([.int .i64 12, .int .i64 13, .int .i64 14, .int .i64 15] : List Value) 0 _ _ HK4.out.tl.hd
    rw [puts_whole ([.int .i64 0, .int .i64 0, .int .i64 0, .int .i64 0] : List Value).toArray ([.int .i64 12, .int .i64 13, .int .i64 14, .int .i64 15] : List Value) (by simp)] at hk7
    refine bodyPost_ret (v := .agg ([.int .i64 12, .int .i64 13, .int .i64 14, .int .i64 15] : List Value).toArray) ?_ rfl ⟨rfl, below_sets _ (Nat.le_refl _) 0 _ HK4.out.2.1⟩
    exact results_cell rfl rfl (run_loadVar_mid _ w.heap.size 0 45 ([.int .i64 12, .int .i64 13, .int .i64 14, .int .i64 15] : List Value) _ hk7.range Try.underlying45 rfl HI.out)
end Go.Proofs.Ytpjcanejenmldaa
