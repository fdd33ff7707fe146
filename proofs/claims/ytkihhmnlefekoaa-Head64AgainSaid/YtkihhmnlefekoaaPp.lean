/-
  Proved here: what head64's within, fault, Proto, Wants and fits answer.
  Conditions: as each fact says.
-/
import Derived.Test.YtkihhmnlefekoaaRx
namespace Go.Proofs.Ytkihhmnlefekoaa
open Go.RowKit

theorem within64_lo (x m : Int) (w : World) (h0 : x < 0) :
    Calls Try.prog 24 #[.int .i64 x, .int .i64 m] w fun e w' => e = .returned (.bool false) ∧ w = w' := by
  go_enter Try.func24, Try.ntmps24
  go_wp2_with fail
  go_ret
  exact ⟨rfl, rfl⟩
theorem within64_hi (x m : Int) (w : World) (h0 : ¬ x < 0) (h1 : m < x) :
    Calls Try.prog 24 #[.int .i64 x, .int .i64 m] w fun e w' => e = .returned (.bool false) ∧ w = w' := by
  have h2 : ¬ x ≤ m := by omega
  go_enter Try.func24, Try.ntmps24
  go_wp2_with fail
  go_ret
  exact ⟨rfl, rfl⟩
theorem within64_in (x m : Int) (w : World) (h0 : ¬ x < 0) (h1 : ¬ m < x) :
    Calls Try.prog 24 #[.int .i64 x, .int .i64 m] w fun e w' => e = .returned (.bool true) ∧ w = w' := by
  go_enter Try.func24, Try.ntmps24
  go_wp2_with fail
  go_ret
  exact ⟨rfl, rfl⟩
theorem within64_no (x m : Int) (w : World) (h : x < 0 ∨ m < x) : Calls Try.prog 24 #[.int .i64 x, .int .i64 m] w fun e w' => e = .returned (.bool false) ∧ w = w' := by
  by_cases h0 : x < 0
  · exact within64_lo x m w h0
  · exact within64_hi x m w h0 (by omega)
theorem fault64_any (c : Int) (w : World) : Calls Try.prog 25 #[.int .i64 c] w fun e w' => e = .returned (.iface 75 (.pointer (some ⟨w.heap.size, 0, none⟩))) ∧ Flt w' w.heap.size c 0 ∧ Below w.heap.size w w' := by
  go_enter Try.func25, Try.ntmps25
  go_wp2_with fail
  go_ret
  exact ⟨rfl, Flt.new w c 0, (Below.refl _ _).alloc (Nat.le_refl _) _⟩
theorem proto64_c58 (n : Int) (w : World) (h : n = 58) :
    Calls Try.prog 16 #[.int .i64 n] w fun e w' => e = .returned (.tuple #[.int .i64 1, .bool true]) ∧ w = w' := by
  subst h
  go_enter Try.func16, Try.ntmps16
  go_wp2_with fail
  go_ret2
  exact ⟨rfl, rfl⟩
theorem proto64_c0 (n : Int) (w : World) (h : n = 0) :
    Calls Try.prog 16 #[.int .i64 n] w fun e w' => e = .returned (.tuple #[.int .i64 0, .bool false]) ∧ w = w' := by
  subst h
  go_enter Try.func16, Try.ntmps16
  go_wp2_with fail
  go_ret2
  exact ⟨rfl, rfl⟩
theorem proto64_c1 (n : Int) (w : World) (h : n = 1) :
    Calls Try.prog 16 #[.int .i64 n] w fun e w' => e = .returned (.tuple #[.int .i64 0, .bool false]) ∧ w = w' := by
  subst h
  go_enter Try.func16, Try.ntmps16
  go_wp2_with fail
  go_ret2
  exact ⟨rfl, rfl⟩
theorem proto64_c2 (n : Int) (w : World) (h : n = 2) :
    Calls Try.prog 16 #[.int .i64 n] w fun e w' => e = .returned (.tuple #[.int .i64 0, .bool false]) ∧ w = w' := by
  subst h
  go_enter Try.func16, Try.ntmps16
  go_wp2_with fail
  go_ret2
  exact ⟨rfl, rfl⟩
theorem proto64_c43 (n : Int) (w : World) (h : n = 43) :
    Calls Try.prog 16 #[.int .i64 n] w fun e w' => e = .returned (.tuple #[.int .i64 0, .bool false]) ∧ w = w' := by
  subst h
  go_enter Try.func16, Try.ntmps16
  go_wp2_with fail
  go_ret2
  exact ⟨rfl, rfl⟩
theorem proto64_c44 (n : Int) (w : World) (h : n = 44) :
    Calls Try.prog 16 #[.int .i64 n] w fun e w' => e = .returned (.tuple #[.int .i64 0, .bool false]) ∧ w = w' := by
  subst h
  go_enter Try.func16, Try.ntmps16
  go_wp2_with fail
  go_ret2
  exact ⟨rfl, rfl⟩
theorem proto64_c60 (n : Int) (w : World) (h : n = 60) :
    Calls Try.prog 16 #[.int .i64 n] w fun e w' => e = .returned (.tuple #[.int .i64 0, .bool false]) ∧ w = w' := by
  subst h
  go_enter Try.func16, Try.ntmps16
  go_wp2_with fail
  go_ret2
  exact ⟨rfl, rfl⟩
theorem proto64_out (n : Int) (w : World) (k58 : (n == 58) = false) (k0 : (n == 0) = false) (k1 : (n == 1) = false) (k2 : (n == 2) = false) (k43 : (n == 43) = false) (k44 : (n == 44) = false) (k60 : (n == 60) = false) (h0 : n < 0 ∨ 255 < n) :
    Calls Try.prog 16 #[.int .i64 n] w fun e w' => e = .returned (.tuple #[.int .i64 0, .bool false]) ∧ w = w' := by
  have HW : Hid (∀ W, Calls Try.prog 24 #[.int .i64 n, .int .i64 255] W fun e w' => e = .returned (.bool false) ∧ W = w') := Lib.hid (fun W => within64_no n 255 W h0)
  clear h0
  go_enter Try.func16, Try.ntmps16
  go_wp2_with fail
  refine (HW.out _).mono ?_
  rintro e w9 ⟨rfl, rfl⟩
  go_wp2_with fail
  go_ret2
  exact ⟨rfl, rfl⟩
theorem proto64_is (n : Int) (w : World) (k58 : (n == 58) = false) (k0 : (n == 0) = false) (k1 : (n == 1) = false) (k2 : (n == 2) = false) (k43 : (n == 43) = false) (k44 : (n == 44) = false) (k60 : (n == 60) = false) (h0 : ¬ n < 0 ∧ ¬ 255 < n) :
    Calls Try.prog 16 #[.int .i64 n] w fun e w' => e = .returned (.tuple #[.int .i64 n, .bool true]) ∧ w = w' := by
  have HW : Hid (∀ W, Calls Try.prog 24 #[.int .i64 n, .int .i64 255] W fun e w' => e = .returned (.bool true) ∧ W = w') := Lib.hid (fun W => within64_in n 255 W h0.1 h0.2)
  clear h0
  go_enter Try.func16, Try.ntmps16
  go_wp2_with fail
  refine (HW.out _).mono ?_
  rintro e w9 ⟨rfl, rfl⟩
  go_wp2_with fail
  go_ret2
  exact ⟨rfl, rfl⟩
theorem proto64_any (n : Int) (w : World) :
    Calls Try.prog 16 #[.int .i64 n] w fun e w' => e = .returned (.tuple #[.int .i64 (pr64 n), .bool (prOk64 n)]) ∧ w = w' := by
  by_cases h58 : n = 58
  · have := proto64_c58 n w h58
    rw [h58] at this ⊢
    exact this
  by_cases h0 : n = 0
  · have := proto64_c0 n w h0
    rw [h0] at this ⊢
    exact this
  by_cases h1 : n = 1
  · have := proto64_c1 n w h1
    rw [h1] at this ⊢
    exact this
  by_cases h2 : n = 2
  · have := proto64_c2 n w h2
    rw [h2] at this ⊢
    exact this
  by_cases h43 : n = 43
  · have := proto64_c43 n w h43
    rw [h43] at this ⊢
    exact this
  by_cases h44 : n = 44
  · have := proto64_c44 n w h44
    rw [h44] at this ⊢
    exact this
  by_cases h60 : n = 60
  · have := proto64_c60 n w h60
    rw [h60] at this ⊢
    exact this
  have k58 : (n == 58) = false := by rw [beq_eq_false_iff_ne]; exact h58
  have k0 : (n == 0) = false := by rw [beq_eq_false_iff_ne]; exact h0
  have k1 : (n == 1) = false := by rw [beq_eq_false_iff_ne]; exact h1
  have k2 : (n == 2) = false := by rw [beq_eq_false_iff_ne]; exact h2
  have k43 : (n == 43) = false := by rw [beq_eq_false_iff_ne]; exact h43
  have k44 : (n == 44) = false := by rw [beq_eq_false_iff_ne]; exact h44
  have k60 : (n == 60) = false := by rw [beq_eq_false_iff_ne]; exact h60
  have hp : prOk64 n = (decide (2 < n) && decide (n ≤ 255)) := by unfold prOk64 bne; rw [k43, k44, k58, k60]; simp
  by_cases hn : n < 0 ∨ 255 < n
  · have e1 : prOk64 n = false := by rw [hp, Bool.and_eq_false_iff, decide_eq_false_iff_not, decide_eq_false_iff_not]; omega
    have e2 : pr64 n = 0 := by unfold pr64; rw [if_neg h58, e1, if_neg (by simp)]
    rw [e1, e2]
    exact proto64_out n w k58 k0 k1 k2 k43 k44 k60 hn
  · have e1 : prOk64 n = true := by rw [hp, show decide (2 < n) = true by rw [decide_eq_true_iff]; omega, show decide (n ≤ 255) = true by rw [decide_eq_true_iff]; omega]; rfl
    have e2 : pr64 n = n := by unfold pr64; rw [if_neg h58, e1, if_pos rfl]
    rw [e1, e2]
    exact proto64_is n w k58 k0 k1 k2 k43 k44 k60 (by omega)
set_option maxRecDepth 100000 in
set_option maxHeartbeats 4000000 in
theorem wants_frag (p : Pk6) (v : Value) (w : World) (hf : p.frag = true) :
    Calls Try.prog 12 #[.agg (p.vals v).toArray] w fun e w' => e = .returned (.bool false) ∧ Below w.heap.size w w' := by
  have HC_VP_0 : Hid ((p.vals v)[0]? = some (.int .i64 p.cls)) := Lib.hid (rfl)
  have HC_VP_2 : Hid ((p.vals v)[2]? = some (.int .i64 p.hop)) := Lib.hid (rfl)
  have HC_VP_35 : Hid ((p.vals v)[35]? = some (v)) := Lib.hid (vals_tail p v 0)
  have HC_VP_36 : Hid ((p.vals v)[36]? = some (.bool true)) := Lib.hid (by rw [← hf]; exact vals_tail p v 1)
  have HC_VP_37 : Hid ((p.vals v)[37]? = some (.int .u32 p.id)) := Lib.hid (vals_tail p v 2)
  have HC_VP_38 : Hid ((p.vals v)[38]? = some (.int .i64 p.pl)) := Lib.hid (vals_tail p v 3)
  have HC_VP_39 : Hid ((p.vals v)[39]? = some (.bool p.more)) := Lib.hid (vals_tail p v 4)
  have HC_VP_40 : Hid ((p.vals v)[40]? = some (.int .i64 p.proto)) := Lib.hid (vals_tail p v 5)
  have HC_VP_41 : Hid ((p.vals v)[41]? = some (.string p.data)) := Lib.hid (vals_tail p v 6)
  have HK1 : Hid (Kp w w.heap.size [(w.heap.size, 35, p.vals v)] (w.alloc (.cells (p.vals v).toArray 35))) := Lib.hid ((Kp.start w).new 35 (p.vals v))
  clear hf
  generalize p.vals v = VP at *
  generalize hw1 : w.alloc (.cells VP.toArray 35) = w1 at *
  go_enter Try.func12, Try.ntmps12
  go_upto_region 1 with (fail)
  clear hw1
  have c36 := HK1.out.hd.at HC_VP_36.out
  go_wp2_with fail
  go_ret
  exact ⟨rfl, HK1.out.2.1⟩
set_option maxRecDepth 100000 in
set_option maxHeartbeats 4000000 in
theorem wants_small (p : Pk6) (v : Value) (w : World) (hf : p.frag = false) (hz : (p.data.size : Int) ≤ 1240) :
    Calls Try.prog 12 #[.agg (p.vals v).toArray] w fun e w' => e = .returned (.bool true) ∧ Below w.heap.size w w' := by
  have HC_VP_0 : Hid ((p.vals v)[0]? = some (.int .i64 p.cls)) := Lib.hid (rfl)
  have HC_VP_2 : Hid ((p.vals v)[2]? = some (.int .i64 p.hop)) := Lib.hid (rfl)
  have HC_VP_35 : Hid ((p.vals v)[35]? = some (v)) := Lib.hid (vals_tail p v 0)
  have HC_VP_36 : Hid ((p.vals v)[36]? = some (.bool false)) := Lib.hid (by rw [← hf]; exact vals_tail p v 1)
  have HC_VP_37 : Hid ((p.vals v)[37]? = some (.int .u32 p.id)) := Lib.hid (vals_tail p v 2)
  have HC_VP_38 : Hid ((p.vals v)[38]? = some (.int .i64 p.pl)) := Lib.hid (vals_tail p v 3)
  have HC_VP_39 : Hid ((p.vals v)[39]? = some (.bool p.more)) := Lib.hid (vals_tail p v 4)
  have HC_VP_40 : Hid ((p.vals v)[40]? = some (.int .i64 p.proto)) := Lib.hid (vals_tail p v 5)
  have HC_VP_41 : Hid ((p.vals v)[41]? = some (.string p.data)) := Lib.hid (vals_tail p v 6)
  have HK1 : Hid (Kp w w.heap.size [(w.heap.size, 35, p.vals v)] (w.alloc (.cells (p.vals v).toArray 35))) := Lib.hid ((Kp.start w).new 35 (p.vals v))
  clear hf
  generalize p.vals v = VP at *
  generalize hw1 : w.alloc (.cells VP.toArray 35) = w1 at *
  go_enter Try.func12, Try.ntmps12
  go_upto_region 1 with (fail)
  clear hw1
  have c36 := HK1.out.hd.at HC_VP_36.out
  have c41 := HK1.out.hd.at HC_VP_41.out
  go_wp2_with fail
  go_ret
  exact ⟨rfl, HK1.out.2.1⟩
set_option maxRecDepth 100000 in
set_option maxHeartbeats 4000000 in
theorem wants_big (p : Pk6) (v : Value) (w : World) (hf : p.frag = false) (hz : ¬ (p.data.size : Int) ≤ 1240) :
    Calls Try.prog 12 #[.agg (p.vals v).toArray] w fun e w' => e = .returned (.bool false) ∧ Below w.heap.size w w' := by
  have HC_VP_0 : Hid ((p.vals v)[0]? = some (.int .i64 p.cls)) := Lib.hid (rfl)
  have HC_VP_2 : Hid ((p.vals v)[2]? = some (.int .i64 p.hop)) := Lib.hid (rfl)
  have HC_VP_35 : Hid ((p.vals v)[35]? = some (v)) := Lib.hid (vals_tail p v 0)
  have HC_VP_36 : Hid ((p.vals v)[36]? = some (.bool false)) := Lib.hid (by rw [← hf]; exact vals_tail p v 1)
  have HC_VP_37 : Hid ((p.vals v)[37]? = some (.int .u32 p.id)) := Lib.hid (vals_tail p v 2)
  have HC_VP_38 : Hid ((p.vals v)[38]? = some (.int .i64 p.pl)) := Lib.hid (vals_tail p v 3)
  have HC_VP_39 : Hid ((p.vals v)[39]? = some (.bool p.more)) := Lib.hid (vals_tail p v 4)
  have HC_VP_40 : Hid ((p.vals v)[40]? = some (.int .i64 p.proto)) := Lib.hid (vals_tail p v 5)
  have HC_VP_41 : Hid ((p.vals v)[41]? = some (.string p.data)) := Lib.hid (vals_tail p v 6)
  have HK1 : Hid (Kp w w.heap.size [(w.heap.size, 35, p.vals v)] (w.alloc (.cells (p.vals v).toArray 35))) := Lib.hid ((Kp.start w).new 35 (p.vals v))
  clear hf
  generalize p.vals v = VP at *
  generalize hw1 : w.alloc (.cells VP.toArray 35) = w1 at *
  go_enter Try.func12, Try.ntmps12
  go_upto_region 1 with (fail)
  clear hw1
  have c36 := HK1.out.hd.at HC_VP_36.out
  have c41 := HK1.out.hd.at HC_VP_41.out
  go_wp2_with fail
  go_ret
  exact ⟨rfl, HK1.out.2.1⟩
set_option maxRecDepth 100000 in
set_option maxHeartbeats 4000000 in
theorem fits_yes (p : Pk6) (v : Value) (w : World) (hd : p.data.size ≤ 70000) (hz : p.pl ≤ 65515 - (p.data.size : Int)) :
    Calls Try.prog 27 #[.agg (p.vals v).toArray] w fun e w' => e = .returned (.bool true) ∧ Below w.heap.size w w' := by
  have HC_VP_0 : Hid ((p.vals v)[0]? = some (.int .i64 p.cls)) := Lib.hid (rfl)
  have HC_VP_2 : Hid ((p.vals v)[2]? = some (.int .i64 p.hop)) := Lib.hid (rfl)
  have HC_VP_35 : Hid ((p.vals v)[35]? = some (v)) := Lib.hid (vals_tail p v 0)
  have HC_VP_36 : Hid ((p.vals v)[36]? = some (.bool p.frag)) := Lib.hid (vals_tail p v 1)
  have HC_VP_37 : Hid ((p.vals v)[37]? = some (.int .u32 p.id)) := Lib.hid (vals_tail p v 2)
  have HC_VP_38 : Hid ((p.vals v)[38]? = some (.int .i64 p.pl)) := Lib.hid (vals_tail p v 3)
  have HC_VP_39 : Hid ((p.vals v)[39]? = some (.bool p.more)) := Lib.hid (vals_tail p v 4)
  have HC_VP_40 : Hid ((p.vals v)[40]? = some (.int .i64 p.proto)) := Lib.hid (vals_tail p v 5)
  have HC_VP_41 : Hid ((p.vals v)[41]? = some (.string p.data)) := Lib.hid (vals_tail p v 6)
  have HK1 : Hid (Kp w w.heap.size [(w.heap.size, 35, p.vals v)] (w.alloc (.cells (p.vals v).toArray 35))) := Lib.hid ((Kp.start w).new 35 (p.vals v))
  generalize p.vals v = VP at *
  generalize hw1 : w.alloc (.cells VP.toArray 35) = w1 at *
  go_enter Try.func27, Try.ntmps27
  go_upto_region 1 with (fail)
  clear hw1
  have c38 := HK1.out.hd.at HC_VP_38.out
  have c41 := HK1.out.hd.at HC_VP_41.out
  have kw : IntKind.i64.wrap (65515 - (p.data.size : Int)) = 65515 - (p.data.size : Int) := IntWalk.i64_in _ (by omega)
  go_wp2_with fail
  go_ret
  exact ⟨rfl, HK1.out.2.1⟩
set_option maxRecDepth 100000 in
set_option maxHeartbeats 4000000 in
theorem fits_no (p : Pk6) (v : Value) (w : World) (hd : p.data.size ≤ 70000) (hz : ¬ p.pl ≤ 65515 - (p.data.size : Int)) :
    Calls Try.prog 27 #[.agg (p.vals v).toArray] w fun e w' => e = .returned (.bool false) ∧ Below w.heap.size w w' := by
  have HC_VP_0 : Hid ((p.vals v)[0]? = some (.int .i64 p.cls)) := Lib.hid (rfl)
  have HC_VP_2 : Hid ((p.vals v)[2]? = some (.int .i64 p.hop)) := Lib.hid (rfl)
  have HC_VP_35 : Hid ((p.vals v)[35]? = some (v)) := Lib.hid (vals_tail p v 0)
  have HC_VP_36 : Hid ((p.vals v)[36]? = some (.bool p.frag)) := Lib.hid (vals_tail p v 1)
  have HC_VP_37 : Hid ((p.vals v)[37]? = some (.int .u32 p.id)) := Lib.hid (vals_tail p v 2)
  have HC_VP_38 : Hid ((p.vals v)[38]? = some (.int .i64 p.pl)) := Lib.hid (vals_tail p v 3)
  have HC_VP_39 : Hid ((p.vals v)[39]? = some (.bool p.more)) := Lib.hid (vals_tail p v 4)
  have HC_VP_40 : Hid ((p.vals v)[40]? = some (.int .i64 p.proto)) := Lib.hid (vals_tail p v 5)
  have HC_VP_41 : Hid ((p.vals v)[41]? = some (.string p.data)) := Lib.hid (vals_tail p v 6)
  have HK1 : Hid (Kp w w.heap.size [(w.heap.size, 35, p.vals v)] (w.alloc (.cells (p.vals v).toArray 35))) := Lib.hid ((Kp.start w).new 35 (p.vals v))
  generalize p.vals v = VP at *
  generalize hw1 : w.alloc (.cells VP.toArray 35) = w1 at *
  go_enter Try.func27, Try.ntmps27
  go_upto_region 1 with (fail)
  clear hw1
  have c38 := HK1.out.hd.at HC_VP_38.out
  have c41 := HK1.out.hd.at HC_VP_41.out
  have kw : IntKind.i64.wrap (65515 - (p.data.size : Int)) = 65515 - (p.data.size : Int) := IntWalk.i64_in _ (by omega)
  go_wp2_with fail
  go_ret
  exact ⟨rfl, HK1.out.2.1⟩
end Go.Proofs.Ytkihhmnlefekoaa
