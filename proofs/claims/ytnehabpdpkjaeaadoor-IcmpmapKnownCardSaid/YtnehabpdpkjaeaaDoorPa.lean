/-
  Proved here: what the program's bounds, pointers and tables of codes answer.
  Conditions: none.
-/
import Derived.Test.YtnehabpdpkjaeaaDoorHm
import Derived.Test.YtnehabpdpkjaeaaDoorRf
namespace Go.Proofs.YtnehabpdpkjaeaaDoor
open Go.RowKit

theorem right_0 (a b : Int) (w : World) (h0 : ¬ 68 ≤ a) : Calls Tryd.prog 19 #[.int .i64 a, .int .i64 b] w fun e w' => e = .returned (.bool false) ∧ w = w' := by
  go_enter Tryd.func19, Tryd.ntmps19
  go_wp2_with fail
  go_ret
  exact ⟨rfl, rfl⟩
theorem right_1 (a b : Int) (w : World) (h0 : 68 ≤ a) (h1 : ¬ a ≤ 65535) : Calls Tryd.prog 19 #[.int .i64 a, .int .i64 b] w fun e w' => e = .returned (.bool false) ∧ w = w' := by
  go_enter Tryd.func19, Tryd.ntmps19
  go_wp2_with fail
  go_ret
  exact ⟨rfl, rfl⟩
theorem right_2 (a b : Int) (w : World) (h0 : 68 ≤ a) (h1 : a ≤ 65535) (h2 : ¬ 1280 ≤ b) : Calls Tryd.prog 19 #[.int .i64 a, .int .i64 b] w fun e w' => e = .returned (.bool false) ∧ w = w' := by
  go_enter Tryd.func19, Tryd.ntmps19
  go_wp2_with fail
  go_ret
  exact ⟨rfl, rfl⟩
theorem right_3 (a b : Int) (w : World) (h0 : 68 ≤ a) (h1 : a ≤ 65535) (h2 : 1280 ≤ b) (h3 : ¬ b ≤ 65575) : Calls Tryd.prog 19 #[.int .i64 a, .int .i64 b] w fun e w' => e = .returned (.bool false) ∧ w = w' := by
  go_enter Tryd.func19, Tryd.ntmps19
  go_wp2_with fail
  go_ret
  exact ⟨rfl, rfl⟩
theorem right_4 (a b : Int) (w : World) (h0 : 68 ≤ a) (h1 : a ≤ 65535) (h2 : 1280 ≤ b) (h3 : b ≤ 65575) : Calls Tryd.prog 19 #[.int .i64 a, .int .i64 b] w fun e w' => e = .returned (.bool true) ∧ w = w' := by
  go_enter Tryd.func19, Tryd.ntmps19
  go_wp2_with fail
  go_ret
  exact ⟨rfl, rfl⟩
theorem right_any (a b : Int) (w : World) : Calls Tryd.prog 19 #[.int .i64 a, .int .i64 b] w fun e w' => e = .returned (.bool (mtus a b)) ∧ w = w' := by
  by_cases h0 : 68 ≤ a
  rotate_left
  · rw [show mtus a b = false by cases hq : mtus a b; rfl; have := mtus_iff.1 hq; omega]
    exact right_0 a b w h0
  by_cases h1 : a ≤ 65535
  rotate_left
  · rw [show mtus a b = false by cases hq : mtus a b; rfl; have := mtus_iff.1 hq; omega]
    exact right_1 a b w h0 h1
  by_cases h2 : 1280 ≤ b
  rotate_left
  · rw [show mtus a b = false by cases hq : mtus a b; rfl; have := mtus_iff.1 hq; omega]
    exact right_2 a b w h0 h1 h2
  by_cases h3 : b ≤ 65575
  rotate_left
  · rw [show mtus a b = false by cases hq : mtus a b; rfl; have := mtus_iff.1 hq; omega]
    exact right_3 a b w h0 h1 h2 h3
  rw [mtus_iff.2 ⟨h0, h1, h2, h3⟩]
  exact right_4 a b w h0 h1 h2 h3
/-- What a pointer becomes, or nought and false. -/
def pp (x : Int) : Int × Bool := if x < 0 then (0, false) else (x, true)
theorem pt6_le (r : Int) (w : World) (h0 : 0 ≤ r) (h : r ≤ 1) : Calls Tryd.prog 27 #[.int .u32 r] w fun e w' => e = .returned (.tuple #[.int .u32 (pp (ptr6 r)).1, .bool (pp (ptr6 r)).2]) ∧ w = w' := by
  have HS : Hid (pp (ptr6 r) = (r, true)) := Lib.hid (by rw [show ptr6 r = r by unfold ptr6; omega]; unfold pp; rw [if_neg (by omega)])
  go_enter Tryd.func27, Tryd.ntmps27
  go_wp2_with fail
  go_ret2
  exact ⟨by rw [HS.out]; rfl, rfl⟩
theorem pt6_l2 (r : Int) (w : World) (h : r = 2) : Calls Tryd.prog 27 #[.int .u32 r] w fun e w' => e = .returned (.tuple #[.int .u32 (pp (ptr6 r)).1, .bool (pp (ptr6 r)).2]) ∧ w = w' := by
  have HS : Hid (pp (ptr6 r) = (4, true)) := Lib.hid (by rw [show ptr6 r = 4 by unfold ptr6; omega]; unfold pp; rw [if_neg (by omega)])
  subst h
  go_enter Tryd.func27, Tryd.ntmps27
  go_wp2_with fail
  go_ret2
  exact ⟨by rw [HS.out]; rfl, rfl⟩
theorem pt6_l3 (r : Int) (w : World) (h : r = 3) : Calls Tryd.prog 27 #[.int .u32 r] w fun e w' => e = .returned (.tuple #[.int .u32 (pp (ptr6 r)).1, .bool (pp (ptr6 r)).2]) ∧ w = w' := by
  have HS : Hid (pp (ptr6 r) = (4, true)) := Lib.hid (by rw [show ptr6 r = 4 by unfold ptr6; omega]; unfold pp; rw [if_neg (by omega)])
  subst h
  go_enter Tryd.func27, Tryd.ntmps27
  go_wp2_with fail
  go_ret2
  exact ⟨by rw [HS.out]; rfl, rfl⟩
theorem pt6_l8 (r : Int) (w : World) (h : r = 8) : Calls Tryd.prog 27 #[.int .u32 r] w fun e w' => e = .returned (.tuple #[.int .u32 (pp (ptr6 r)).1, .bool (pp (ptr6 r)).2]) ∧ w = w' := by
  have HS : Hid (pp (ptr6 r) = (7, true)) := Lib.hid (by rw [show ptr6 r = 7 by unfold ptr6; omega]; unfold pp; rw [if_neg (by omega)])
  subst h
  go_enter Tryd.func27, Tryd.ntmps27
  go_wp2_with fail
  go_ret2
  exact ⟨by rw [HS.out]; rfl, rfl⟩
theorem pt6_l9 (r : Int) (w : World) (h : r = 9) : Calls Tryd.prog 27 #[.int .u32 r] w fun e w' => e = .returned (.tuple #[.int .u32 (pp (ptr6 r)).1, .bool (pp (ptr6 r)).2]) ∧ w = w' := by
  have HS : Hid (pp (ptr6 r) = (6, true)) := Lib.hid (by rw [show ptr6 r = 6 by unfold ptr6; omega]; unfold pp; rw [if_neg (by omega)])
  subst h
  go_enter Tryd.func27, Tryd.ntmps27
  go_wp2_with fail
  go_ret2
  exact ⟨by rw [HS.out]; rfl, rfl⟩
theorem pt6_r12 (r : Int) (w : World) (h1 : 12 ≤ r) (h2 : r ≤ 15) : Calls Tryd.prog 27 #[.int .u32 r] w fun e w' => e = .returned (.tuple #[.int .u32 (pp (ptr6 r)).1, .bool (pp (ptr6 r)).2]) ∧ w = w' := by
  have HS : Hid (pp (ptr6 r) = (8, true)) := Lib.hid (by rw [show ptr6 r = 8 by unfold ptr6; omega]; unfold pp; rw [if_neg (by omega)])
  have k1 : ¬ r ≤ 1 := by omega
  have e2 : (r == 2) = false := by rw [beq_eq_false_iff_ne]; omega
  have e3 : (r == 3) = false := by rw [beq_eq_false_iff_ne]; omega
  have e8 : (r == 8) = false := by rw [beq_eq_false_iff_ne]; omega
  have e9 : (r == 9) = false := by rw [beq_eq_false_iff_ne]; omega
  go_enter Tryd.func27, Tryd.ntmps27
  go_wp2_with fail
  go_ret2
  exact ⟨by rw [HS.out]; rfl, rfl⟩
theorem pt6_r16 (r : Int) (w : World) (h1 : 16 ≤ r) (h2 : r ≤ 19) : Calls Tryd.prog 27 #[.int .u32 r] w fun e w' => e = .returned (.tuple #[.int .u32 (pp (ptr6 r)).1, .bool (pp (ptr6 r)).2]) ∧ w = w' := by
  have HS : Hid (pp (ptr6 r) = (24, true)) := Lib.hid (by rw [show ptr6 r = 24 by unfold ptr6; omega]; unfold pp; rw [if_neg (by omega)])
  have k1 : ¬ r ≤ 1 := by omega
  have e2 : (r == 2) = false := by rw [beq_eq_false_iff_ne]; omega
  have e3 : (r == 3) = false := by rw [beq_eq_false_iff_ne]; omega
  have e8 : (r == 8) = false := by rw [beq_eq_false_iff_ne]; omega
  have e9 : (r == 9) = false := by rw [beq_eq_false_iff_ne]; omega
  have m12 : 12 ≤ r := by omega
  have n15 : ¬ r ≤ 15 := by omega
  go_enter Tryd.func27, Tryd.ntmps27
  go_wp2_with fail
  go_ret2
  exact ⟨by rw [HS.out]; rfl, rfl⟩
theorem pt6_far (r : Int) (w : World) (h : 19 < r) : Calls Tryd.prog 27 #[.int .u32 r] w fun e w' => e = .returned (.tuple #[.int .u32 (pp (ptr6 r)).1, .bool (pp (ptr6 r)).2]) ∧ w = w' := by
  have HS : Hid (pp (ptr6 r) = (0, false)) := Lib.hid (by rw [show ptr6 r = -1 by unfold ptr6; omega]; unfold pp; rw [if_pos (by omega)])
  have k1 : ¬ r ≤ 1 := by omega
  have e2 : (r == 2) = false := by rw [beq_eq_false_iff_ne]; omega
  have e3 : (r == 3) = false := by rw [beq_eq_false_iff_ne]; omega
  have e8 : (r == 8) = false := by rw [beq_eq_false_iff_ne]; omega
  have e9 : (r == 9) = false := by rw [beq_eq_false_iff_ne]; omega
  have m12 : 12 ≤ r := by omega
  have n15 : ¬ r ≤ 15 := by omega
  have m16 : 16 ≤ r := by omega
  have n19 : ¬ r ≤ 19 := by omega
  go_enter Tryd.func27, Tryd.ntmps27
  go_wp2_with fail
  go_ret2
  exact ⟨by rw [HS.out]; rfl, rfl⟩
theorem pt6_no (r : Int) (w : World) (h : r = 4 ∨ r = 5 ∨ r = 6 ∨ r = 7 ∨ r = 10 ∨ r = 11) : Calls Tryd.prog 27 #[.int .u32 r] w fun e w' => e = .returned (.tuple #[.int .u32 (pp (ptr6 r)).1, .bool (pp (ptr6 r)).2]) ∧ w = w' := by
  have HS : Hid (pp (ptr6 r) = (0, false)) := Lib.hid (by rw [show ptr6 r = -1 by unfold ptr6; omega]; unfold pp; rw [if_pos (by omega)])
  have k1 : ¬ r ≤ 1 := by omega
  have e2 : (r == 2) = false := by rw [beq_eq_false_iff_ne]; omega
  have e3 : (r == 3) = false := by rw [beq_eq_false_iff_ne]; omega
  have e8 : (r == 8) = false := by rw [beq_eq_false_iff_ne]; omega
  have e9 : (r == 9) = false := by rw [beq_eq_false_iff_ne]; omega
  have m12 : ¬ 12 ≤ r := by omega
  have m16 : ¬ 16 ≤ r := by omega
  go_enter Tryd.func27, Tryd.ntmps27
  go_wp2_with fail
  go_ret2
  exact ⟨by rw [HS.out]; rfl, rfl⟩
theorem pt6_any (r : Int) (w : World) (h0 : 0 ≤ r) : Calls Tryd.prog 27 #[.int .u32 r] w fun e w' => e = .returned (.tuple #[.int .u32 (pp (ptr6 r)).1, .bool (pp (ptr6 r)).2]) ∧ w = w' := by
  by_cases q1 : r ≤ 1
  · exact pt6_le r w h0 q1
  by_cases l2 : r = 2
  · exact pt6_l2 r w l2
  by_cases l3 : r = 3
  · exact pt6_l3 r w l3
  by_cases l8 : r = 8
  · exact pt6_l8 r w l8
  by_cases l9 : r = 9
  · exact pt6_l9 r w l9
  by_cases g : r = 4 ∨ r = 5 ∨ r = 6 ∨ r = 7 ∨ r = 10 ∨ r = 11
  · exact pt6_no r w g
  by_cases u12 : r ≤ 15
  · exact pt6_r12 r w (by omega) u12
  by_cases u16 : r ≤ 19
  · exact pt6_r16 r w (by omega) u16
  exact pt6_far r w (by omega)
theorem pt4_le (r : Int) (w : World) (h0 : 0 ≤ r) (h : r ≤ 1) : Calls Tryd.prog 30 #[.int .u32 r] w fun e w' => e = .returned (.tuple #[.int .u32 (pp (ptr4 r)).1, .bool (pp (ptr4 r)).2]) ∧ w = w' := by
  have HS : Hid (pp (ptr4 r) = (r, true)) := Lib.hid (by rw [show ptr4 r = r by unfold ptr4; omega]; unfold pp; rw [if_neg (by omega)])
  go_enter Tryd.func30, Tryd.ntmps30
  go_wp2_with fail
  go_ret2
  exact ⟨by rw [HS.out]; rfl, rfl⟩
theorem pt4_l4 (r : Int) (w : World) (h : r = 4) : Calls Tryd.prog 30 #[.int .u32 r] w fun e w' => e = .returned (.tuple #[.int .u32 (pp (ptr4 r)).1, .bool (pp (ptr4 r)).2]) ∧ w = w' := by
  have HS : Hid (pp (ptr4 r) = (2, true)) := Lib.hid (by rw [show ptr4 r = 2 by unfold ptr4; omega]; unfold pp; rw [if_neg (by omega)])
  subst h
  go_enter Tryd.func30, Tryd.ntmps30
  go_wp2_with fail
  go_ret2
  exact ⟨by rw [HS.out]; rfl, rfl⟩
theorem pt4_l5 (r : Int) (w : World) (h : r = 5) : Calls Tryd.prog 30 #[.int .u32 r] w fun e w' => e = .returned (.tuple #[.int .u32 (pp (ptr4 r)).1, .bool (pp (ptr4 r)).2]) ∧ w = w' := by
  have HS : Hid (pp (ptr4 r) = (2, true)) := Lib.hid (by rw [show ptr4 r = 2 by unfold ptr4; omega]; unfold pp; rw [if_neg (by omega)])
  subst h
  go_enter Tryd.func30, Tryd.ntmps30
  go_wp2_with fail
  go_ret2
  exact ⟨by rw [HS.out]; rfl, rfl⟩
theorem pt4_l6 (r : Int) (w : World) (h : r = 6) : Calls Tryd.prog 30 #[.int .u32 r] w fun e w' => e = .returned (.tuple #[.int .u32 (pp (ptr4 r)).1, .bool (pp (ptr4 r)).2]) ∧ w = w' := by
  have HS : Hid (pp (ptr4 r) = (9, true)) := Lib.hid (by rw [show ptr4 r = 9 by unfold ptr4; omega]; unfold pp; rw [if_neg (by omega)])
  subst h
  go_enter Tryd.func30, Tryd.ntmps30
  go_wp2_with fail
  go_ret2
  exact ⟨by rw [HS.out]; rfl, rfl⟩
theorem pt4_l7 (r : Int) (w : World) (h : r = 7) : Calls Tryd.prog 30 #[.int .u32 r] w fun e w' => e = .returned (.tuple #[.int .u32 (pp (ptr4 r)).1, .bool (pp (ptr4 r)).2]) ∧ w = w' := by
  have HS : Hid (pp (ptr4 r) = (8, true)) := Lib.hid (by rw [show ptr4 r = 8 by unfold ptr4; omega]; unfold pp; rw [if_neg (by omega)])
  subst h
  go_enter Tryd.func30, Tryd.ntmps30
  go_wp2_with fail
  go_ret2
  exact ⟨by rw [HS.out]; rfl, rfl⟩
theorem pt4_r8 (r : Int) (w : World) (h1 : 8 ≤ r) (h2 : r ≤ 23) : Calls Tryd.prog 30 #[.int .u32 r] w fun e w' => e = .returned (.tuple #[.int .u32 (pp (ptr4 r)).1, .bool (pp (ptr4 r)).2]) ∧ w = w' := by
  have HS : Hid (pp (ptr4 r) = (12, true)) := Lib.hid (by rw [show ptr4 r = 12 by unfold ptr4; omega]; unfold pp; rw [if_neg (by omega)])
  have k1 : ¬ r ≤ 1 := by omega
  have e4 : (r == 4) = false := by rw [beq_eq_false_iff_ne]; omega
  have e5 : (r == 5) = false := by rw [beq_eq_false_iff_ne]; omega
  have e6 : (r == 6) = false := by rw [beq_eq_false_iff_ne]; omega
  have e7 : (r == 7) = false := by rw [beq_eq_false_iff_ne]; omega
  go_enter Tryd.func30, Tryd.ntmps30
  go_wp2_with fail
  go_ret2
  exact ⟨by rw [HS.out]; rfl, rfl⟩
theorem pt4_r24 (r : Int) (w : World) (h1 : 24 ≤ r) (h2 : r ≤ 39) : Calls Tryd.prog 30 #[.int .u32 r] w fun e w' => e = .returned (.tuple #[.int .u32 (pp (ptr4 r)).1, .bool (pp (ptr4 r)).2]) ∧ w = w' := by
  have HS : Hid (pp (ptr4 r) = (16, true)) := Lib.hid (by rw [show ptr4 r = 16 by unfold ptr4; omega]; unfold pp; rw [if_neg (by omega)])
  have k1 : ¬ r ≤ 1 := by omega
  have e4 : (r == 4) = false := by rw [beq_eq_false_iff_ne]; omega
  have e5 : (r == 5) = false := by rw [beq_eq_false_iff_ne]; omega
  have e6 : (r == 6) = false := by rw [beq_eq_false_iff_ne]; omega
  have e7 : (r == 7) = false := by rw [beq_eq_false_iff_ne]; omega
  have m8 : 8 ≤ r := by omega
  have n23 : ¬ r ≤ 23 := by omega
  go_enter Tryd.func30, Tryd.ntmps30
  go_wp2_with fail
  go_ret2
  exact ⟨by rw [HS.out]; rfl, rfl⟩
theorem pt4_far (r : Int) (w : World) (h : 39 < r) : Calls Tryd.prog 30 #[.int .u32 r] w fun e w' => e = .returned (.tuple #[.int .u32 (pp (ptr4 r)).1, .bool (pp (ptr4 r)).2]) ∧ w = w' := by
  have HS : Hid (pp (ptr4 r) = (0, false)) := Lib.hid (by rw [show ptr4 r = -1 by unfold ptr4; omega]; unfold pp; rw [if_pos (by omega)])
  have k1 : ¬ r ≤ 1 := by omega
  have e4 : (r == 4) = false := by rw [beq_eq_false_iff_ne]; omega
  have e5 : (r == 5) = false := by rw [beq_eq_false_iff_ne]; omega
  have e6 : (r == 6) = false := by rw [beq_eq_false_iff_ne]; omega
  have e7 : (r == 7) = false := by rw [beq_eq_false_iff_ne]; omega
  have m8 : 8 ≤ r := by omega
  have n23 : ¬ r ≤ 23 := by omega
  have m24 : 24 ≤ r := by omega
  have n39 : ¬ r ≤ 39 := by omega
  go_enter Tryd.func30, Tryd.ntmps30
  go_wp2_with fail
  go_ret2
  exact ⟨by rw [HS.out]; rfl, rfl⟩
theorem pt4_no (r : Int) (w : World) (h : r = 2 ∨ r = 3) : Calls Tryd.prog 30 #[.int .u32 r] w fun e w' => e = .returned (.tuple #[.int .u32 (pp (ptr4 r)).1, .bool (pp (ptr4 r)).2]) ∧ w = w' := by
  have HS : Hid (pp (ptr4 r) = (0, false)) := Lib.hid (by rw [show ptr4 r = -1 by unfold ptr4; omega]; unfold pp; rw [if_pos (by omega)])
  have k1 : ¬ r ≤ 1 := by omega
  have e4 : (r == 4) = false := by rw [beq_eq_false_iff_ne]; omega
  have e5 : (r == 5) = false := by rw [beq_eq_false_iff_ne]; omega
  have e6 : (r == 6) = false := by rw [beq_eq_false_iff_ne]; omega
  have e7 : (r == 7) = false := by rw [beq_eq_false_iff_ne]; omega
  have m8 : ¬ 8 ≤ r := by omega
  have m24 : ¬ 24 ≤ r := by omega
  go_enter Tryd.func30, Tryd.ntmps30
  go_wp2_with fail
  go_ret2
  exact ⟨by rw [HS.out]; rfl, rfl⟩
theorem pt4_any (r : Int) (w : World) (h0 : 0 ≤ r) : Calls Tryd.prog 30 #[.int .u32 r] w fun e w' => e = .returned (.tuple #[.int .u32 (pp (ptr4 r)).1, .bool (pp (ptr4 r)).2]) ∧ w = w' := by
  by_cases q1 : r ≤ 1
  · exact pt4_le r w h0 q1
  by_cases l4 : r = 4
  · exact pt4_l4 r w l4
  by_cases l5 : r = 5
  · exact pt4_l5 r w l5
  by_cases l6 : r = 6
  · exact pt4_l6 r w l6
  by_cases l7 : r = 7
  · exact pt4_l7 r w l7
  by_cases g : r = 2 ∨ r = 3
  · exact pt4_no r w g
  by_cases u8 : r ≤ 23
  · exact pt4_r8 r w (by omega) u8
  by_cases u24 : r ≤ 39
  · exact pt4_r24 r w (by omega) u24
  exact pt4_far r w (by omega)
def unr6 (c : Int) : Mg × Bool := if c = 0 then (⟨1, 0, 0, ⟨#[]⟩⟩, true) else if c = 1 then (⟨1, 0, 0, ⟨#[]⟩⟩, true) else if c = 5 then (⟨1, 0, 0, ⟨#[]⟩⟩, true) else if c = 6 then (⟨1, 0, 0, ⟨#[]⟩⟩, true) else if c = 7 then (⟨1, 0, 0, ⟨#[]⟩⟩, true) else if c = 8 then (⟨1, 0, 0, ⟨#[]⟩⟩, true) else if c = 11 then (⟨1, 0, 0, ⟨#[]⟩⟩, true) else if c = 12 then (⟨1, 0, 0, ⟨#[]⟩⟩, true) else if c = 9 then (⟨1, 1, 0, ⟨#[]⟩⟩, true) else if c = 10 then (⟨1, 1, 0, ⟨#[]⟩⟩, true) else if c = 13 then (⟨1, 1, 0, ⟨#[]⟩⟩, true) else if c = 15 then (⟨1, 1, 0, ⟨#[]⟩⟩, true) else if c = 3 then (⟨1, 4, 0, ⟨#[]⟩⟩, true) else if c = 2 then (⟨4, 1, 6, ⟨#[]⟩⟩, true) else if c = 4 then (⟨2, 0, 0, ⟨#[]⟩⟩, true) else (mg0, false)
set_option maxRecDepth 100000 in
set_option maxHeartbeats 4000000 in
theorem un6_c0 (c : Int) (w : World) (h : c = 0) : Calls Tryd.prog 26 #[.int .i64 c] w fun e w' => e = .returned (.tuple #[.agg (unr6 c).1.vals.toArray, .bool (unr6 c).2]) ∧ Below w.heap.size w w' := by
  have HS : Hid (unr6 c = (⟨1, 0, 0, ⟨#[]⟩⟩, true)) := Lib.hid (by rw [h]; rfl)
  subst h
  obtain ⟨V0, hV0⟩ : ∃ V, V = mg0.vals := ⟨_, rfl⟩
  have HL_V0 : Hid (V0.length = 4) := Lib.hid (by rw [hV0]; rfl)
  have hz0 : V0.toArray = #[.int .i64 0, .int .i64 0, .int .u32 0, .string ⟨#[]⟩] := by rw [hV0]; rfl
  have HK1 : Hid (Kp w w.heap.size [(w.heap.size, 24, V0)] (w.alloc (.cells V0.toArray 24))) := Lib.hid ((Kp.start w).new 24 V0)
  clear hV0
  generalize hw1 : w.alloc (.cells V0.toArray 24) = w1 at *
  rw [hz0] at hw1
  go_enter Tryd.func26, Tryd.ntmps26
  go_upto_region 1 with (fail)
  clear hw1 hz0
  have hkc := HK1.out.hd
  have htf := hkc.there 4 (by have := HL_V0.out; simp; omega)
  have HIN : Hid ((Tryd.prog.info? 24).map (·.size) = some ([.int .i64 1, .int .i64 0, .int .u32 0, .string ⟨#[]⟩] : List Value).length) := Lib.hid (Tryd.infoMg (⟨1, 0, 0, ⟨#[]⟩⟩ : Mg))
  go_wp2_with (((with_reducible (change wpList _ _ _ _ _ _)); ((refine wpList_store_mid rfl 24 _ _ rfl (w.heap.size) 0 ([.int .i64 1, .int .i64 0, .int .u32 0, .string ⟨#[]⟩] : List Value).toArray rfl rfl htf (by simpa using HIN.out) (by simp [Value.oneCell']) ?_))))
  have hk5 := Bk.sets [.int .i64 1, .int .i64 0, .int .u32 0, .string ⟨#[]⟩] 0 _ _ hkc
  rw [puts_whole V0.toArray [.int .i64 1, .int .i64 0, .int .u32 0, .string ⟨#[]⟩] (by have := HL_V0.out; simp; omega)] at hk5
  refine bodyPost_ret (v := .tuple #[.agg ([.int .i64 1, .int .i64 0, .int .u32 0, .string ⟨#[]⟩] : List Value).toArray, .bool true]) ?_ rfl ?_
  · exact results_cell2 rfl rfl rfl (run_loadVar_mid _ (w.heap.size) 0 24 [.int .i64 1, .int .i64 0, .int .u32 0, .string ⟨#[]⟩] _ hk5.range Tryd.underlying24 rfl HIN.out)
  · rw [HS.out]
    exact ⟨rfl, below_sets _ (by omega) 0 _ HK1.out.2.1⟩
set_option maxRecDepth 100000 in
set_option maxHeartbeats 4000000 in
theorem un6_c1 (c : Int) (w : World) (h : c = 1) : Calls Tryd.prog 26 #[.int .i64 c] w fun e w' => e = .returned (.tuple #[.agg (unr6 c).1.vals.toArray, .bool (unr6 c).2]) ∧ Below w.heap.size w w' := by
  have HS : Hid (unr6 c = (⟨1, 0, 0, ⟨#[]⟩⟩, true)) := Lib.hid (by rw [h]; rfl)
  subst h
  obtain ⟨V0, hV0⟩ : ∃ V, V = mg0.vals := ⟨_, rfl⟩
  have HL_V0 : Hid (V0.length = 4) := Lib.hid (by rw [hV0]; rfl)
  have hz0 : V0.toArray = #[.int .i64 0, .int .i64 0, .int .u32 0, .string ⟨#[]⟩] := by rw [hV0]; rfl
  have HK1 : Hid (Kp w w.heap.size [(w.heap.size, 24, V0)] (w.alloc (.cells V0.toArray 24))) := Lib.hid ((Kp.start w).new 24 V0)
  clear hV0
  generalize hw1 : w.alloc (.cells V0.toArray 24) = w1 at *
  rw [hz0] at hw1
  go_enter Tryd.func26, Tryd.ntmps26
  go_upto_region 1 with (fail)
  clear hw1 hz0
  have hkc := HK1.out.hd
  have htf := hkc.there 4 (by have := HL_V0.out; simp; omega)
  have HIN : Hid ((Tryd.prog.info? 24).map (·.size) = some ([.int .i64 1, .int .i64 0, .int .u32 0, .string ⟨#[]⟩] : List Value).length) := Lib.hid (Tryd.infoMg (⟨1, 0, 0, ⟨#[]⟩⟩ : Mg))
  go_wp2_with (((with_reducible (change wpList _ _ _ _ _ _)); ((refine wpList_store_mid rfl 24 _ _ rfl (w.heap.size) 0 ([.int .i64 1, .int .i64 0, .int .u32 0, .string ⟨#[]⟩] : List Value).toArray rfl rfl htf (by simpa using HIN.out) (by simp [Value.oneCell']) ?_))))
  have hk5 := Bk.sets [.int .i64 1, .int .i64 0, .int .u32 0, .string ⟨#[]⟩] 0 _ _ hkc
  rw [puts_whole V0.toArray [.int .i64 1, .int .i64 0, .int .u32 0, .string ⟨#[]⟩] (by have := HL_V0.out; simp; omega)] at hk5
  refine bodyPost_ret (v := .tuple #[.agg ([.int .i64 1, .int .i64 0, .int .u32 0, .string ⟨#[]⟩] : List Value).toArray, .bool true]) ?_ rfl ?_
  · exact results_cell2 rfl rfl rfl (run_loadVar_mid _ (w.heap.size) 0 24 [.int .i64 1, .int .i64 0, .int .u32 0, .string ⟨#[]⟩] _ hk5.range Tryd.underlying24 rfl HIN.out)
  · rw [HS.out]
    exact ⟨rfl, below_sets _ (by omega) 0 _ HK1.out.2.1⟩
set_option maxRecDepth 100000 in
set_option maxHeartbeats 4000000 in
theorem un6_c5 (c : Int) (w : World) (h : c = 5) : Calls Tryd.prog 26 #[.int .i64 c] w fun e w' => e = .returned (.tuple #[.agg (unr6 c).1.vals.toArray, .bool (unr6 c).2]) ∧ Below w.heap.size w w' := by
  have HS : Hid (unr6 c = (⟨1, 0, 0, ⟨#[]⟩⟩, true)) := Lib.hid (by rw [h]; rfl)
  subst h
  obtain ⟨V0, hV0⟩ : ∃ V, V = mg0.vals := ⟨_, rfl⟩
  have HL_V0 : Hid (V0.length = 4) := Lib.hid (by rw [hV0]; rfl)
  have hz0 : V0.toArray = #[.int .i64 0, .int .i64 0, .int .u32 0, .string ⟨#[]⟩] := by rw [hV0]; rfl
  have HK1 : Hid (Kp w w.heap.size [(w.heap.size, 24, V0)] (w.alloc (.cells V0.toArray 24))) := Lib.hid ((Kp.start w).new 24 V0)
  clear hV0
  generalize hw1 : w.alloc (.cells V0.toArray 24) = w1 at *
  rw [hz0] at hw1
  go_enter Tryd.func26, Tryd.ntmps26
  go_upto_region 1 with (fail)
  clear hw1 hz0
  have hkc := HK1.out.hd
  have htf := hkc.there 4 (by have := HL_V0.out; simp; omega)
  have HIN : Hid ((Tryd.prog.info? 24).map (·.size) = some ([.int .i64 1, .int .i64 0, .int .u32 0, .string ⟨#[]⟩] : List Value).length) := Lib.hid (Tryd.infoMg (⟨1, 0, 0, ⟨#[]⟩⟩ : Mg))
  go_wp2_with (((with_reducible (change wpList _ _ _ _ _ _)); ((refine wpList_store_mid rfl 24 _ _ rfl (w.heap.size) 0 ([.int .i64 1, .int .i64 0, .int .u32 0, .string ⟨#[]⟩] : List Value).toArray rfl rfl htf (by simpa using HIN.out) (by simp [Value.oneCell']) ?_))))
  have hk5 := Bk.sets [.int .i64 1, .int .i64 0, .int .u32 0, .string ⟨#[]⟩] 0 _ _ hkc
  rw [puts_whole V0.toArray [.int .i64 1, .int .i64 0, .int .u32 0, .string ⟨#[]⟩] (by have := HL_V0.out; simp; omega)] at hk5
  refine bodyPost_ret (v := .tuple #[.agg ([.int .i64 1, .int .i64 0, .int .u32 0, .string ⟨#[]⟩] : List Value).toArray, .bool true]) ?_ rfl ?_
  · exact results_cell2 rfl rfl rfl (run_loadVar_mid _ (w.heap.size) 0 24 [.int .i64 1, .int .i64 0, .int .u32 0, .string ⟨#[]⟩] _ hk5.range Tryd.underlying24 rfl HIN.out)
  · rw [HS.out]
    exact ⟨rfl, below_sets _ (by omega) 0 _ HK1.out.2.1⟩
set_option maxRecDepth 100000 in
set_option maxHeartbeats 4000000 in
theorem un6_c6 (c : Int) (w : World) (h : c = 6) : Calls Tryd.prog 26 #[.int .i64 c] w fun e w' => e = .returned (.tuple #[.agg (unr6 c).1.vals.toArray, .bool (unr6 c).2]) ∧ Below w.heap.size w w' := by
  have HS : Hid (unr6 c = (⟨1, 0, 0, ⟨#[]⟩⟩, true)) := Lib.hid (by rw [h]; rfl)
  subst h
  obtain ⟨V0, hV0⟩ : ∃ V, V = mg0.vals := ⟨_, rfl⟩
  have HL_V0 : Hid (V0.length = 4) := Lib.hid (by rw [hV0]; rfl)
  have hz0 : V0.toArray = #[.int .i64 0, .int .i64 0, .int .u32 0, .string ⟨#[]⟩] := by rw [hV0]; rfl
  have HK1 : Hid (Kp w w.heap.size [(w.heap.size, 24, V0)] (w.alloc (.cells V0.toArray 24))) := Lib.hid ((Kp.start w).new 24 V0)
  clear hV0
  generalize hw1 : w.alloc (.cells V0.toArray 24) = w1 at *
  rw [hz0] at hw1
  go_enter Tryd.func26, Tryd.ntmps26
  go_upto_region 1 with (fail)
  clear hw1 hz0
  have hkc := HK1.out.hd
  have htf := hkc.there 4 (by have := HL_V0.out; simp; omega)
  have HIN : Hid ((Tryd.prog.info? 24).map (·.size) = some ([.int .i64 1, .int .i64 0, .int .u32 0, .string ⟨#[]⟩] : List Value).length) := Lib.hid (Tryd.infoMg (⟨1, 0, 0, ⟨#[]⟩⟩ : Mg))
  go_wp2_with (((with_reducible (change wpList _ _ _ _ _ _)); ((refine wpList_store_mid rfl 24 _ _ rfl (w.heap.size) 0 ([.int .i64 1, .int .i64 0, .int .u32 0, .string ⟨#[]⟩] : List Value).toArray rfl rfl htf (by simpa using HIN.out) (by simp [Value.oneCell']) ?_))))
  have hk5 := Bk.sets [.int .i64 1, .int .i64 0, .int .u32 0, .string ⟨#[]⟩] 0 _ _ hkc
  rw [puts_whole V0.toArray [.int .i64 1, .int .i64 0, .int .u32 0, .string ⟨#[]⟩] (by have := HL_V0.out; simp; omega)] at hk5
  refine bodyPost_ret (v := .tuple #[.agg ([.int .i64 1, .int .i64 0, .int .u32 0, .string ⟨#[]⟩] : List Value).toArray, .bool true]) ?_ rfl ?_
  · exact results_cell2 rfl rfl rfl (run_loadVar_mid _ (w.heap.size) 0 24 [.int .i64 1, .int .i64 0, .int .u32 0, .string ⟨#[]⟩] _ hk5.range Tryd.underlying24 rfl HIN.out)
  · rw [HS.out]
    exact ⟨rfl, below_sets _ (by omega) 0 _ HK1.out.2.1⟩
set_option maxRecDepth 100000 in
set_option maxHeartbeats 4000000 in
theorem un6_c7 (c : Int) (w : World) (h : c = 7) : Calls Tryd.prog 26 #[.int .i64 c] w fun e w' => e = .returned (.tuple #[.agg (unr6 c).1.vals.toArray, .bool (unr6 c).2]) ∧ Below w.heap.size w w' := by
  have HS : Hid (unr6 c = (⟨1, 0, 0, ⟨#[]⟩⟩, true)) := Lib.hid (by rw [h]; rfl)
  subst h
  obtain ⟨V0, hV0⟩ : ∃ V, V = mg0.vals := ⟨_, rfl⟩
  have HL_V0 : Hid (V0.length = 4) := Lib.hid (by rw [hV0]; rfl)
  have hz0 : V0.toArray = #[.int .i64 0, .int .i64 0, .int .u32 0, .string ⟨#[]⟩] := by rw [hV0]; rfl
  have HK1 : Hid (Kp w w.heap.size [(w.heap.size, 24, V0)] (w.alloc (.cells V0.toArray 24))) := Lib.hid ((Kp.start w).new 24 V0)
  clear hV0
  generalize hw1 : w.alloc (.cells V0.toArray 24) = w1 at *
  rw [hz0] at hw1
  go_enter Tryd.func26, Tryd.ntmps26
  go_upto_region 1 with (fail)
  clear hw1 hz0
  have hkc := HK1.out.hd
  have htf := hkc.there 4 (by have := HL_V0.out; simp; omega)
  have HIN : Hid ((Tryd.prog.info? 24).map (·.size) = some ([.int .i64 1, .int .i64 0, .int .u32 0, .string ⟨#[]⟩] : List Value).length) := Lib.hid (Tryd.infoMg (⟨1, 0, 0, ⟨#[]⟩⟩ : Mg))
  go_wp2_with (((with_reducible (change wpList _ _ _ _ _ _)); ((refine wpList_store_mid rfl 24 _ _ rfl (w.heap.size) 0 ([.int .i64 1, .int .i64 0, .int .u32 0, .string ⟨#[]⟩] : List Value).toArray rfl rfl htf (by simpa using HIN.out) (by simp [Value.oneCell']) ?_))))
  have hk5 := Bk.sets [.int .i64 1, .int .i64 0, .int .u32 0, .string ⟨#[]⟩] 0 _ _ hkc
  rw [puts_whole V0.toArray [.int .i64 1, .int .i64 0, .int .u32 0, .string ⟨#[]⟩] (by have := HL_V0.out; simp; omega)] at hk5
  refine bodyPost_ret (v := .tuple #[.agg ([.int .i64 1, .int .i64 0, .int .u32 0, .string ⟨#[]⟩] : List Value).toArray, .bool true]) ?_ rfl ?_
  · exact results_cell2 rfl rfl rfl (run_loadVar_mid _ (w.heap.size) 0 24 [.int .i64 1, .int .i64 0, .int .u32 0, .string ⟨#[]⟩] _ hk5.range Tryd.underlying24 rfl HIN.out)
  · rw [HS.out]
    exact ⟨rfl, below_sets _ (by omega) 0 _ HK1.out.2.1⟩
set_option maxRecDepth 100000 in
set_option maxHeartbeats 4000000 in
theorem un6_c8 (c : Int) (w : World) (h : c = 8) : Calls Tryd.prog 26 #[.int .i64 c] w fun e w' => e = .returned (.tuple #[.agg (unr6 c).1.vals.toArray, .bool (unr6 c).2]) ∧ Below w.heap.size w w' := by
  have HS : Hid (unr6 c = (⟨1, 0, 0, ⟨#[]⟩⟩, true)) := Lib.hid (by rw [h]; rfl)
  subst h
  obtain ⟨V0, hV0⟩ : ∃ V, V = mg0.vals := ⟨_, rfl⟩
  have HL_V0 : Hid (V0.length = 4) := Lib.hid (by rw [hV0]; rfl)
  have hz0 : V0.toArray = #[.int .i64 0, .int .i64 0, .int .u32 0, .string ⟨#[]⟩] := by rw [hV0]; rfl
  have HK1 : Hid (Kp w w.heap.size [(w.heap.size, 24, V0)] (w.alloc (.cells V0.toArray 24))) := Lib.hid ((Kp.start w).new 24 V0)
  clear hV0
  generalize hw1 : w.alloc (.cells V0.toArray 24) = w1 at *
  rw [hz0] at hw1
  go_enter Tryd.func26, Tryd.ntmps26
  go_upto_region 1 with (fail)
  clear hw1 hz0
  have hkc := HK1.out.hd
  have htf := hkc.there 4 (by have := HL_V0.out; simp; omega)
  have HIN : Hid ((Tryd.prog.info? 24).map (·.size) = some ([.int .i64 1, .int .i64 0, .int .u32 0, .string ⟨#[]⟩] : List Value).length) := Lib.hid (Tryd.infoMg (⟨1, 0, 0, ⟨#[]⟩⟩ : Mg))
  go_wp2_with (((with_reducible (change wpList _ _ _ _ _ _)); ((refine wpList_store_mid rfl 24 _ _ rfl (w.heap.size) 0 ([.int .i64 1, .int .i64 0, .int .u32 0, .string ⟨#[]⟩] : List Value).toArray rfl rfl htf (by simpa using HIN.out) (by simp [Value.oneCell']) ?_))))
  have hk5 := Bk.sets [.int .i64 1, .int .i64 0, .int .u32 0, .string ⟨#[]⟩] 0 _ _ hkc
  rw [puts_whole V0.toArray [.int .i64 1, .int .i64 0, .int .u32 0, .string ⟨#[]⟩] (by have := HL_V0.out; simp; omega)] at hk5
  refine bodyPost_ret (v := .tuple #[.agg ([.int .i64 1, .int .i64 0, .int .u32 0, .string ⟨#[]⟩] : List Value).toArray, .bool true]) ?_ rfl ?_
  · exact results_cell2 rfl rfl rfl (run_loadVar_mid _ (w.heap.size) 0 24 [.int .i64 1, .int .i64 0, .int .u32 0, .string ⟨#[]⟩] _ hk5.range Tryd.underlying24 rfl HIN.out)
  · rw [HS.out]
    exact ⟨rfl, below_sets _ (by omega) 0 _ HK1.out.2.1⟩
set_option maxRecDepth 100000 in
set_option maxHeartbeats 4000000 in
theorem un6_c11 (c : Int) (w : World) (h : c = 11) : Calls Tryd.prog 26 #[.int .i64 c] w fun e w' => e = .returned (.tuple #[.agg (unr6 c).1.vals.toArray, .bool (unr6 c).2]) ∧ Below w.heap.size w w' := by
  have HS : Hid (unr6 c = (⟨1, 0, 0, ⟨#[]⟩⟩, true)) := Lib.hid (by rw [h]; rfl)
  subst h
  obtain ⟨V0, hV0⟩ : ∃ V, V = mg0.vals := ⟨_, rfl⟩
  have HL_V0 : Hid (V0.length = 4) := Lib.hid (by rw [hV0]; rfl)
  have hz0 : V0.toArray = #[.int .i64 0, .int .i64 0, .int .u32 0, .string ⟨#[]⟩] := by rw [hV0]; rfl
  have HK1 : Hid (Kp w w.heap.size [(w.heap.size, 24, V0)] (w.alloc (.cells V0.toArray 24))) := Lib.hid ((Kp.start w).new 24 V0)
  clear hV0
  generalize hw1 : w.alloc (.cells V0.toArray 24) = w1 at *
  rw [hz0] at hw1
  go_enter Tryd.func26, Tryd.ntmps26
  go_upto_region 1 with (fail)
  clear hw1 hz0
  have hkc := HK1.out.hd
  have htf := hkc.there 4 (by have := HL_V0.out; simp; omega)
  have HIN : Hid ((Tryd.prog.info? 24).map (·.size) = some ([.int .i64 1, .int .i64 0, .int .u32 0, .string ⟨#[]⟩] : List Value).length) := Lib.hid (Tryd.infoMg (⟨1, 0, 0, ⟨#[]⟩⟩ : Mg))
  go_wp2_with (((with_reducible (change wpList _ _ _ _ _ _)); ((refine wpList_store_mid rfl 24 _ _ rfl (w.heap.size) 0 ([.int .i64 1, .int .i64 0, .int .u32 0, .string ⟨#[]⟩] : List Value).toArray rfl rfl htf (by simpa using HIN.out) (by simp [Value.oneCell']) ?_))))
  have hk5 := Bk.sets [.int .i64 1, .int .i64 0, .int .u32 0, .string ⟨#[]⟩] 0 _ _ hkc
  rw [puts_whole V0.toArray [.int .i64 1, .int .i64 0, .int .u32 0, .string ⟨#[]⟩] (by have := HL_V0.out; simp; omega)] at hk5
  refine bodyPost_ret (v := .tuple #[.agg ([.int .i64 1, .int .i64 0, .int .u32 0, .string ⟨#[]⟩] : List Value).toArray, .bool true]) ?_ rfl ?_
  · exact results_cell2 rfl rfl rfl (run_loadVar_mid _ (w.heap.size) 0 24 [.int .i64 1, .int .i64 0, .int .u32 0, .string ⟨#[]⟩] _ hk5.range Tryd.underlying24 rfl HIN.out)
  · rw [HS.out]
    exact ⟨rfl, below_sets _ (by omega) 0 _ HK1.out.2.1⟩
set_option maxRecDepth 100000 in
set_option maxHeartbeats 4000000 in
theorem un6_c12 (c : Int) (w : World) (h : c = 12) : Calls Tryd.prog 26 #[.int .i64 c] w fun e w' => e = .returned (.tuple #[.agg (unr6 c).1.vals.toArray, .bool (unr6 c).2]) ∧ Below w.heap.size w w' := by
  have HS : Hid (unr6 c = (⟨1, 0, 0, ⟨#[]⟩⟩, true)) := Lib.hid (by rw [h]; rfl)
  subst h
  obtain ⟨V0, hV0⟩ : ∃ V, V = mg0.vals := ⟨_, rfl⟩
  have HL_V0 : Hid (V0.length = 4) := Lib.hid (by rw [hV0]; rfl)
  have hz0 : V0.toArray = #[.int .i64 0, .int .i64 0, .int .u32 0, .string ⟨#[]⟩] := by rw [hV0]; rfl
  have HK1 : Hid (Kp w w.heap.size [(w.heap.size, 24, V0)] (w.alloc (.cells V0.toArray 24))) := Lib.hid ((Kp.start w).new 24 V0)
  clear hV0
  generalize hw1 : w.alloc (.cells V0.toArray 24) = w1 at *
  rw [hz0] at hw1
  go_enter Tryd.func26, Tryd.ntmps26
  go_upto_region 1 with (fail)
  clear hw1 hz0
  have hkc := HK1.out.hd
  have htf := hkc.there 4 (by have := HL_V0.out; simp; omega)
  have HIN : Hid ((Tryd.prog.info? 24).map (·.size) = some ([.int .i64 1, .int .i64 0, .int .u32 0, .string ⟨#[]⟩] : List Value).length) := Lib.hid (Tryd.infoMg (⟨1, 0, 0, ⟨#[]⟩⟩ : Mg))
  go_wp2_with (((with_reducible (change wpList _ _ _ _ _ _)); ((refine wpList_store_mid rfl 24 _ _ rfl (w.heap.size) 0 ([.int .i64 1, .int .i64 0, .int .u32 0, .string ⟨#[]⟩] : List Value).toArray rfl rfl htf (by simpa using HIN.out) (by simp [Value.oneCell']) ?_))))
  have hk5 := Bk.sets [.int .i64 1, .int .i64 0, .int .u32 0, .string ⟨#[]⟩] 0 _ _ hkc
  rw [puts_whole V0.toArray [.int .i64 1, .int .i64 0, .int .u32 0, .string ⟨#[]⟩] (by have := HL_V0.out; simp; omega)] at hk5
  refine bodyPost_ret (v := .tuple #[.agg ([.int .i64 1, .int .i64 0, .int .u32 0, .string ⟨#[]⟩] : List Value).toArray, .bool true]) ?_ rfl ?_
  · exact results_cell2 rfl rfl rfl (run_loadVar_mid _ (w.heap.size) 0 24 [.int .i64 1, .int .i64 0, .int .u32 0, .string ⟨#[]⟩] _ hk5.range Tryd.underlying24 rfl HIN.out)
  · rw [HS.out]
    exact ⟨rfl, below_sets _ (by omega) 0 _ HK1.out.2.1⟩
set_option maxRecDepth 100000 in
set_option maxHeartbeats 4000000 in
theorem un6_c9 (c : Int) (w : World) (h : c = 9) : Calls Tryd.prog 26 #[.int .i64 c] w fun e w' => e = .returned (.tuple #[.agg (unr6 c).1.vals.toArray, .bool (unr6 c).2]) ∧ Below w.heap.size w w' := by
  have HS : Hid (unr6 c = (⟨1, 1, 0, ⟨#[]⟩⟩, true)) := Lib.hid (by rw [h]; rfl)
  subst h
  obtain ⟨V0, hV0⟩ : ∃ V, V = mg0.vals := ⟨_, rfl⟩
  have HL_V0 : Hid (V0.length = 4) := Lib.hid (by rw [hV0]; rfl)
  have hz0 : V0.toArray = #[.int .i64 0, .int .i64 0, .int .u32 0, .string ⟨#[]⟩] := by rw [hV0]; rfl
  have HK1 : Hid (Kp w w.heap.size [(w.heap.size, 24, V0)] (w.alloc (.cells V0.toArray 24))) := Lib.hid ((Kp.start w).new 24 V0)
  clear hV0
  generalize hw1 : w.alloc (.cells V0.toArray 24) = w1 at *
  rw [hz0] at hw1
  go_enter Tryd.func26, Tryd.ntmps26
  go_upto_region 1 with (fail)
  clear hw1 hz0
  have hkc := HK1.out.hd
  have htf := hkc.there 4 (by have := HL_V0.out; simp; omega)
  have HIN : Hid ((Tryd.prog.info? 24).map (·.size) = some ([.int .i64 1, .int .i64 1, .int .u32 0, .string ⟨#[]⟩] : List Value).length) := Lib.hid (Tryd.infoMg (⟨1, 1, 0, ⟨#[]⟩⟩ : Mg))
  go_wp2_with (((with_reducible (change wpList _ _ _ _ _ _)); ((refine wpList_store_mid rfl 24 _ _ rfl (w.heap.size) 0 ([.int .i64 1, .int .i64 1, .int .u32 0, .string ⟨#[]⟩] : List Value).toArray rfl rfl htf (by simpa using HIN.out) (by simp [Value.oneCell']) ?_))))
  have hk5 := Bk.sets [.int .i64 1, .int .i64 1, .int .u32 0, .string ⟨#[]⟩] 0 _ _ hkc
  rw [puts_whole V0.toArray [.int .i64 1, .int .i64 1, .int .u32 0, .string ⟨#[]⟩] (by have := HL_V0.out; simp; omega)] at hk5
  refine bodyPost_ret (v := .tuple #[.agg ([.int .i64 1, .int .i64 1, .int .u32 0, .string ⟨#[]⟩] : List Value).toArray, .bool true]) ?_ rfl ?_
  · exact results_cell2 rfl rfl rfl (run_loadVar_mid _ (w.heap.size) 0 24 [.int .i64 1, .int .i64 1, .int .u32 0, .string ⟨#[]⟩] _ hk5.range Tryd.underlying24 rfl HIN.out)
  · rw [HS.out]
    exact ⟨rfl, below_sets _ (by omega) 0 _ HK1.out.2.1⟩
set_option maxRecDepth 100000 in
set_option maxHeartbeats 4000000 in
theorem un6_c10 (c : Int) (w : World) (h : c = 10) : Calls Tryd.prog 26 #[.int .i64 c] w fun e w' => e = .returned (.tuple #[.agg (unr6 c).1.vals.toArray, .bool (unr6 c).2]) ∧ Below w.heap.size w w' := by
  have HS : Hid (unr6 c = (⟨1, 1, 0, ⟨#[]⟩⟩, true)) := Lib.hid (by rw [h]; rfl)
  subst h
  obtain ⟨V0, hV0⟩ : ∃ V, V = mg0.vals := ⟨_, rfl⟩
  have HL_V0 : Hid (V0.length = 4) := Lib.hid (by rw [hV0]; rfl)
  have hz0 : V0.toArray = #[.int .i64 0, .int .i64 0, .int .u32 0, .string ⟨#[]⟩] := by rw [hV0]; rfl
  have HK1 : Hid (Kp w w.heap.size [(w.heap.size, 24, V0)] (w.alloc (.cells V0.toArray 24))) := Lib.hid ((Kp.start w).new 24 V0)
  clear hV0
  generalize hw1 : w.alloc (.cells V0.toArray 24) = w1 at *
  rw [hz0] at hw1
  go_enter Tryd.func26, Tryd.ntmps26
  go_upto_region 1 with (fail)
  clear hw1 hz0
  have hkc := HK1.out.hd
  have htf := hkc.there 4 (by have := HL_V0.out; simp; omega)
  have HIN : Hid ((Tryd.prog.info? 24).map (·.size) = some ([.int .i64 1, .int .i64 1, .int .u32 0, .string ⟨#[]⟩] : List Value).length) := Lib.hid (Tryd.infoMg (⟨1, 1, 0, ⟨#[]⟩⟩ : Mg))
  go_wp2_with (((with_reducible (change wpList _ _ _ _ _ _)); ((refine wpList_store_mid rfl 24 _ _ rfl (w.heap.size) 0 ([.int .i64 1, .int .i64 1, .int .u32 0, .string ⟨#[]⟩] : List Value).toArray rfl rfl htf (by simpa using HIN.out) (by simp [Value.oneCell']) ?_))))
  have hk5 := Bk.sets [.int .i64 1, .int .i64 1, .int .u32 0, .string ⟨#[]⟩] 0 _ _ hkc
  rw [puts_whole V0.toArray [.int .i64 1, .int .i64 1, .int .u32 0, .string ⟨#[]⟩] (by have := HL_V0.out; simp; omega)] at hk5
  refine bodyPost_ret (v := .tuple #[.agg ([.int .i64 1, .int .i64 1, .int .u32 0, .string ⟨#[]⟩] : List Value).toArray, .bool true]) ?_ rfl ?_
  · exact results_cell2 rfl rfl rfl (run_loadVar_mid _ (w.heap.size) 0 24 [.int .i64 1, .int .i64 1, .int .u32 0, .string ⟨#[]⟩] _ hk5.range Tryd.underlying24 rfl HIN.out)
  · rw [HS.out]
    exact ⟨rfl, below_sets _ (by omega) 0 _ HK1.out.2.1⟩
set_option maxRecDepth 100000 in
set_option maxHeartbeats 4000000 in
theorem un6_c13 (c : Int) (w : World) (h : c = 13) : Calls Tryd.prog 26 #[.int .i64 c] w fun e w' => e = .returned (.tuple #[.agg (unr6 c).1.vals.toArray, .bool (unr6 c).2]) ∧ Below w.heap.size w w' := by
  have HS : Hid (unr6 c = (⟨1, 1, 0, ⟨#[]⟩⟩, true)) := Lib.hid (by rw [h]; rfl)
  subst h
  obtain ⟨V0, hV0⟩ : ∃ V, V = mg0.vals := ⟨_, rfl⟩
  have HL_V0 : Hid (V0.length = 4) := Lib.hid (by rw [hV0]; rfl)
  have hz0 : V0.toArray = #[.int .i64 0, .int .i64 0, .int .u32 0, .string ⟨#[]⟩] := by rw [hV0]; rfl
  have HK1 : Hid (Kp w w.heap.size [(w.heap.size, 24, V0)] (w.alloc (.cells V0.toArray 24))) := Lib.hid ((Kp.start w).new 24 V0)
  clear hV0
  generalize hw1 : w.alloc (.cells V0.toArray 24) = w1 at *
  rw [hz0] at hw1
  go_enter Tryd.func26, Tryd.ntmps26
  go_upto_region 1 with (fail)
  clear hw1 hz0
  have hkc := HK1.out.hd
  have htf := hkc.there 4 (by have := HL_V0.out; simp; omega)
  have HIN : Hid ((Tryd.prog.info? 24).map (·.size) = some ([.int .i64 1, .int .i64 1, .int .u32 0, .string ⟨#[]⟩] : List Value).length) := Lib.hid (Tryd.infoMg (⟨1, 1, 0, ⟨#[]⟩⟩ : Mg))
  go_wp2_with (((with_reducible (change wpList _ _ _ _ _ _)); ((refine wpList_store_mid rfl 24 _ _ rfl (w.heap.size) 0 ([.int .i64 1, .int .i64 1, .int .u32 0, .string ⟨#[]⟩] : List Value).toArray rfl rfl htf (by simpa using HIN.out) (by simp [Value.oneCell']) ?_))))
  have hk5 := Bk.sets [.int .i64 1, .int .i64 1, .int .u32 0, .string ⟨#[]⟩] 0 _ _ hkc
  rw [puts_whole V0.toArray [.int .i64 1, .int .i64 1, .int .u32 0, .string ⟨#[]⟩] (by have := HL_V0.out; simp; omega)] at hk5
  refine bodyPost_ret (v := .tuple #[.agg ([.int .i64 1, .int .i64 1, .int .u32 0, .string ⟨#[]⟩] : List Value).toArray, .bool true]) ?_ rfl ?_
  · exact results_cell2 rfl rfl rfl (run_loadVar_mid _ (w.heap.size) 0 24 [.int .i64 1, .int .i64 1, .int .u32 0, .string ⟨#[]⟩] _ hk5.range Tryd.underlying24 rfl HIN.out)
  · rw [HS.out]
    exact ⟨rfl, below_sets _ (by omega) 0 _ HK1.out.2.1⟩
set_option maxRecDepth 100000 in
set_option maxHeartbeats 4000000 in
theorem un6_c15 (c : Int) (w : World) (h : c = 15) : Calls Tryd.prog 26 #[.int .i64 c] w fun e w' => e = .returned (.tuple #[.agg (unr6 c).1.vals.toArray, .bool (unr6 c).2]) ∧ Below w.heap.size w w' := by
  have HS : Hid (unr6 c = (⟨1, 1, 0, ⟨#[]⟩⟩, true)) := Lib.hid (by rw [h]; rfl)
  subst h
  obtain ⟨V0, hV0⟩ : ∃ V, V = mg0.vals := ⟨_, rfl⟩
  have HL_V0 : Hid (V0.length = 4) := Lib.hid (by rw [hV0]; rfl)
  have hz0 : V0.toArray = #[.int .i64 0, .int .i64 0, .int .u32 0, .string ⟨#[]⟩] := by rw [hV0]; rfl
  have HK1 : Hid (Kp w w.heap.size [(w.heap.size, 24, V0)] (w.alloc (.cells V0.toArray 24))) := Lib.hid ((Kp.start w).new 24 V0)
  clear hV0
  generalize hw1 : w.alloc (.cells V0.toArray 24) = w1 at *
  rw [hz0] at hw1
  go_enter Tryd.func26, Tryd.ntmps26
  go_upto_region 1 with (fail)
  clear hw1 hz0
  have hkc := HK1.out.hd
  have htf := hkc.there 4 (by have := HL_V0.out; simp; omega)
  have HIN : Hid ((Tryd.prog.info? 24).map (·.size) = some ([.int .i64 1, .int .i64 1, .int .u32 0, .string ⟨#[]⟩] : List Value).length) := Lib.hid (Tryd.infoMg (⟨1, 1, 0, ⟨#[]⟩⟩ : Mg))
  go_wp2_with (((with_reducible (change wpList _ _ _ _ _ _)); ((refine wpList_store_mid rfl 24 _ _ rfl (w.heap.size) 0 ([.int .i64 1, .int .i64 1, .int .u32 0, .string ⟨#[]⟩] : List Value).toArray rfl rfl htf (by simpa using HIN.out) (by simp [Value.oneCell']) ?_))))
  have hk5 := Bk.sets [.int .i64 1, .int .i64 1, .int .u32 0, .string ⟨#[]⟩] 0 _ _ hkc
  rw [puts_whole V0.toArray [.int .i64 1, .int .i64 1, .int .u32 0, .string ⟨#[]⟩] (by have := HL_V0.out; simp; omega)] at hk5
  refine bodyPost_ret (v := .tuple #[.agg ([.int .i64 1, .int .i64 1, .int .u32 0, .string ⟨#[]⟩] : List Value).toArray, .bool true]) ?_ rfl ?_
  · exact results_cell2 rfl rfl rfl (run_loadVar_mid _ (w.heap.size) 0 24 [.int .i64 1, .int .i64 1, .int .u32 0, .string ⟨#[]⟩] _ hk5.range Tryd.underlying24 rfl HIN.out)
  · rw [HS.out]
    exact ⟨rfl, below_sets _ (by omega) 0 _ HK1.out.2.1⟩
set_option maxRecDepth 100000 in
set_option maxHeartbeats 4000000 in
theorem un6_c3 (c : Int) (w : World) (h : c = 3) : Calls Tryd.prog 26 #[.int .i64 c] w fun e w' => e = .returned (.tuple #[.agg (unr6 c).1.vals.toArray, .bool (unr6 c).2]) ∧ Below w.heap.size w w' := by
  have HS : Hid (unr6 c = (⟨1, 4, 0, ⟨#[]⟩⟩, true)) := Lib.hid (by rw [h]; rfl)
  subst h
  obtain ⟨V0, hV0⟩ : ∃ V, V = mg0.vals := ⟨_, rfl⟩
  have HL_V0 : Hid (V0.length = 4) := Lib.hid (by rw [hV0]; rfl)
  have hz0 : V0.toArray = #[.int .i64 0, .int .i64 0, .int .u32 0, .string ⟨#[]⟩] := by rw [hV0]; rfl
  have HK1 : Hid (Kp w w.heap.size [(w.heap.size, 24, V0)] (w.alloc (.cells V0.toArray 24))) := Lib.hid ((Kp.start w).new 24 V0)
  clear hV0
  generalize hw1 : w.alloc (.cells V0.toArray 24) = w1 at *
  rw [hz0] at hw1
  go_enter Tryd.func26, Tryd.ntmps26
  go_upto_region 1 with (fail)
  clear hw1 hz0
  have hkc := HK1.out.hd
  have htf := hkc.there 4 (by have := HL_V0.out; simp; omega)
  have HIN : Hid ((Tryd.prog.info? 24).map (·.size) = some ([.int .i64 1, .int .i64 4, .int .u32 0, .string ⟨#[]⟩] : List Value).length) := Lib.hid (Tryd.infoMg (⟨1, 4, 0, ⟨#[]⟩⟩ : Mg))
  go_wp2_with (((with_reducible (change wpList _ _ _ _ _ _)); ((refine wpList_store_mid rfl 24 _ _ rfl (w.heap.size) 0 ([.int .i64 1, .int .i64 4, .int .u32 0, .string ⟨#[]⟩] : List Value).toArray rfl rfl htf (by simpa using HIN.out) (by simp [Value.oneCell']) ?_))))
  have hk5 := Bk.sets [.int .i64 1, .int .i64 4, .int .u32 0, .string ⟨#[]⟩] 0 _ _ hkc
  rw [puts_whole V0.toArray [.int .i64 1, .int .i64 4, .int .u32 0, .string ⟨#[]⟩] (by have := HL_V0.out; simp; omega)] at hk5
  refine bodyPost_ret (v := .tuple #[.agg ([.int .i64 1, .int .i64 4, .int .u32 0, .string ⟨#[]⟩] : List Value).toArray, .bool true]) ?_ rfl ?_
  · exact results_cell2 rfl rfl rfl (run_loadVar_mid _ (w.heap.size) 0 24 [.int .i64 1, .int .i64 4, .int .u32 0, .string ⟨#[]⟩] _ hk5.range Tryd.underlying24 rfl HIN.out)
  · rw [HS.out]
    exact ⟨rfl, below_sets _ (by omega) 0 _ HK1.out.2.1⟩
set_option maxRecDepth 100000 in
set_option maxHeartbeats 4000000 in
theorem un6_c2 (c : Int) (w : World) (h : c = 2) : Calls Tryd.prog 26 #[.int .i64 c] w fun e w' => e = .returned (.tuple #[.agg (unr6 c).1.vals.toArray, .bool (unr6 c).2]) ∧ Below w.heap.size w w' := by
  have HS : Hid (unr6 c = (⟨4, 1, 6, ⟨#[]⟩⟩, true)) := Lib.hid (by rw [h]; rfl)
  subst h
  obtain ⟨V0, hV0⟩ : ∃ V, V = mg0.vals := ⟨_, rfl⟩
  have HL_V0 : Hid (V0.length = 4) := Lib.hid (by rw [hV0]; rfl)
  have hz0 : V0.toArray = #[.int .i64 0, .int .i64 0, .int .u32 0, .string ⟨#[]⟩] := by rw [hV0]; rfl
  have HK1 : Hid (Kp w w.heap.size [(w.heap.size, 24, V0)] (w.alloc (.cells V0.toArray 24))) := Lib.hid ((Kp.start w).new 24 V0)
  clear hV0
  generalize hw1 : w.alloc (.cells V0.toArray 24) = w1 at *
  rw [hz0] at hw1
  go_enter Tryd.func26, Tryd.ntmps26
  go_upto_region 1 with (fail)
  clear hw1 hz0
  have hkc := HK1.out.hd
  have htf := hkc.there 4 (by have := HL_V0.out; simp; omega)
  have HIN : Hid ((Tryd.prog.info? 24).map (·.size) = some ([.int .i64 4, .int .i64 1, .int .u32 6, .string ⟨#[]⟩] : List Value).length) := Lib.hid (Tryd.infoMg (⟨4, 1, 6, ⟨#[]⟩⟩ : Mg))
  go_wp2_with (((with_reducible (change wpList _ _ _ _ _ _)); ((refine wpList_store_mid rfl 24 _ _ rfl (w.heap.size) 0 ([.int .i64 4, .int .i64 1, .int .u32 6, .string ⟨#[]⟩] : List Value).toArray rfl rfl htf (by simpa using HIN.out) (by simp [Value.oneCell']) ?_))))
  have hk5 := Bk.sets [.int .i64 4, .int .i64 1, .int .u32 6, .string ⟨#[]⟩] 0 _ _ hkc
  rw [puts_whole V0.toArray [.int .i64 4, .int .i64 1, .int .u32 6, .string ⟨#[]⟩] (by have := HL_V0.out; simp; omega)] at hk5
  refine bodyPost_ret (v := .tuple #[.agg ([.int .i64 4, .int .i64 1, .int .u32 6, .string ⟨#[]⟩] : List Value).toArray, .bool true]) ?_ rfl ?_
  · exact results_cell2 rfl rfl rfl (run_loadVar_mid _ (w.heap.size) 0 24 [.int .i64 4, .int .i64 1, .int .u32 6, .string ⟨#[]⟩] _ hk5.range Tryd.underlying24 rfl HIN.out)
  · rw [HS.out]
    exact ⟨rfl, below_sets _ (by omega) 0 _ HK1.out.2.1⟩
set_option maxRecDepth 100000 in
set_option maxHeartbeats 4000000 in
theorem un6_c4 (c : Int) (w : World) (h : c = 4) : Calls Tryd.prog 26 #[.int .i64 c] w fun e w' => e = .returned (.tuple #[.agg (unr6 c).1.vals.toArray, .bool (unr6 c).2]) ∧ Below w.heap.size w w' := by
  have HS : Hid (unr6 c = (⟨2, 0, 0, ⟨#[]⟩⟩, true)) := Lib.hid (by rw [h]; rfl)
  subst h
  obtain ⟨V0, hV0⟩ : ∃ V, V = mg0.vals := ⟨_, rfl⟩
  have HL_V0 : Hid (V0.length = 4) := Lib.hid (by rw [hV0]; rfl)
  have hz0 : V0.toArray = #[.int .i64 0, .int .i64 0, .int .u32 0, .string ⟨#[]⟩] := by rw [hV0]; rfl
  have HK1 : Hid (Kp w w.heap.size [(w.heap.size, 24, V0)] (w.alloc (.cells V0.toArray 24))) := Lib.hid ((Kp.start w).new 24 V0)
  clear hV0
  generalize hw1 : w.alloc (.cells V0.toArray 24) = w1 at *
  rw [hz0] at hw1
  go_enter Tryd.func26, Tryd.ntmps26
  go_upto_region 1 with (fail)
  clear hw1 hz0
  have hkc := HK1.out.hd
  have htf := hkc.there 4 (by have := HL_V0.out; simp; omega)
  have HIN : Hid ((Tryd.prog.info? 24).map (·.size) = some ([.int .i64 2, .int .i64 0, .int .u32 0, .string ⟨#[]⟩] : List Value).length) := Lib.hid (Tryd.infoMg (⟨2, 0, 0, ⟨#[]⟩⟩ : Mg))
  go_wp2_with (((with_reducible (change wpList _ _ _ _ _ _)); ((refine wpList_store_mid rfl 24 _ _ rfl (w.heap.size) 0 ([.int .i64 2, .int .i64 0, .int .u32 0, .string ⟨#[]⟩] : List Value).toArray rfl rfl htf (by simpa using HIN.out) (by simp [Value.oneCell']) ?_))))
  have hk5 := Bk.sets [.int .i64 2, .int .i64 0, .int .u32 0, .string ⟨#[]⟩] 0 _ _ hkc
  rw [puts_whole V0.toArray [.int .i64 2, .int .i64 0, .int .u32 0, .string ⟨#[]⟩] (by have := HL_V0.out; simp; omega)] at hk5
  refine bodyPost_ret (v := .tuple #[.agg ([.int .i64 2, .int .i64 0, .int .u32 0, .string ⟨#[]⟩] : List Value).toArray, .bool true]) ?_ rfl ?_
  · exact results_cell2 rfl rfl rfl (run_loadVar_mid _ (w.heap.size) 0 24 [.int .i64 2, .int .i64 0, .int .u32 0, .string ⟨#[]⟩] _ hk5.range Tryd.underlying24 rfl HIN.out)
  · rw [HS.out]
    exact ⟨rfl, below_sets _ (by omega) 0 _ HK1.out.2.1⟩
set_option maxRecDepth 100000 in
set_option maxHeartbeats 4000000 in
theorem un6_no (c : Int) (w : World) (h0 : c ≠ 0) (h1 : c ≠ 1) (h5 : c ≠ 5) (h6 : c ≠ 6) (h7 : c ≠ 7) (h8 : c ≠ 8) (h11 : c ≠ 11) (h12 : c ≠ 12) (h9 : c ≠ 9) (h10 : c ≠ 10) (h13 : c ≠ 13) (h15 : c ≠ 15) (h3 : c ≠ 3) (h2 : c ≠ 2) (h4 : c ≠ 4) : Calls Tryd.prog 26 #[.int .i64 c] w fun e w' => e = .returned (.tuple #[.agg (unr6 c).1.vals.toArray, .bool (unr6 c).2]) ∧ Below w.heap.size w w' := by
  have HS : Hid (unr6 c = (mg0, false)) := Lib.hid (by unfold unr6; simp only [h0, h1, h5, h6, h7, h8, h11, h12, h9, h10, h13, h15, h3, h2, h4, if_false])
  have e0 : (c == 0) = false := by rw [beq_eq_false_iff_ne]; exact h0
  have e1 : (c == 1) = false := by rw [beq_eq_false_iff_ne]; exact h1
  have e5 : (c == 5) = false := by rw [beq_eq_false_iff_ne]; exact h5
  have e6 : (c == 6) = false := by rw [beq_eq_false_iff_ne]; exact h6
  have e7 : (c == 7) = false := by rw [beq_eq_false_iff_ne]; exact h7
  have e8 : (c == 8) = false := by rw [beq_eq_false_iff_ne]; exact h8
  have e11 : (c == 11) = false := by rw [beq_eq_false_iff_ne]; exact h11
  have e12 : (c == 12) = false := by rw [beq_eq_false_iff_ne]; exact h12
  have e9 : (c == 9) = false := by rw [beq_eq_false_iff_ne]; exact h9
  have e10 : (c == 10) = false := by rw [beq_eq_false_iff_ne]; exact h10
  have e13 : (c == 13) = false := by rw [beq_eq_false_iff_ne]; exact h13
  have e15 : (c == 15) = false := by rw [beq_eq_false_iff_ne]; exact h15
  have e3 : (c == 3) = false := by rw [beq_eq_false_iff_ne]; exact h3
  have e2 : (c == 2) = false := by rw [beq_eq_false_iff_ne]; exact h2
  have e4 : (c == 4) = false := by rw [beq_eq_false_iff_ne]; exact h4
  obtain ⟨V0, hV0⟩ : ∃ V, V = mg0.vals := ⟨_, rfl⟩
  have HL_V0 : Hid (V0.length = 4) := Lib.hid (by rw [hV0]; rfl)
  have hz0 : V0.toArray = #[.int .i64 0, .int .i64 0, .int .u32 0, .string ⟨#[]⟩] := by rw [hV0]; rfl
  have HK1 : Hid (Kp w w.heap.size [(w.heap.size, 24, V0)] (w.alloc (.cells V0.toArray 24))) := Lib.hid ((Kp.start w).new 24 V0)
  clear hV0
  generalize hw1 : w.alloc (.cells V0.toArray 24) = w1 at *
  rw [hz0] at hw1
  go_enter Tryd.func26, Tryd.ntmps26
  go_upto_region 1 with (fail)
  clear hw1 hz0
  have hkc := HK1.out.hd
  have htf := hkc.there 4 (by have := HL_V0.out; simp; omega)
  have HIN : Hid ((Tryd.prog.info? 24).map (·.size) = some ([.int .i64 0, .int .i64 0, .int .u32 0, .string ⟨#[]⟩] : List Value).length) := Lib.hid (Tryd.infoMg (⟨0, 0, 0, ⟨#[]⟩⟩ : Mg))
  go_wp2_with (((with_reducible (change wpList _ _ _ _ _ _)); ((refine wpList_store_mid rfl 24 _ _ rfl (w.heap.size) 0 ([.int .i64 0, .int .i64 0, .int .u32 0, .string ⟨#[]⟩] : List Value).toArray rfl rfl htf (by simpa using HIN.out) (by simp [Value.oneCell']) ?_))))
  have hk5 := Bk.sets [.int .i64 0, .int .i64 0, .int .u32 0, .string ⟨#[]⟩] 0 _ _ hkc
  rw [puts_whole V0.toArray [.int .i64 0, .int .i64 0, .int .u32 0, .string ⟨#[]⟩] (by have := HL_V0.out; simp; omega)] at hk5
  refine bodyPost_ret (v := .tuple #[.agg ([.int .i64 0, .int .i64 0, .int .u32 0, .string ⟨#[]⟩] : List Value).toArray, .bool false]) ?_ rfl ?_
  · exact results_cell2 rfl rfl rfl (run_loadVar_mid _ (w.heap.size) 0 24 [.int .i64 0, .int .i64 0, .int .u32 0, .string ⟨#[]⟩] _ hk5.range Tryd.underlying24 rfl HIN.out)
  · rw [HS.out]
    exact ⟨rfl, below_sets _ (by omega) 0 _ HK1.out.2.1⟩
theorem un6_any (c : Int) (w : World) : Calls Tryd.prog 26 #[.int .i64 c] w fun e w' => e = .returned (.tuple #[.agg (unr6 c).1.vals.toArray, .bool (unr6 c).2]) ∧ Below w.heap.size w w' := by
  by_cases h0 : c = 0
  · exact un6_c0 c w h0
  by_cases h1 : c = 1
  · exact un6_c1 c w h1
  by_cases h5 : c = 5
  · exact un6_c5 c w h5
  by_cases h6 : c = 6
  · exact un6_c6 c w h6
  by_cases h7 : c = 7
  · exact un6_c7 c w h7
  by_cases h8 : c = 8
  · exact un6_c8 c w h8
  by_cases h11 : c = 11
  · exact un6_c11 c w h11
  by_cases h12 : c = 12
  · exact un6_c12 c w h12
  by_cases h9 : c = 9
  · exact un6_c9 c w h9
  by_cases h10 : c = 10
  · exact un6_c10 c w h10
  by_cases h13 : c = 13
  · exact un6_c13 c w h13
  by_cases h15 : c = 15
  · exact un6_c15 c w h15
  by_cases h3 : c = 3
  · exact un6_c3 c w h3
  by_cases h2 : c = 2
  · exact un6_c2 c w h2
  by_cases h4 : c = 4
  · exact un6_c4 c w h4
  exact un6_no c w h0 h1 h5 h6 h7 h8 h11 h12 h9 h10 h13 h15 h3 h2 h4
def unr4 (c : Int) : Mg × Bool := if c = 0 then (⟨3, 1, 0, ⟨#[]⟩⟩, true) else if c = 2 then (⟨3, 1, 0, ⟨#[]⟩⟩, true) else if c = 3 then (⟨3, 1, 0, ⟨#[]⟩⟩, true) else if c = 1 then (⟨3, 10, 0, ⟨#[]⟩⟩, true) else if c = 4 then (⟨3, 3, 0, ⟨#[]⟩⟩, true) else (mg0, false)
set_option maxRecDepth 100000 in
set_option maxHeartbeats 4000000 in
theorem un4_c0 (c : Int) (w : World) (h : c = 0) : Calls Tryd.prog 28 #[.int .i64 c] w fun e w' => e = .returned (.tuple #[.agg (unr4 c).1.vals.toArray, .bool (unr4 c).2]) ∧ Below w.heap.size w w' := by
  have HS : Hid (unr4 c = (⟨3, 1, 0, ⟨#[]⟩⟩, true)) := Lib.hid (by rw [h]; rfl)
  subst h
  obtain ⟨V0, hV0⟩ : ∃ V, V = mg0.vals := ⟨_, rfl⟩
  have HL_V0 : Hid (V0.length = 4) := Lib.hid (by rw [hV0]; rfl)
  have hz0 : V0.toArray = #[.int .i64 0, .int .i64 0, .int .u32 0, .string ⟨#[]⟩] := by rw [hV0]; rfl
  have HK1 : Hid (Kp w w.heap.size [(w.heap.size, 24, V0)] (w.alloc (.cells V0.toArray 24))) := Lib.hid ((Kp.start w).new 24 V0)
  clear hV0
  generalize hw1 : w.alloc (.cells V0.toArray 24) = w1 at *
  rw [hz0] at hw1
  go_enter Tryd.func28, Tryd.ntmps28
  go_upto_region 1 with (fail)
  clear hw1 hz0
  have hkc := HK1.out.hd
  have htf := hkc.there 4 (by have := HL_V0.out; simp; omega)
  have HIN : Hid ((Tryd.prog.info? 24).map (·.size) = some ([.int .i64 3, .int .i64 1, .int .u32 0, .string ⟨#[]⟩] : List Value).length) := Lib.hid (Tryd.infoMg (⟨3, 1, 0, ⟨#[]⟩⟩ : Mg))
  go_wp2_with (((with_reducible (change wpList _ _ _ _ _ _)); ((refine wpList_store_mid rfl 24 _ _ rfl (w.heap.size) 0 ([.int .i64 3, .int .i64 1, .int .u32 0, .string ⟨#[]⟩] : List Value).toArray rfl rfl htf (by simpa using HIN.out) (by simp [Value.oneCell']) ?_))))
  have hk5 := Bk.sets [.int .i64 3, .int .i64 1, .int .u32 0, .string ⟨#[]⟩] 0 _ _ hkc
  rw [puts_whole V0.toArray [.int .i64 3, .int .i64 1, .int .u32 0, .string ⟨#[]⟩] (by have := HL_V0.out; simp; omega)] at hk5
  refine bodyPost_ret (v := .tuple #[.agg ([.int .i64 3, .int .i64 1, .int .u32 0, .string ⟨#[]⟩] : List Value).toArray, .bool true]) ?_ rfl ?_
  · exact results_cell2 rfl rfl rfl (run_loadVar_mid _ (w.heap.size) 0 24 [.int .i64 3, .int .i64 1, .int .u32 0, .string ⟨#[]⟩] _ hk5.range Tryd.underlying24 rfl HIN.out)
  · rw [HS.out]
    exact ⟨rfl, below_sets _ (by omega) 0 _ HK1.out.2.1⟩
set_option maxRecDepth 100000 in
set_option maxHeartbeats 4000000 in
theorem un4_c2 (c : Int) (w : World) (h : c = 2) : Calls Tryd.prog 28 #[.int .i64 c] w fun e w' => e = .returned (.tuple #[.agg (unr4 c).1.vals.toArray, .bool (unr4 c).2]) ∧ Below w.heap.size w w' := by
  have HS : Hid (unr4 c = (⟨3, 1, 0, ⟨#[]⟩⟩, true)) := Lib.hid (by rw [h]; rfl)
  subst h
  obtain ⟨V0, hV0⟩ : ∃ V, V = mg0.vals := ⟨_, rfl⟩
  have HL_V0 : Hid (V0.length = 4) := Lib.hid (by rw [hV0]; rfl)
  have hz0 : V0.toArray = #[.int .i64 0, .int .i64 0, .int .u32 0, .string ⟨#[]⟩] := by rw [hV0]; rfl
  have HK1 : Hid (Kp w w.heap.size [(w.heap.size, 24, V0)] (w.alloc (.cells V0.toArray 24))) := Lib.hid ((Kp.start w).new 24 V0)
  clear hV0
  generalize hw1 : w.alloc (.cells V0.toArray 24) = w1 at *
  rw [hz0] at hw1
  go_enter Tryd.func28, Tryd.ntmps28
  go_upto_region 1 with (fail)
  clear hw1 hz0
  have hkc := HK1.out.hd
  have htf := hkc.there 4 (by have := HL_V0.out; simp; omega)
  have HIN : Hid ((Tryd.prog.info? 24).map (·.size) = some ([.int .i64 3, .int .i64 1, .int .u32 0, .string ⟨#[]⟩] : List Value).length) := Lib.hid (Tryd.infoMg (⟨3, 1, 0, ⟨#[]⟩⟩ : Mg))
  go_wp2_with (((with_reducible (change wpList _ _ _ _ _ _)); ((refine wpList_store_mid rfl 24 _ _ rfl (w.heap.size) 0 ([.int .i64 3, .int .i64 1, .int .u32 0, .string ⟨#[]⟩] : List Value).toArray rfl rfl htf (by simpa using HIN.out) (by simp [Value.oneCell']) ?_))))
  have hk5 := Bk.sets [.int .i64 3, .int .i64 1, .int .u32 0, .string ⟨#[]⟩] 0 _ _ hkc
  rw [puts_whole V0.toArray [.int .i64 3, .int .i64 1, .int .u32 0, .string ⟨#[]⟩] (by have := HL_V0.out; simp; omega)] at hk5
  refine bodyPost_ret (v := .tuple #[.agg ([.int .i64 3, .int .i64 1, .int .u32 0, .string ⟨#[]⟩] : List Value).toArray, .bool true]) ?_ rfl ?_
  · exact results_cell2 rfl rfl rfl (run_loadVar_mid _ (w.heap.size) 0 24 [.int .i64 3, .int .i64 1, .int .u32 0, .string ⟨#[]⟩] _ hk5.range Tryd.underlying24 rfl HIN.out)
  · rw [HS.out]
    exact ⟨rfl, below_sets _ (by omega) 0 _ HK1.out.2.1⟩
set_option maxRecDepth 100000 in
set_option maxHeartbeats 4000000 in
theorem un4_c3 (c : Int) (w : World) (h : c = 3) : Calls Tryd.prog 28 #[.int .i64 c] w fun e w' => e = .returned (.tuple #[.agg (unr4 c).1.vals.toArray, .bool (unr4 c).2]) ∧ Below w.heap.size w w' := by
  have HS : Hid (unr4 c = (⟨3, 1, 0, ⟨#[]⟩⟩, true)) := Lib.hid (by rw [h]; rfl)
  subst h
  obtain ⟨V0, hV0⟩ : ∃ V, V = mg0.vals := ⟨_, rfl⟩
  have HL_V0 : Hid (V0.length = 4) := Lib.hid (by rw [hV0]; rfl)
  have hz0 : V0.toArray = #[.int .i64 0, .int .i64 0, .int .u32 0, .string ⟨#[]⟩] := by rw [hV0]; rfl
  have HK1 : Hid (Kp w w.heap.size [(w.heap.size, 24, V0)] (w.alloc (.cells V0.toArray 24))) := Lib.hid ((Kp.start w).new 24 V0)
  clear hV0
  generalize hw1 : w.alloc (.cells V0.toArray 24) = w1 at *
  rw [hz0] at hw1
  go_enter Tryd.func28, Tryd.ntmps28
  go_upto_region 1 with (fail)
  clear hw1 hz0
  have hkc := HK1.out.hd
  have htf := hkc.there 4 (by have := HL_V0.out; simp; omega)
  have HIN : Hid ((Tryd.prog.info? 24).map (·.size) = some ([.int .i64 3, .int .i64 1, .int .u32 0, .string ⟨#[]⟩] : List Value).length) := Lib.hid (Tryd.infoMg (⟨3, 1, 0, ⟨#[]⟩⟩ : Mg))
  go_wp2_with (((with_reducible (change wpList _ _ _ _ _ _)); ((refine wpList_store_mid rfl 24 _ _ rfl (w.heap.size) 0 ([.int .i64 3, .int .i64 1, .int .u32 0, .string ⟨#[]⟩] : List Value).toArray rfl rfl htf (by simpa using HIN.out) (by simp [Value.oneCell']) ?_))))
  have hk5 := Bk.sets [.int .i64 3, .int .i64 1, .int .u32 0, .string ⟨#[]⟩] 0 _ _ hkc
  rw [puts_whole V0.toArray [.int .i64 3, .int .i64 1, .int .u32 0, .string ⟨#[]⟩] (by have := HL_V0.out; simp; omega)] at hk5
  refine bodyPost_ret (v := .tuple #[.agg ([.int .i64 3, .int .i64 1, .int .u32 0, .string ⟨#[]⟩] : List Value).toArray, .bool true]) ?_ rfl ?_
  · exact results_cell2 rfl rfl rfl (run_loadVar_mid _ (w.heap.size) 0 24 [.int .i64 3, .int .i64 1, .int .u32 0, .string ⟨#[]⟩] _ hk5.range Tryd.underlying24 rfl HIN.out)
  · rw [HS.out]
    exact ⟨rfl, below_sets _ (by omega) 0 _ HK1.out.2.1⟩
set_option maxRecDepth 100000 in
set_option maxHeartbeats 4000000 in
theorem un4_c1 (c : Int) (w : World) (h : c = 1) : Calls Tryd.prog 28 #[.int .i64 c] w fun e w' => e = .returned (.tuple #[.agg (unr4 c).1.vals.toArray, .bool (unr4 c).2]) ∧ Below w.heap.size w w' := by
  have HS : Hid (unr4 c = (⟨3, 10, 0, ⟨#[]⟩⟩, true)) := Lib.hid (by rw [h]; rfl)
  subst h
  obtain ⟨V0, hV0⟩ : ∃ V, V = mg0.vals := ⟨_, rfl⟩
  have HL_V0 : Hid (V0.length = 4) := Lib.hid (by rw [hV0]; rfl)
  have hz0 : V0.toArray = #[.int .i64 0, .int .i64 0, .int .u32 0, .string ⟨#[]⟩] := by rw [hV0]; rfl
  have HK1 : Hid (Kp w w.heap.size [(w.heap.size, 24, V0)] (w.alloc (.cells V0.toArray 24))) := Lib.hid ((Kp.start w).new 24 V0)
  clear hV0
  generalize hw1 : w.alloc (.cells V0.toArray 24) = w1 at *
  rw [hz0] at hw1
  go_enter Tryd.func28, Tryd.ntmps28
  go_upto_region 1 with (fail)
  clear hw1 hz0
  have hkc := HK1.out.hd
  have htf := hkc.there 4 (by have := HL_V0.out; simp; omega)
  have HIN : Hid ((Tryd.prog.info? 24).map (·.size) = some ([.int .i64 3, .int .i64 10, .int .u32 0, .string ⟨#[]⟩] : List Value).length) := Lib.hid (Tryd.infoMg (⟨3, 10, 0, ⟨#[]⟩⟩ : Mg))
  go_wp2_with (((with_reducible (change wpList _ _ _ _ _ _)); ((refine wpList_store_mid rfl 24 _ _ rfl (w.heap.size) 0 ([.int .i64 3, .int .i64 10, .int .u32 0, .string ⟨#[]⟩] : List Value).toArray rfl rfl htf (by simpa using HIN.out) (by simp [Value.oneCell']) ?_))))
  have hk5 := Bk.sets [.int .i64 3, .int .i64 10, .int .u32 0, .string ⟨#[]⟩] 0 _ _ hkc
  rw [puts_whole V0.toArray [.int .i64 3, .int .i64 10, .int .u32 0, .string ⟨#[]⟩] (by have := HL_V0.out; simp; omega)] at hk5
  refine bodyPost_ret (v := .tuple #[.agg ([.int .i64 3, .int .i64 10, .int .u32 0, .string ⟨#[]⟩] : List Value).toArray, .bool true]) ?_ rfl ?_
  · exact results_cell2 rfl rfl rfl (run_loadVar_mid _ (w.heap.size) 0 24 [.int .i64 3, .int .i64 10, .int .u32 0, .string ⟨#[]⟩] _ hk5.range Tryd.underlying24 rfl HIN.out)
  · rw [HS.out]
    exact ⟨rfl, below_sets _ (by omega) 0 _ HK1.out.2.1⟩
set_option maxRecDepth 100000 in
set_option maxHeartbeats 4000000 in
theorem un4_c4 (c : Int) (w : World) (h : c = 4) : Calls Tryd.prog 28 #[.int .i64 c] w fun e w' => e = .returned (.tuple #[.agg (unr4 c).1.vals.toArray, .bool (unr4 c).2]) ∧ Below w.heap.size w w' := by
  have HS : Hid (unr4 c = (⟨3, 3, 0, ⟨#[]⟩⟩, true)) := Lib.hid (by rw [h]; rfl)
  subst h
  obtain ⟨V0, hV0⟩ : ∃ V, V = mg0.vals := ⟨_, rfl⟩
  have HL_V0 : Hid (V0.length = 4) := Lib.hid (by rw [hV0]; rfl)
  have hz0 : V0.toArray = #[.int .i64 0, .int .i64 0, .int .u32 0, .string ⟨#[]⟩] := by rw [hV0]; rfl
  have HK1 : Hid (Kp w w.heap.size [(w.heap.size, 24, V0)] (w.alloc (.cells V0.toArray 24))) := Lib.hid ((Kp.start w).new 24 V0)
  clear hV0
  generalize hw1 : w.alloc (.cells V0.toArray 24) = w1 at *
  rw [hz0] at hw1
  go_enter Tryd.func28, Tryd.ntmps28
  go_upto_region 1 with (fail)
  clear hw1 hz0
  have hkc := HK1.out.hd
  have htf := hkc.there 4 (by have := HL_V0.out; simp; omega)
  have HIN : Hid ((Tryd.prog.info? 24).map (·.size) = some ([.int .i64 3, .int .i64 3, .int .u32 0, .string ⟨#[]⟩] : List Value).length) := Lib.hid (Tryd.infoMg (⟨3, 3, 0, ⟨#[]⟩⟩ : Mg))
  go_wp2_with (((with_reducible (change wpList _ _ _ _ _ _)); ((refine wpList_store_mid rfl 24 _ _ rfl (w.heap.size) 0 ([.int .i64 3, .int .i64 3, .int .u32 0, .string ⟨#[]⟩] : List Value).toArray rfl rfl htf (by simpa using HIN.out) (by simp [Value.oneCell']) ?_))))
  have hk5 := Bk.sets [.int .i64 3, .int .i64 3, .int .u32 0, .string ⟨#[]⟩] 0 _ _ hkc
  rw [puts_whole V0.toArray [.int .i64 3, .int .i64 3, .int .u32 0, .string ⟨#[]⟩] (by have := HL_V0.out; simp; omega)] at hk5
  refine bodyPost_ret (v := .tuple #[.agg ([.int .i64 3, .int .i64 3, .int .u32 0, .string ⟨#[]⟩] : List Value).toArray, .bool true]) ?_ rfl ?_
  · exact results_cell2 rfl rfl rfl (run_loadVar_mid _ (w.heap.size) 0 24 [.int .i64 3, .int .i64 3, .int .u32 0, .string ⟨#[]⟩] _ hk5.range Tryd.underlying24 rfl HIN.out)
  · rw [HS.out]
    exact ⟨rfl, below_sets _ (by omega) 0 _ HK1.out.2.1⟩
set_option maxRecDepth 100000 in
set_option maxHeartbeats 4000000 in
theorem un4_no (c : Int) (w : World) (h0 : c ≠ 0) (h2 : c ≠ 2) (h3 : c ≠ 3) (h1 : c ≠ 1) (h4 : c ≠ 4) : Calls Tryd.prog 28 #[.int .i64 c] w fun e w' => e = .returned (.tuple #[.agg (unr4 c).1.vals.toArray, .bool (unr4 c).2]) ∧ Below w.heap.size w w' := by
  have HS : Hid (unr4 c = (mg0, false)) := Lib.hid (by unfold unr4; simp only [h0, h2, h3, h1, h4, if_false])
  have e0 : (c == 0) = false := by rw [beq_eq_false_iff_ne]; exact h0
  have e2 : (c == 2) = false := by rw [beq_eq_false_iff_ne]; exact h2
  have e3 : (c == 3) = false := by rw [beq_eq_false_iff_ne]; exact h3
  have e1 : (c == 1) = false := by rw [beq_eq_false_iff_ne]; exact h1
  have e4 : (c == 4) = false := by rw [beq_eq_false_iff_ne]; exact h4
  obtain ⟨V0, hV0⟩ : ∃ V, V = mg0.vals := ⟨_, rfl⟩
  have HL_V0 : Hid (V0.length = 4) := Lib.hid (by rw [hV0]; rfl)
  have hz0 : V0.toArray = #[.int .i64 0, .int .i64 0, .int .u32 0, .string ⟨#[]⟩] := by rw [hV0]; rfl
  have HK1 : Hid (Kp w w.heap.size [(w.heap.size, 24, V0)] (w.alloc (.cells V0.toArray 24))) := Lib.hid ((Kp.start w).new 24 V0)
  clear hV0
  generalize hw1 : w.alloc (.cells V0.toArray 24) = w1 at *
  rw [hz0] at hw1
  go_enter Tryd.func28, Tryd.ntmps28
  go_upto_region 1 with (fail)
  clear hw1 hz0
  have hkc := HK1.out.hd
  have htf := hkc.there 4 (by have := HL_V0.out; simp; omega)
  have HIN : Hid ((Tryd.prog.info? 24).map (·.size) = some ([.int .i64 0, .int .i64 0, .int .u32 0, .string ⟨#[]⟩] : List Value).length) := Lib.hid (Tryd.infoMg (⟨0, 0, 0, ⟨#[]⟩⟩ : Mg))
  go_wp2_with (((with_reducible (change wpList _ _ _ _ _ _)); ((refine wpList_store_mid rfl 24 _ _ rfl (w.heap.size) 0 ([.int .i64 0, .int .i64 0, .int .u32 0, .string ⟨#[]⟩] : List Value).toArray rfl rfl htf (by simpa using HIN.out) (by simp [Value.oneCell']) ?_))))
  have hk5 := Bk.sets [.int .i64 0, .int .i64 0, .int .u32 0, .string ⟨#[]⟩] 0 _ _ hkc
  rw [puts_whole V0.toArray [.int .i64 0, .int .i64 0, .int .u32 0, .string ⟨#[]⟩] (by have := HL_V0.out; simp; omega)] at hk5
  refine bodyPost_ret (v := .tuple #[.agg ([.int .i64 0, .int .i64 0, .int .u32 0, .string ⟨#[]⟩] : List Value).toArray, .bool false]) ?_ rfl ?_
  · exact results_cell2 rfl rfl rfl (run_loadVar_mid _ (w.heap.size) 0 24 [.int .i64 0, .int .i64 0, .int .u32 0, .string ⟨#[]⟩] _ hk5.range Tryd.underlying24 rfl HIN.out)
  · rw [HS.out]
    exact ⟨rfl, below_sets _ (by omega) 0 _ HK1.out.2.1⟩
theorem un4_any (c : Int) (w : World) : Calls Tryd.prog 28 #[.int .i64 c] w fun e w' => e = .returned (.tuple #[.agg (unr4 c).1.vals.toArray, .bool (unr4 c).2]) ∧ Below w.heap.size w w' := by
  by_cases h0 : c = 0
  · exact un4_c0 c w h0
  by_cases h2 : c = 2
  · exact un4_c2 c w h2
  by_cases h3 : c = 3
  · exact un4_c3 c w h3
  by_cases h1 : c = 1
  · exact un4_c1 c w h1
  by_cases h4 : c = 4
  · exact un4_c4 c w h4
  exact un4_no c w h0 h2 h3 h1 h4
end Go.Proofs.YtnehabpdpkjaeaaDoor
