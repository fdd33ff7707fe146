/-
  Proved here: the law IcmpmapPlateau answers true.
  Conditions: none.
-/
import Derived.Test.YtnehabpdpkjaeaaDoorAwk14
namespace Go.Proofs.YtnehabpdpkjaeaaDoor
open Go.RowKit

set_option maxRecDepth 100000 in
set_option maxHeartbeats 4000000 in
theorem plat_law_syy (a b : Int) (w : World) (hm : Hm w) (hs : b < a) (d1 : plat a < a) (d2 : plat (plat a) < plat a) : Calls Tryd.prog 8 #[.int .i64 a, .int .i64 b] w (fun e w' => e = .returned (.bool true) ∧ Below w.heap.size w w') := by
  have HMB : Hid (∀ W, Below w.heap.size w W → Hm W) := Lib.hid (fun W hW => hm.below hW)
  have h1 : plat b ≤ plat a := plat_up (by omega)
  obtain ⟨h2, h3, h4⟩ := plat_in a
  obtain ⟨_, _, h5⟩ := plat_in (plat a)
  have h6 := plat_next a
  have CA := Lib.hid (fun (W : World) (hW : Below w.heap.size w W) => have hmW := HMB.out W hW; pplat_any b W)
  have CB := Lib.hid (fun (W : World) (hW : Below w.heap.size w W) => have hmW := HMB.out W hW; pplat_any a W)
  have CC := Lib.hid (fun (W : World) (hW : Below w.heap.size w W) => have hmW := HMB.out W hW; pplat_any (plat a) W)
  have CD : Hid (∀ W, Below w.heap.size w W → Calls Tryd.prog 14 #[.int .i64 (plat a + 1)] W fun e w' => e = .returned (.int .i64 (plat a)) ∧ Below W.heap.size W w') := Lib.hid (fun W hW => by have hmW := HMB.out W hW; have h := pplat_any (plat a + 1) W; rw [h6] at h; exact h)
  clear h6
  generalize plat (plat a) = z at *
  generalize plat b = x at *
  generalize plat a = y at *
  have kw : IntKind.i64.wrap (y + 1) = y + 1 := IntWalk.i64_in _ (by omega)
  have HK1 := Lib.hid (Kp.start w)
  obtain ⟨w1, hw1⟩ : ∃ w1, w1 = w := ⟨_, rfl⟩
  subst hw1
  go_enter Tryd.func8, Tryd.ntmps8
  go_wp2_with (fail)
  refine (awake14_true _ (HMB.out _ HK1.out.2.1)).mono ?_
  rintro e w2 ⟨rfl, bb⟩
  have HK2 := Lib.hid (HK1.out.below bb (Nat.le_refl _))
  clear bb HK1
  go_upto_region 5 with (fail)
  go_wp2_with (fail)
  refine (CA.out _ HK2.out.2.1).mono ?_
  rintro e w3 ⟨rfl, bb⟩
  have HK3 := Lib.hid (HK2.out.below bb (Nat.le_refl _))
  clear bb HK2
  go_wp2_with (fail)
  refine (CB.out _ HK3.out.2.1).mono ?_
  rintro e w4 ⟨rfl, bb⟩
  have HK4 := Lib.hid (HK3.out.below bb (Nat.le_refl _))
  clear bb HK3
  go_wp2_with (fail)
  refine (CC.out _ HK4.out.2.1).mono ?_
  rintro e w5 ⟨rfl, bb⟩
  have HK5 := Lib.hid (HK4.out.below bb (Nat.le_refl _))
  clear bb HK4
  go_wp2_with (fail)
  refine (CD.out _ HK5.out.2.1).mono ?_
  rintro e w6 ⟨rfl, bb⟩
  have HK6 := Lib.hid (HK5.out.below bb (Nat.le_refl _))
  clear bb HK5
  go_wp2_with (fail)
  go_ret
  refine ⟨?_, HK6.out.2.1⟩
  first | rfl | (simp; done) | (simp; omega)
set_option maxRecDepth 100000 in
set_option maxHeartbeats 4000000 in
theorem plat_law_syn (a b : Int) (w : World) (hm : Hm w) (hs : b < a) (d1 : plat a < a) (d2 : ¬ plat (plat a) < plat a) : Calls Tryd.prog 8 #[.int .i64 a, .int .i64 b] w (fun e w' => e = .returned (.bool true) ∧ Below w.heap.size w w') := by
  have HMB : Hid (∀ W, Below w.heap.size w W → Hm W) := Lib.hid (fun W hW => hm.below hW)
  have h1 : plat b ≤ plat a := plat_up (by omega)
  obtain ⟨h2, h3, h4⟩ := plat_in a
  obtain ⟨_, _, h5⟩ := plat_in (plat a)
  have h6 := plat_next a
  have CA := Lib.hid (fun (W : World) (hW : Below w.heap.size w W) => have hmW := HMB.out W hW; pplat_any b W)
  have CB := Lib.hid (fun (W : World) (hW : Below w.heap.size w W) => have hmW := HMB.out W hW; pplat_any a W)
  have CC := Lib.hid (fun (W : World) (hW : Below w.heap.size w W) => have hmW := HMB.out W hW; pplat_any (plat a) W)
  have CD : Hid (∀ W, Below w.heap.size w W → Calls Tryd.prog 14 #[.int .i64 (plat a + 1)] W fun e w' => e = .returned (.int .i64 (plat a)) ∧ Below W.heap.size W w') := Lib.hid (fun W hW => by have hmW := HMB.out W hW; have h := pplat_any (plat a + 1) W; rw [h6] at h; exact h)
  clear h6
  generalize plat (plat a) = z at *
  generalize plat b = x at *
  generalize plat a = y at *
  have kw : IntKind.i64.wrap (y + 1) = y + 1 := IntWalk.i64_in _ (by omega)
  have HK1 := Lib.hid (Kp.start w)
  have e2 : (y == 68) = true := by rw [beq_iff_eq]; omega
  obtain ⟨w1, hw1⟩ : ∃ w1, w1 = w := ⟨_, rfl⟩
  subst hw1
  go_enter Tryd.func8, Tryd.ntmps8
  go_wp2_with (fail)
  refine (awake14_true _ (HMB.out _ HK1.out.2.1)).mono ?_
  rintro e w2 ⟨rfl, bb⟩
  have HK2 := Lib.hid (HK1.out.below bb (Nat.le_refl _))
  clear bb HK1
  go_upto_region 5 with (fail)
  go_wp2_with (fail)
  refine (CA.out _ HK2.out.2.1).mono ?_
  rintro e w3 ⟨rfl, bb⟩
  have HK3 := Lib.hid (HK2.out.below bb (Nat.le_refl _))
  clear bb HK2
  go_wp2_with (fail)
  refine (CB.out _ HK3.out.2.1).mono ?_
  rintro e w4 ⟨rfl, bb⟩
  have HK4 := Lib.hid (HK3.out.below bb (Nat.le_refl _))
  clear bb HK3
  go_wp2_with (fail)
  refine (CC.out _ HK4.out.2.1).mono ?_
  rintro e w5 ⟨rfl, bb⟩
  have HK5 := Lib.hid (HK4.out.below bb (Nat.le_refl _))
  clear bb HK4
  go_wp2_with (fail)
  refine (CD.out _ HK5.out.2.1).mono ?_
  rintro e w6 ⟨rfl, bb⟩
  have HK6 := Lib.hid (HK5.out.below bb (Nat.le_refl _))
  clear bb HK5
  go_wp2_with (fail)
  go_ret
  refine ⟨?_, HK6.out.2.1⟩
  first | rfl | (simp; done) | (simp; omega)
theorem plat_law_sny (a b : Int) (w : World) (hm : Hm w) (d1 : ¬ plat a < a) (d2 : plat (plat a) < plat a) : Calls Tryd.prog 8 #[.int .i64 a, .int .i64 b] w (fun e w' => e = .returned (.bool true) ∧ Below w.heap.size w w') := by
  have HMB : Hid (∀ W, Below w.heap.size w W → Hm W) := Lib.hid (fun W hW => hm.below hW)
  have := plat_in a
  have := plat_in (plat a)
  omega
set_option maxRecDepth 100000 in
set_option maxHeartbeats 4000000 in
theorem plat_law_snn (a b : Int) (w : World) (hm : Hm w) (hs : b < a) (d1 : ¬ plat a < a) (d2 : ¬ plat (plat a) < plat a) : Calls Tryd.prog 8 #[.int .i64 a, .int .i64 b] w (fun e w' => e = .returned (.bool true) ∧ Below w.heap.size w w') := by
  have HMB : Hid (∀ W, Below w.heap.size w W → Hm W) := Lib.hid (fun W hW => hm.below hW)
  have h1 : plat b ≤ plat a := plat_up (by omega)
  obtain ⟨h2, h3, h4⟩ := plat_in a
  obtain ⟨_, _, h5⟩ := plat_in (plat a)
  have h6 := plat_next a
  have CA := Lib.hid (fun (W : World) (hW : Below w.heap.size w W) => have hmW := HMB.out W hW; pplat_any b W)
  have CB := Lib.hid (fun (W : World) (hW : Below w.heap.size w W) => have hmW := HMB.out W hW; pplat_any a W)
  have CC := Lib.hid (fun (W : World) (hW : Below w.heap.size w W) => have hmW := HMB.out W hW; pplat_any (plat a) W)
  have CD : Hid (∀ W, Below w.heap.size w W → Calls Tryd.prog 14 #[.int .i64 (plat a + 1)] W fun e w' => e = .returned (.int .i64 (plat a)) ∧ Below W.heap.size W w') := Lib.hid (fun W hW => by have hmW := HMB.out W hW; have h := pplat_any (plat a + 1) W; rw [h6] at h; exact h)
  clear h6
  generalize plat (plat a) = z at *
  generalize plat b = x at *
  generalize plat a = y at *
  have kw : IntKind.i64.wrap (y + 1) = y + 1 := IntWalk.i64_in _ (by omega)
  have HK1 := Lib.hid (Kp.start w)
  have e1 : (y == 68) = true := by rw [beq_iff_eq]; omega
  obtain ⟨w1, hw1⟩ : ∃ w1, w1 = w := ⟨_, rfl⟩
  subst hw1
  go_enter Tryd.func8, Tryd.ntmps8
  go_wp2_with (fail)
  refine (awake14_true _ (HMB.out _ HK1.out.2.1)).mono ?_
  rintro e w2 ⟨rfl, bb⟩
  have HK2 := Lib.hid (HK1.out.below bb (Nat.le_refl _))
  clear bb HK1
  go_upto_region 5 with (fail)
  go_wp2_with (fail)
  refine (CA.out _ HK2.out.2.1).mono ?_
  rintro e w3 ⟨rfl, bb⟩
  have HK3 := Lib.hid (HK2.out.below bb (Nat.le_refl _))
  clear bb HK2
  go_wp2_with (fail)
  refine (CB.out _ HK3.out.2.1).mono ?_
  rintro e w4 ⟨rfl, bb⟩
  have HK4 := Lib.hid (HK3.out.below bb (Nat.le_refl _))
  clear bb HK3
  go_wp2_with (fail)
  refine (CC.out _ HK4.out.2.1).mono ?_
  rintro e w5 ⟨rfl, bb⟩
  have HK5 := Lib.hid (HK4.out.below bb (Nat.le_refl _))
  clear bb HK4
  go_wp2_with (fail)
  refine (CD.out _ HK5.out.2.1).mono ?_
  rintro e w6 ⟨rfl, bb⟩
  have HK6 := Lib.hid (HK5.out.below bb (Nat.le_refl _))
  clear bb HK5
  go_wp2_with (fail)
  go_ret
  refine ⟨?_, HK6.out.2.1⟩
  first | rfl | (simp; done) | (simp; omega)
set_option maxRecDepth 100000 in
set_option maxHeartbeats 4000000 in
theorem plat_law_nyy (a b : Int) (w : World) (hm : Hm w) (hs : ¬ b < a) (d1 : plat b < b) (d2 : plat (plat b) < plat b) : Calls Tryd.prog 8 #[.int .i64 a, .int .i64 b] w (fun e w' => e = .returned (.bool true) ∧ Below w.heap.size w w') := by
  have HMB : Hid (∀ W, Below w.heap.size w W → Hm W) := Lib.hid (fun W hW => hm.below hW)
  have h1 : plat a ≤ plat b := plat_up (by omega)
  obtain ⟨h2, h3, h4⟩ := plat_in b
  obtain ⟨_, _, h5⟩ := plat_in (plat b)
  have h6 := plat_next b
  have CA := Lib.hid (fun (W : World) (hW : Below w.heap.size w W) => have hmW := HMB.out W hW; pplat_any a W)
  have CB := Lib.hid (fun (W : World) (hW : Below w.heap.size w W) => have hmW := HMB.out W hW; pplat_any b W)
  have CC := Lib.hid (fun (W : World) (hW : Below w.heap.size w W) => have hmW := HMB.out W hW; pplat_any (plat b) W)
  have CD : Hid (∀ W, Below w.heap.size w W → Calls Tryd.prog 14 #[.int .i64 (plat b + 1)] W fun e w' => e = .returned (.int .i64 (plat b)) ∧ Below W.heap.size W w') := Lib.hid (fun W hW => by have hmW := HMB.out W hW; have h := pplat_any (plat b + 1) W; rw [h6] at h; exact h)
  clear h6
  generalize plat (plat b) = z at *
  generalize plat a = x at *
  generalize plat b = y at *
  have kw : IntKind.i64.wrap (y + 1) = y + 1 := IntWalk.i64_in _ (by omega)
  have HK1 := Lib.hid (Kp.start w)
  obtain ⟨w1, hw1⟩ : ∃ w1, w1 = w := ⟨_, rfl⟩
  subst hw1
  go_enter Tryd.func8, Tryd.ntmps8
  go_wp2_with (fail)
  refine (awake14_true _ (HMB.out _ HK1.out.2.1)).mono ?_
  rintro e w2 ⟨rfl, bb⟩
  have HK2 := Lib.hid (HK1.out.below bb (Nat.le_refl _))
  clear bb HK1
  go_upto_region 5 with (fail)
  go_wp2_with (fail)
  refine (CA.out _ HK2.out.2.1).mono ?_
  rintro e w3 ⟨rfl, bb⟩
  have HK3 := Lib.hid (HK2.out.below bb (Nat.le_refl _))
  clear bb HK2
  go_wp2_with (fail)
  refine (CB.out _ HK3.out.2.1).mono ?_
  rintro e w4 ⟨rfl, bb⟩
  have HK4 := Lib.hid (HK3.out.below bb (Nat.le_refl _))
  clear bb HK3
  go_wp2_with (fail)
  refine (CC.out _ HK4.out.2.1).mono ?_
  rintro e w5 ⟨rfl, bb⟩
  have HK5 := Lib.hid (HK4.out.below bb (Nat.le_refl _))
  clear bb HK4
  go_wp2_with (fail)
  refine (CD.out _ HK5.out.2.1).mono ?_
  rintro e w6 ⟨rfl, bb⟩
  have HK6 := Lib.hid (HK5.out.below bb (Nat.le_refl _))
  clear bb HK5
  go_wp2_with (fail)
  go_ret
  refine ⟨?_, HK6.out.2.1⟩
  first | rfl | (simp; done) | (simp; omega)
set_option maxRecDepth 100000 in
set_option maxHeartbeats 4000000 in
theorem plat_law_nyn (a b : Int) (w : World) (hm : Hm w) (hs : ¬ b < a) (d1 : plat b < b) (d2 : ¬ plat (plat b) < plat b) : Calls Tryd.prog 8 #[.int .i64 a, .int .i64 b] w (fun e w' => e = .returned (.bool true) ∧ Below w.heap.size w w') := by
  have HMB : Hid (∀ W, Below w.heap.size w W → Hm W) := Lib.hid (fun W hW => hm.below hW)
  have h1 : plat a ≤ plat b := plat_up (by omega)
  obtain ⟨h2, h3, h4⟩ := plat_in b
  obtain ⟨_, _, h5⟩ := plat_in (plat b)
  have h6 := plat_next b
  have CA := Lib.hid (fun (W : World) (hW : Below w.heap.size w W) => have hmW := HMB.out W hW; pplat_any a W)
  have CB := Lib.hid (fun (W : World) (hW : Below w.heap.size w W) => have hmW := HMB.out W hW; pplat_any b W)
  have CC := Lib.hid (fun (W : World) (hW : Below w.heap.size w W) => have hmW := HMB.out W hW; pplat_any (plat b) W)
  have CD : Hid (∀ W, Below w.heap.size w W → Calls Tryd.prog 14 #[.int .i64 (plat b + 1)] W fun e w' => e = .returned (.int .i64 (plat b)) ∧ Below W.heap.size W w') := Lib.hid (fun W hW => by have hmW := HMB.out W hW; have h := pplat_any (plat b + 1) W; rw [h6] at h; exact h)
  clear h6
  generalize plat (plat b) = z at *
  generalize plat a = x at *
  generalize plat b = y at *
  have kw : IntKind.i64.wrap (y + 1) = y + 1 := IntWalk.i64_in _ (by omega)
  have HK1 := Lib.hid (Kp.start w)
  have e2 : (y == 68) = true := by rw [beq_iff_eq]; omega
  obtain ⟨w1, hw1⟩ : ∃ w1, w1 = w := ⟨_, rfl⟩
  subst hw1
  go_enter Tryd.func8, Tryd.ntmps8
  go_wp2_with (fail)
  refine (awake14_true _ (HMB.out _ HK1.out.2.1)).mono ?_
  rintro e w2 ⟨rfl, bb⟩
  have HK2 := Lib.hid (HK1.out.below bb (Nat.le_refl _))
  clear bb HK1
  go_upto_region 5 with (fail)
  go_wp2_with (fail)
  refine (CA.out _ HK2.out.2.1).mono ?_
  rintro e w3 ⟨rfl, bb⟩
  have HK3 := Lib.hid (HK2.out.below bb (Nat.le_refl _))
  clear bb HK2
  go_wp2_with (fail)
  refine (CB.out _ HK3.out.2.1).mono ?_
  rintro e w4 ⟨rfl, bb⟩
  have HK4 := Lib.hid (HK3.out.below bb (Nat.le_refl _))
  clear bb HK3
  go_wp2_with (fail)
  refine (CC.out _ HK4.out.2.1).mono ?_
  rintro e w5 ⟨rfl, bb⟩
  have HK5 := Lib.hid (HK4.out.below bb (Nat.le_refl _))
  clear bb HK4
  go_wp2_with (fail)
  refine (CD.out _ HK5.out.2.1).mono ?_
  rintro e w6 ⟨rfl, bb⟩
  have HK6 := Lib.hid (HK5.out.below bb (Nat.le_refl _))
  clear bb HK5
  go_wp2_with (fail)
  go_ret
  refine ⟨?_, HK6.out.2.1⟩
  first | rfl | (simp; done) | (simp; omega)
theorem plat_law_nny (a b : Int) (w : World) (hm : Hm w) (d1 : ¬ plat b < b) (d2 : plat (plat b) < plat b) : Calls Tryd.prog 8 #[.int .i64 a, .int .i64 b] w (fun e w' => e = .returned (.bool true) ∧ Below w.heap.size w w') := by
  have HMB : Hid (∀ W, Below w.heap.size w W → Hm W) := Lib.hid (fun W hW => hm.below hW)
  have := plat_in b
  have := plat_in (plat b)
  omega
set_option maxRecDepth 100000 in
set_option maxHeartbeats 4000000 in
theorem plat_law_nnn (a b : Int) (w : World) (hm : Hm w) (hs : ¬ b < a) (d1 : ¬ plat b < b) (d2 : ¬ plat (plat b) < plat b) : Calls Tryd.prog 8 #[.int .i64 a, .int .i64 b] w (fun e w' => e = .returned (.bool true) ∧ Below w.heap.size w w') := by
  have HMB : Hid (∀ W, Below w.heap.size w W → Hm W) := Lib.hid (fun W hW => hm.below hW)
  have h1 : plat a ≤ plat b := plat_up (by omega)
  obtain ⟨h2, h3, h4⟩ := plat_in b
  obtain ⟨_, _, h5⟩ := plat_in (plat b)
  have h6 := plat_next b
  have CA := Lib.hid (fun (W : World) (hW : Below w.heap.size w W) => have hmW := HMB.out W hW; pplat_any a W)
  have CB := Lib.hid (fun (W : World) (hW : Below w.heap.size w W) => have hmW := HMB.out W hW; pplat_any b W)
  have CC := Lib.hid (fun (W : World) (hW : Below w.heap.size w W) => have hmW := HMB.out W hW; pplat_any (plat b) W)
  have CD : Hid (∀ W, Below w.heap.size w W → Calls Tryd.prog 14 #[.int .i64 (plat b + 1)] W fun e w' => e = .returned (.int .i64 (plat b)) ∧ Below W.heap.size W w') := Lib.hid (fun W hW => by have hmW := HMB.out W hW; have h := pplat_any (plat b + 1) W; rw [h6] at h; exact h)
  clear h6
  generalize plat (plat b) = z at *
  generalize plat a = x at *
  generalize plat b = y at *
  have kw : IntKind.i64.wrap (y + 1) = y + 1 := IntWalk.i64_in _ (by omega)
  have HK1 := Lib.hid (Kp.start w)
  have e1 : (y == 68) = true := by rw [beq_iff_eq]; omega
  obtain ⟨w1, hw1⟩ : ∃ w1, w1 = w := ⟨_, rfl⟩
  subst hw1
  go_enter Tryd.func8, Tryd.ntmps8
  go_wp2_with (fail)
  refine (awake14_true _ (HMB.out _ HK1.out.2.1)).mono ?_
  rintro e w2 ⟨rfl, bb⟩
  have HK2 := Lib.hid (HK1.out.below bb (Nat.le_refl _))
  clear bb HK1
  go_upto_region 5 with (fail)
  go_wp2_with (fail)
  refine (CA.out _ HK2.out.2.1).mono ?_
  rintro e w3 ⟨rfl, bb⟩
  have HK3 := Lib.hid (HK2.out.below bb (Nat.le_refl _))
  clear bb HK2
  go_wp2_with (fail)
  refine (CB.out _ HK3.out.2.1).mono ?_
  rintro e w4 ⟨rfl, bb⟩
  have HK4 := Lib.hid (HK3.out.below bb (Nat.le_refl _))
  clear bb HK3
  go_wp2_with (fail)
  refine (CC.out _ HK4.out.2.1).mono ?_
  rintro e w5 ⟨rfl, bb⟩
  have HK5 := Lib.hid (HK4.out.below bb (Nat.le_refl _))
  clear bb HK4
  go_wp2_with (fail)
  refine (CD.out _ HK5.out.2.1).mono ?_
  rintro e w6 ⟨rfl, bb⟩
  have HK6 := Lib.hid (HK5.out.below bb (Nat.le_refl _))
  clear bb HK5
  go_wp2_with (fail)
  go_ret
  refine ⟨?_, HK6.out.2.1⟩
  first | rfl | (simp; done) | (simp; omega)
theorem icmpmapPlateau_any (a b : Int) (w : World) (hm : Hm w) : Calls Tryd.prog 8 #[.int .i64 a, .int .i64 b] w (fun e w' => e = .returned (.bool true) ∧ Below w.heap.size w w') := by
  by_cases hs : b < a
  · by_cases d1 : plat a < a
    · by_cases d2 : plat (plat a) < plat a
      · exact plat_law_syy a b w hm hs d1 d2
      · exact plat_law_syn a b w hm hs d1 d2
    · by_cases d2 : plat (plat a) < plat a
      · exact plat_law_sny a b w hm d1 d2
      · exact plat_law_snn a b w hm hs d1 d2
  · by_cases d1 : plat b < b
    · by_cases d2 : plat (plat b) < plat b
      · exact plat_law_nyy a b w hm hs d1 d2
      · exact plat_law_nyn a b w hm hs d1 d2
    · by_cases d2 : plat (plat b) < plat b
      · exact plat_law_nny a b w hm d1 d2
      · exact plat_law_nnn a b w hm hs d1 d2
end Go.Proofs.YtnehabpdpkjaeaaDoor
