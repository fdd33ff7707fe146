/-
  Proved here: the law EamKnown answers true.
  Conditions: the program's lists of martian addresses stand.
-/
import Derived.Test.YtchdagdmbjpmcaaDoorGd
import Derived.Test.YtchdagdmbjpmcaaDoorOpn
namespace Go.Proofs.YtchdagdmbjpmcaaDoor
open Go.RowKit

def onesL (k : Nat) : Kv := (List.range k).map fun i => oneP (UInt8.ofNat i)
theorem onesL_ok (k : Nat) : okPs (onesL k) := fun p hp => by
  obtain ⟨i, _, rfl⟩ := List.mem_map.1 hp
  exact oneP_ok _
theorem ones_add : ∀ k : Fin 16, addE (onesL k.val) (oneP (UInt8.ofNat k.val)) = 0 := by decide +kernel
theorem ones_succ (k : Nat) : onesL k ++ [oneP (UInt8.ofNat k)] = onesL (k + 1) := by unfold onesL; rw [List.range_succ, List.map_append]; rfl
theorem ones_full : addE (onesL 16) (oneP 16) = 6 := by decide +kernel
theorem kn_none : sixI [oneP 1] (oneP 2).1 = false := by decide +kernel
theorem kn_there : addE [oneP 1] ((oneP 1).1, (oneP 2).2) = 5 := by decide +kernel
theorem kn_range : addE [oneP 1] ([127, 0, 0, 1], (oneP 3).2) = 13 := by decide +kernel
theorem kn_drop : dropE [oneP 1] (oneP 1).1 = 0 := by decide +kernel
theorem kn_dropl : dropL [oneP 1] (oneP 1).1 = [] := by decide +kernel
theorem kn_twice : newE [oneP 1, oneP 2, oneP 1] = 5 := by decide +kernel
theorem Tryd.bLo (W : World) : (Instr.build 36 #[(0, .int .u8 127), (1, .int .u8 0), (2, .int .u8 0), (3, .int .u8 1)]).run Tryd.prog W = .ok (.agg (bu [127, 0, 0, 1]).toArray) W := by kernel_rfl
theorem Tryd.bsKn (W : World) : (Instr.buildSlice 40 3 #[(0, .agg (prv (oneP 1)).toArray), (1, .agg (prv (oneP 2)).toArray), (2, .agg (prv (oneP 1)).toArray)]).run Tryd.prog W = .ok (.slice (some ⟨W.heap.size, 0, none⟩) 3 3) (W.alloc (.cells (prV [oneP 1, oneP 2, oneP 1]).toArray 38)) := by kernel_rfl
theorem one_at (k : Nat) (hk : k < 256) (W : World) : Calls Tryd.prog 15 #[.int .u8 (k : Int)] W fun e w' => e = .returned (.agg (prv (oneP (UInt8.ofNat k))).toArray) ∧ Below W.heap.size W w' := by
  have h := one_any (UInt8.ofNat k) W
  rwa [show ((UInt8.ofNat k).toNat : Int) = (k : Int) by rw [UInt8.toNat_ofNat', Nat.mod_eq_of_lt hk]] at h
set_option maxRecDepth 100000 in
set_option maxHeartbeats 8000000 in
theorem eamKnown_any (w : World) (hm : Hm w) :
    Calls Tryd.prog 4 #[] w fun e w' => e = .returned (.bool true) ∧ Below w.heap.size w w' := by
  have C0 : Hid (∀ W, Calls Tryd.prog 15 #[.int .u8 0] W fun e w' => e = .returned (.agg (prv (oneP 0)).toArray) ∧ Below W.heap.size W w') := Lib.hid (fun W => one_any 0 W)
  have C1 : Hid (∀ W, Calls Tryd.prog 15 #[.int .u8 1] W fun e w' => e = .returned (.agg (prv (oneP 1)).toArray) ∧ Below W.heap.size W w') := Lib.hid (fun W => one_any 1 W)
  have C2 : Hid (∀ W, Calls Tryd.prog 15 #[.int .u8 2] W fun e w' => e = .returned (.agg (prv (oneP 2)).toArray) ∧ Below W.heap.size W w') := Lib.hid (fun W => one_any 2 W)
  have C3 : Hid (∀ W, Calls Tryd.prog 15 #[.int .u8 3] W fun e w' => e = .returned (.agg (prv (oneP 3)).toArray) ∧ Below W.heap.size W w') := Lib.hid (fun W => one_any 3 W)
  have C16 : Hid (∀ W, Calls Tryd.prog 15 #[.int .u8 16] W fun e w' => e = .returned (.agg (prv (oneP 16)).toArray) ∧ Below W.heap.size W w') := Lib.hid (fun W => one_any 16 W)
  have C99 : Hid (∀ W, Calls Tryd.prog 15 #[.int .u8 99] W fun e w' => e = .returned (.agg (prv (oneP 99)).toArray) ∧ Below W.heap.size W w') := Lib.hid (fun W => one_any 99 W)
  have HM : Hid (∀ W, Below w.heap.size w W → Hm W) := Lib.hid (fun W hW => hm.below hW)
  have CA : Hid (∀ W, Below w.heap.size w W → Calls Tryd.prog 21 #[] W fun e w' => e = .returned (.bool true) ∧ Below W.heap.size W w') := Lib.hid (fun W hW => awake_true W (hm.below hW))
  have HBS := Lib.hid (bslice_one (oneP 1) (oneP_ok 1))
  have HB3 := Lib.hid Tryd.bsKn
  have HLo := Lib.hid Tryd.bLo
  have HF1 := Lib.hid (field_f (oneP 1) (oneP_ok 1))
  have HF2 := Lib.hid (field_f (oneP 2) (oneP_ok 2))
  have HX2 := Lib.hid (field_x (oneP 2) (oneP_ok 2))
  have HX3 := Lib.hid (field_x (oneP 3) (oneP_ok 3))
  have HPa := Lib.hid (fun W => build_pair ((oneP 1).1, (oneP 2).2) ⟨rfl, rfl⟩ W)
  have HPb := Lib.hid (fun W => build_pair ([127, 0, 0, 1], (oneP 3).2) ⟨rfl, rfl⟩ W)
  have HQ := Lib.hid (fun W => eqPr (oneP 0) (oneP 0) (oneP_ok 0) (oneP_ok 0) W)
  rw [show decide (oneP 0 = oneP 0) = true by simp] at HQ
  have HI_VS : Hid ((Tryd.prog.info? 23).map (·.size) = some (bu (sixA [oneP 1] (oneP 2).1)).length) := Lib.hid (Tryd.infoU6 _ (lkv_len (n := 16) (by intro x hx; rw [List.mem_singleton.1 hx]; rfl) _))
  have HO_VS : Hid ((bu (sixA [oneP 1] (oneP 2).1)).toArray.all (·.oneCell') = true) := Lib.hid (bu_one _)
  have HL_VS : Hid ((bu (sixA [oneP 1] (oneP 2).1)).length = 16) := Lib.hid (by rw [bu_len]; exact lkv_len (n := 16) (by intro x hx; rw [List.mem_singleton.1 hx]; rfl) _)
  have HI_PV99 : Hid ((Tryd.prog.info? 38).map (·.size) = some (prv (oneP 99)).length) := Lib.hid (Tryd.infoP _ (oneP_ok 99))
  have HO_PV99 : Hid ((prv (oneP 99)).toArray.all (·.oneCell') = true) := Lib.hid (prv_ones _)
  have HL_PV99 : Hid ((prv (oneP 99)).length = 20) := Lib.hid (prv_len (oneP_ok 99))
  have HI_PV0 : Hid ((Tryd.prog.info? 38).map (·.size) = some (prv (oneP 0)).length) := Lib.hid (Tryd.infoP _ (oneP_ok 0))
  have HO_PV0 : Hid ((prv (oneP 0)).toArray.all (·.oneCell') = true) := Lib.hid (prv_ones _)
  have HL_PV0 : Hid ((prv (oneP 0)).length = 20) := Lib.hid (prv_len (oneP_ok 0))
  have CN : Hid (∀ W g, Hm W → g < W.heap.size → Bk W g 38 (prv (oneP 1)).toArray → Calls Tryd.prog 14 #[.slice (some ⟨g, 0, none⟩) 1 1] W fun e w' => Below W.heap.size W w' ∧ e = .returned (.tuple #[.pointer (some ⟨W.heap.size, 0, none⟩), .int .i64 0]) ∧ Tb w' W.heap.size [oneP 1]) := Lib.hid (fun W g hmW hlt hB => by
    refine (new_any (.slice (some ⟨g, 0, none⟩) 1 1) [oneP 1] W (.inr ⟨_, 1, rfl, Nat.le_refl _, .inr ⟨g, 0, rfl, hlt, by rw [prV_one]; exact hB.range⟩⟩) (okPs_one (oneP_ok 1)) (by simp) hmW).mono ?_
    rintro e w' ⟨h1, ⟨_, h2, h3⟩ | ⟨h2, _⟩⟩
    · exact ⟨h1, h2, by rw [(one_mart 1 aw_mart).2] at h3; exact h3⟩
    · exact absurd (one_mart 1 aw_mart).1 h2)
  have CN3 : Hid (∀ W g, Hm W → g < W.heap.size → Bk W g 38 (prV [oneP 1, oneP 2, oneP 1]).toArray → Calls Tryd.prog 14 #[.slice (some ⟨g, 0, none⟩) 3 3] W fun e w' => Below W.heap.size W w' ∧ e = .returned (.tuple #[.pointer none, .int .i64 5])) := Lib.hid (fun W g hmW hlt hB => by
    refine (new_any (.slice (some ⟨g, 0, none⟩) 3 3) [oneP 1, oneP 2, oneP 1] W (.inr ⟨_, 3, rfl, Nat.le_refl _, .inr ⟨g, 0, rfl, hlt, hB.range⟩⟩) (by intro q hq; simp at hq; rcases hq with rfl | rfl | rfl <;> exact oneP_ok _) (by simp) hmW).mono ?_
    rintro e w' ⟨h1, ⟨h2, _⟩ | ⟨_, h3⟩⟩
    · rw [kn_twice] at h2; cases h2
    · rw [kn_twice] at h3; exact ⟨h1, h3⟩)
  have C6 : Hid (∀ W b, Tb W b [oneP 1] → Calls Tryd.prog 16 #[.pointer (some ⟨b, 0, none⟩), .agg (bu (oneP 2).1).toArray] W fun e w' => e = .returned (.tuple #[.agg (bu (sixA [oneP 1] (oneP 2).1)).toArray, .bool false]) ∧ Below W.heap.size W w') := Lib.hid (fun W b hT => by
    have h := six_any b [oneP 1] (oneP 2).1 W hT rfl
    rwa [kn_none] at h)
  have CTa : Hid (∀ W b, Tb W b [oneP 1] → Hm W → Calls Tryd.prog 17 #[.pointer (some ⟨b, 0, none⟩), .agg (prv ((oneP 1).1, (oneP 2).2)).toArray] W fun e w' => e = .returned (.int .i64 5) ∧ Tb w' b [oneP 1] ∧ W.grownBy w' (some b)) := Lib.hid (fun W b hT hm => by
    have h := add_any b [oneP 1] ((oneP 1).1, (oneP 2).2) W hT ⟨rfl, rfl⟩ hm
    have e : addL [oneP 1] ((oneP 1).1, (oneP 2).2) = [oneP 1] := by unfold addL; rw [kn_there]; rfl
    rwa [kn_there, e] at h)
  have CTb : Hid (∀ W b, Tb W b [oneP 1] → Hm W → Calls Tryd.prog 17 #[.pointer (some ⟨b, 0, none⟩), .agg (prv ([127, 0, 0, 1], (oneP 3).2)).toArray] W fun e w' => e = .returned (.int .i64 13) ∧ Tb w' b [oneP 1] ∧ W.grownBy w' (some b)) := Lib.hid (fun W b hT hm => by
    have h := add_any b [oneP 1] ([127, 0, 0, 1], (oneP 3).2) W hT ⟨rfl, rfl⟩ hm
    have e : addL [oneP 1] ([127, 0, 0, 1], (oneP 3).2) = [oneP 1] := by unfold addL; rw [kn_range]; rfl
    rwa [kn_range, e] at h)
  have CD : Hid (∀ W b, Tb W b [oneP 1] → Calls Tryd.prog 18 #[.pointer (some ⟨b, 0, none⟩), .agg (bu (oneP 1).1).toArray] W fun e w' => e = .returned (.int .i64 0) ∧ Tb w' b [] ∧ W.grownBy w' (some b)) := Lib.hid (fun W b hT => by
    have h := drop_any b [oneP 1] (oneP 1).1 W hT rfl
    rwa [kn_drop, kn_dropl] at h)
  have CL : Hid (∀ W b, Tb W b [] → Calls Tryd.prog 19 #[.pointer (some ⟨b, 0, none⟩)] W fun e w' => e = .returned (.int .i64 0) ∧ W = w') := Lib.hid (fun W b hT => len_any b [] W hT)
  have CTo : Hid (∀ W b (k : Nat), k < 16 → Tb W b (onesL k) → Hm W → Calls Tryd.prog 17 #[.pointer (some ⟨b, 0, none⟩), .agg (prv (oneP (UInt8.ofNat k))).toArray] W fun e w' => e = .returned (.int .i64 0) ∧ Tb w' b (onesL (k + 1)) ∧ W.grownBy w' (some b)) := Lib.hid (fun W b k hk hT hm => by
    have h := add_any b (onesL k) (oneP (UInt8.ofNat k)) W hT (oneP_ok _) hm
    have e := ones_add ⟨k, hk⟩
    rwa [addL_ok e, e, ones_succ] at h)
  have CTf : Hid (∀ W b, Tb W b (onesL 16) → Hm W → Calls Tryd.prog 17 #[.pointer (some ⟨b, 0, none⟩), .agg (prv (oneP 16)).toArray] W fun e w' => e = .returned (.int .i64 6) ∧ Tb w' b (onesL 16) ∧ W.grownBy w' (some b)) := Lib.hid (fun W b hT hm => by
    have h := add_any b (onesL 16) (oneP 16) W hT (oneP_ok _) hm
    have e : addL (onesL 16) (oneP 16) = onesL 16 := by unfold addL; rw [ones_full]; rfl
    rwa [ones_full, e] at h)
  have CI : Hid (∀ W b, Tb W b (onesL 16) → Calls Tryd.prog 20 #[.pointer (some ⟨b, 0, none⟩)] W fun e w' => ∃ g cap cur, e = .returned (.slice (some ⟨g, 0, none⟩) 16 cap) ∧ W.heap.size ≤ g ∧ Bk w' g 38 cur ∧ 320 ≤ cur.size ∧ 16 ≤ cap ∧ w'.rangeAt g 0 (prv (oneP 0)) ∧ Below W.heap.size W w') := Lib.hid (fun W b hT => by
    refine (all_any b (onesL 16) W hT).mono ?_
    rintro e w' ⟨u, rfl, hu, hb⟩
    have hr := own_rs hu
    obtain ⟨_, ⟨_, h0⟩ | ⟨g, cap, cur, rfl, h1, h2, h3, _, h5, _⟩⟩ := hu
    · have h0' : (16 : Nat) = 0 := h0
      omega
    · have h3' : 16 ≤ cap := h3
      refine ⟨g, cap, cur, rfl, h1, h2, by omega, h3', ?_, hb⟩
      obtain ⟨_, _, hsh, _, hS⟩ := hr.shape
      obtain ⟨b', o', e, _, hr'⟩ := hS 0 (by decide)
      cases hsh
      cases e
      exact range_el hr' (onesL_ok 16) 0 (by decide))
  clear hm
  generalize bu (sixA [oneP 1] (oneP 2).1) = VS at *
  generalize prv ((oneP 1).1, (oneP 2).2) = PVa at *
  generalize prv ([127, 0, 0, 1], (oneP 3).2) = PVb at *
  generalize bu (oneP 1).1 = VF1 at *
  generalize bu (oneP 2).1 = VF2 at *
  generalize bu (oneP 2).2 = VX2 at *
  generalize bu (oneP 3).2 = VX3 at *
  generalize bu [127, 0, 0, 1] = VLo at *
  generalize prV [oneP 1, oneP 2, oneP 1] = PW at *
  generalize prv (oneP 0) = PV0 at *
  generalize prv (oneP 1) = PV1 at *
  generalize prv (oneP 2) = PV2 at *
  generalize prv (oneP 3) = PV3 at *
  generalize prv (oneP 16) = PV16 at *
  generalize prv (oneP 99) = PV99 at *
  go_enter Tryd.func4, Tryd.ntmps4
  go_wp2_with fail
  refine (C1.out _).mono ?_
  rintro e w1 ⟨rfl, hb1⟩
  have HB1 := Lib.hid hb1
  clear hb1
  have HBs := Lib.hid (bk_new w1 38 PV1.toArray)
  have HW2 : Hid (Below w.heap.size w (w1.alloc (.cells PV1.toArray 38))) := Lib.hid (HB1.out.alloc HB1.out.size _)
  have HLt := Lib.hid HBs.out.lt
  go_wp2_with (((with_reducible (change wpList _ _ _ _ _ _)); (refine wpList_bslice rfl rfl (by simp only [List.map_toArray]; rfl) (HBS.out _) ?_)))
  clear HB1
  generalize w1.alloc (.cells PV1.toArray 38) = w2 at *
  generalize w1.heap.size = g at *
  refine (CN.out _ _ (HM.out _ HW2.out) HLt.out HBs.out).mono ?_
  rintro e w3 ⟨hb3, rfl, hT3⟩
  have HK3 : Hid (Kp w w.heap.size [] w3) := Lib.hid ⟨fun x hx => (by cases hx), HW2.out.trans (hb3.mono HW2.out.size), Nat.le_trans HW2.out.size hb3.size⟩
  have HT3 := Lib.hid hT3
  have HZ : Hid (w.heap.size ≤ w2.heap.size) := Lib.hid HW2.out.size
  clear hb3 hT3 HBs HW2 HLt CN HBS
  generalize w2.heap.size = b at *
  go_wp2_with (fail)
  refine (C2.out _).mono ?_
  rintro e w4 ⟨rfl, bb⟩
  have HK4 := Lib.hid (HK3.out.below bb (Nat.le_refl _))
  have HT4 := Lib.hid (HT3.out.below bb)
  clear bb HK3 HT3
  go_wp2_with (((with_reducible (change wpList _ _ _ _ _ _)); ((refine Great.wpList_readTo rfl _ rfl (.agg VF2.toArray) (exec_field rfl (HF2.out _)) ?_))))
  refine (C6.out _ _ HT4.out).mono ?_
  rintro e w5 ⟨rfl, bb⟩
  have HK5 := Lib.hid (HK4.out.below bb (Nat.le_refl _))
  have HT5 := Lib.hid (HT4.out.below bb)
  clear bb HK4 HT4
  have ht := (bk_new w5 23 ([.int .u8 0, .int .u8 0, .int .u8 0, .int .u8 0, .int .u8 0, .int .u8 0, .int .u8 0, .int .u8 0, .int .u8 0, .int .u8 0, .int .u8 0, .int .u8 0, .int .u8 0, .int .u8 0, .int .u8 0, .int .u8 0] : List Value).toArray).there VS.toArray.size (by have := HL_VS.out; simp; omega)
  go_upto_region 3 with (((with_reducible (change wpList _ _ _ _ _ _)); ((refine wpList_store_mid rfl 23 _ _ rfl w5.heap.size 0 VS.toArray rfl rfl ht (by simpa using HI_VS.out) HO_VS.out ?_))))
  have hW := below_sets VS (Nat.le_refl w5.heap.size) 0 _ ((Below.refl _ w5).alloc (Nat.le_refl _) (.cells ([.int .u8 0, .int .u8 0, .int .u8 0, .int .u8 0, .int .u8 0, .int .u8 0, .int .u8 0, .int .u8 0, .int .u8 0, .int .u8 0, .int .u8 0, .int .u8 0, .int .u8 0, .int .u8 0, .int .u8 0, .int .u8 0] : List Value).toArray 23))
  have HK6 := Lib.hid (HK5.out.below hW (Nat.le_refl _))
  have HT6 := Lib.hid (HT5.out.below hW)
  clear ht hW HK5 HT5
  generalize (w5.alloc (.cells ([.int .u8 0, .int .u8 0, .int .u8 0, .int .u8 0, .int .u8 0, .int .u8 0, .int .u8 0, .int .u8 0, .int .u8 0, .int .u8 0, .int .u8 0, .int .u8 0, .int .u8 0, .int .u8 0, .int .u8 0, .int .u8 0] : List Value).toArray 23)).setCells w5.heap.size 0 VS = w6 at *
  generalize w5.heap.size = g3 at *
  go_wp2_with (fail)
  refine (C1.out _).mono ?_
  rintro e w7 ⟨rfl, bb⟩
  have HK7 := Lib.hid (HK6.out.below bb (Nat.le_refl _))
  have HT7 := Lib.hid (HT6.out.below bb)
  clear bb HK6 HT6
  go_wp2_with (((with_reducible (change wpList _ _ _ _ _ _)); ((refine Great.wpList_readTo rfl _ rfl (.agg VF1.toArray) (exec_field rfl (HF1.out _)) ?_))))
  refine (C2.out _).mono ?_
  rintro e w8 ⟨rfl, bb⟩
  have HK8 := Lib.hid (HK7.out.below bb (Nat.le_refl _))
  have HT8 := Lib.hid (HT7.out.below bb)
  clear bb HK7 HT7
  go_wp2_with (((with_reducible (change wpList _ _ _ _ _ _)); (first | (refine Great.wpList_readTo rfl _ rfl (.agg VX2.toArray) (exec_field rfl (HX2.out _)) ?_) | (refine Great.wpList_readTo rfl _ rfl (.agg PVa.toArray) (run_exec rfl (by simp only [List.map_toArray]; rfl) (HPa.out _)) ?_))))
  refine (CTa.out _ _ HT8.out (HM.out _ HK8.out.2.1)).mono ?_
  rintro e w9 ⟨rfl, ht, hg⟩
  have HK9 := Lib.hid (HK8.out.grown hg (fun y hy => (by cases hy)) (fun j hj => by cases hj; exact HZ.out))
  have HT9 := Lib.hid ht
  clear ht hg HK8 HT8
  go_wp2_with (((with_reducible (change wpList _ _ _ _ _ _)); ((refine Great.wpList_readTo rfl _ rfl (.agg VLo.toArray) (run_exec rfl (by simp only [List.map_toArray]; rfl) (HLo.out _)) ?_))))
  refine (C3.out _).mono ?_
  rintro e w10 ⟨rfl, bb⟩
  have HK10 := Lib.hid (HK9.out.below bb (Nat.le_refl _))
  have HT10 := Lib.hid (HT9.out.below bb)
  clear bb HK9 HT9
  go_wp2_with (((with_reducible (change wpList _ _ _ _ _ _)); (first | (refine Great.wpList_readTo rfl _ rfl (.agg VX3.toArray) (exec_field rfl (HX3.out _)) ?_) | (refine Great.wpList_readTo rfl _ rfl (.agg PVb.toArray) (run_exec rfl (by simp only [List.map_toArray]; rfl) (HPb.out _)) ?_))))
  refine (CTb.out _ _ HT10.out (HM.out _ HK10.out.2.1)).mono ?_
  rintro e w11 ⟨rfl, ht, hg⟩
  have HK11 := Lib.hid (HK10.out.grown hg (fun y hy => (by cases hy)) (fun j hj => by cases hj; exact HZ.out))
  have HT11 := Lib.hid ht
  clear ht hg HK10 HT10
  go_wp2_with (fail)
  refine (C1.out _).mono ?_
  rintro e w12 ⟨rfl, bb⟩
  have HK12 := Lib.hid (HK11.out.below bb (Nat.le_refl _))
  have HT12 := Lib.hid (HT11.out.below bb)
  clear bb HK11 HT11
  go_wp2_with (((with_reducible (change wpList _ _ _ _ _ _)); ((refine Great.wpList_readTo rfl _ rfl (.agg VF1.toArray) (exec_field rfl (HF1.out _)) ?_))))
  refine (CD.out _ _ HT12.out).mono ?_
  rintro e w13 ⟨rfl, ht, hg⟩
  have HK13 := Lib.hid (HK12.out.grown hg (fun y hy => (by cases hy)) (fun j hj => by cases hj; exact HZ.out))
  have HT13 := Lib.hid ht
  clear ht hg HK12 HT12
  go_wp2_with (fail)
  refine (CL.out _ _ HT13.out).mono ?_
  rintro e w0 ⟨rfl, rfl⟩
  go_wp2_with (fail)
  clear C6 CTa CTb CD CL HF1 HF2 HX2 HX3 HPa HPb HLo C3
  go_loopw [9] (fun i wr => ∃ k : Nat, k ≤ 16 ∧ i = .int .u8 k ∧ Tb wr b (onesL k) ∧ Kp w w.heap.size [] wr) (fun i _ => 16 - (intOf i).toNat)
  case atStart => exact ⟨0, Nat.zero_le _, rfl, HT13.out, HK13.out⟩
  case round =>
    obtain ⟨k, hk, rfl, ht, hkp⟩ := hrel
    have HKr := Lib.hid hkp
    have HTr := Lib.hid ht
    clear ht hkp
    by_cases hlt : k < 16
    · have hk2 : (k : Int) < 16 := by omega
      have CO := Lib.hid (one_at k (by omega))
      go_wp2_with fail
      refine (CO.out _).mono ?_
      rintro e w5 ⟨rfl, bb⟩
      have HK5 := Lib.hid (HKr.out.below bb (Nat.le_refl _))
      have HT5 := Lib.hid (HTr.out.below bb)
      have CT := Lib.hid (CTo.out w5 b k hlt HT5.out (HM.out _ HK5.out.2.1))
      clear bb
      generalize prv (oneP (UInt8.ofNat k)) = PVk at *
      go_wp2_with fail
      refine (CT.out).mono ?_
      rintro e w6 ⟨rfl, ht, hg⟩
      have HK6 := Lib.hid (HK5.out.grown hg (fun y hy => (by cases hy)) (fun j hj => by cases hj; exact HZ.out))
      have HT6 := Lib.hid ht
      clear ht hg
      go_wp2_with fail
      go_roundw
      case rel => exact ⟨k + 1, hlt, by go_num, HT6.out, HK6.out⟩
      case measure => simp [intOf]; omega
    · obtain rfl : k = 16 := by omega
      have HK30 := HKr
      have HT30 := HTr
      clear HKr HTr CTo
      go_wp2_with (fail)
      refine (C16.out _).mono ?_
      rintro e w31 ⟨rfl, bb⟩
      have HK31 := Lib.hid (HK30.out.below bb (Nat.le_refl _))
      have HT31 := Lib.hid (HT30.out.below bb)
      clear bb HK30 HT30
      go_wp2_with (fail)
      refine (CTf.out _ _ HT31.out (HM.out _ HK31.out.2.1)).mono ?_
      rintro e w32 ⟨rfl, ht, hg⟩
      have HK32 := Lib.hid (HK31.out.grown hg (fun y hy => (by cases hy)) (fun j hj => by cases hj; exact HZ.out))
      have HT32 := Lib.hid ht
      clear ht hg HK31 HT31
      go_wp2_with (fail)
      refine (CI.out _ _ HT32.out).mono ?_
      rintro e w40 ⟨ga, ca, cur, rfl, hga, hbk, hsz, hca, _, bb⟩
      have HBk := Lib.hid hbk
      have HBA := Lib.hid bb
      have HGa := Lib.hid hga
      clear bb hbk hga
      go_wp2_with (fail)
      refine (C99.out _).mono ?_
      rintro e w41 ⟨rfl, bb⟩
      have HBk := Lib.hid (HBk.out.below bb HBk.out.lt)
      have HBA := Lib.hid (HBA.out.trans (bb.mono HBA.out.size))
      clear bb
      have ht := HBk.out.there PV99.toArray.size (by have := HL_PV99.out; simp; omega)
      go_upto_region 17 with (((with_reducible (change wpList _ _ _ _ _ _)); ((refine wpList_store_mid rfl 38 _ _ rfl ga 0 PV99.toArray rfl rfl ht (by simpa using HI_PV99.out) HO_PV99.out ?_))))
      have hW := below_sets PV99 HGa.out 0 _ HBA.out
      have HK42 := Lib.hid (HK32.out.below hW (Nat.le_refl _))
      have HT42 := Lib.hid (HT32.out.below hW)
      clear ht hW HK32 HT32 HBk HBA HGa
      generalize w41.setCells ga 0 PV99 = w42 at *
      go_wp2_with (fail)
      refine (CI.out _ _ HT42.out).mono ?_
      rintro e w43 ⟨gb, cb, cur2, rfl, hgb, hbk, hsz2, hcb, hr0, bb⟩
      have HK43 := Lib.hid (HK42.out.below bb (Nat.le_refl _))
      have HR0 : Hid (∀ W, Below w43.heap.size w43 W → W.rangeAt gb 0 PV0) := Lib.hid (fun W hW => range_below hr0 hbk.lt hW)
      have HS43 := Lib.hid (Below.refl w43.heap.size w43)
      clear bb hbk hgb hr0 HK42 HT42
      go_wp2_with (fail)
      refine (C1.out _).mono ?_
      rintro e w44 ⟨rfl, bb⟩
      have HS44 := Lib.hid (HS43.out.trans (bb.mono HS43.out.size))
      clear bb HS43
      go_wp2_with (fail)
      refine (C2.out _).mono ?_
      rintro e w45 ⟨rfl, bb⟩
      have HS45 := Lib.hid (HS44.out.trans (bb.mono HS44.out.size))
      clear bb HS44
      go_wp2_with (fail)
      refine (C1.out _).mono ?_
      rintro e w46 ⟨rfl, bb⟩
      have HS46 := Lib.hid (HS45.out.trans (bb.mono HS45.out.size))
      clear bb HS45
      have HBs := Lib.hid (bk_new w46 38 PW.toArray)
      have HW : Hid (Below w43.heap.size w43 (w46.alloc (.cells PW.toArray 38))) := Lib.hid (HS46.out.alloc HS46.out.size _)
      have HLt := Lib.hid HBs.out.lt
      go_wp2_with (((with_reducible (change wpList _ _ _ _ _ _)); (refine wpList_bslice rfl rfl (by simp only [List.map_toArray]; rfl) (HB3.out _) ?_)))
      clear HS46
      generalize w46.alloc (.cells PW.toArray 38) = w50 at *
      generalize w46.heap.size = gs at *
      have HX : Hid (∀ W, Below w43.heap.size w43 W → Below w.heap.size w W) := Lib.hid (fun W hW => HK43.out.2.1.trans (hW.mono HK43.out.2.2))
      refine (CN3.out _ _ (HM.out _ (HX.out _ HW.out)) HLt.out HBs.out).mono ?_
      rintro e w51 ⟨hb, rfl⟩
      have HS51 := Lib.hid (HW.out.trans (hb.mono HW.out.size))
      clear hb HW HLt HBs
      have hq := HQ.out
      go_upto_region 19 with (fail)
      refine wp_region_noPanic ?_
      refine wp_region_held_drew (S := fun W => Below w43.heap.size w43 W) (by kernel_rfl) (HS51.out.drew) (fun hHeld => ?_)
      refine wpAnyH_ready (rs := [0]) (by kernel_rfl) (by simp) ?_
      refine AllReadyH.cons (o := { dst := some 77, op := Op.call { callee := Callee.value (Operand.func 21), args := #[], argTypes := #[] }, type := 4, pos := "law.go:124", after := #[], guard := none }) rfl (fun K hK => ?_) AllReadyH.nil
      go_simp
      ((with_reducible refine (CA.out _ (HX.out _ hHeld)).mono ?_); rintro e w9 ⟨rfl, hb9⟩)
      refine hK.out _ _ (hHeld.trans (hb9.mono hHeld.size)) (fun hHeld => ?_)
      clear hK K
      (try simp only [Act.put, List.setIfInBounds_toArray, List.set_cons_zero, List.set_cons_succ])
      refine wpAnyH_take (i := 1) (oi := { dst := some 78, op := Op.move (Operand.tmp 77), type := 4, pos := "law.go:124", after := #[{ on := 0, ground := Ground.data }, { on := 0, ground := Ground.chain }], guard := none }) (v := ?_) rfl (by kernel_rfl) (by kernel_rfl) (by kernel_rfl) (fun _ _ _ h => h) (Or.inl ⟨by rfl, ?_⟩) (by assumption) ?_
      rotate_left
      · (intro ww hSw; (try dsimp only at hSw); go_simp; try with_reducible rfl)
      (try simp only [Act.put, List.setIfInBounds_toArray, List.set_cons_zero, List.set_cons_succ])
      refine wpAnyH_take (i := 2) (oi := { dst := some 79, op := Op.move (Operand.tmp 4), type := 4, pos := "law.go:124", after := #[{ on := 1, ground := Ground.guard }], guard := some (1, true) }) (v := ?_) rfl (by kernel_rfl) (by kernel_rfl) (by kernel_rfl) (fun _ _ _ h => h) (Or.inl ⟨by rfl, ?_⟩) (by assumption) ?_
      rotate_left
      · (intro ww hSw; (try dsimp only at hSw); go_simp; try with_reducible rfl)
      (try simp only [Act.put, List.setIfInBounds_toArray, List.set_cons_zero, List.set_cons_succ])
      refine wpAnyH_take (i := 3) (oi := { dst := some 80, op := Op.unOp UnOp.not 4 (Operand.tmp 79), type := 4, pos := "law.go:124", after := #[{ on := 2, ground := Ground.data }, { on := 1, ground := Ground.guard }], guard := some (1, true) }) (v := ?_) rfl (by kernel_rfl) (by kernel_rfl) (by kernel_rfl) (fun _ _ _ h => h) (Or.inl ⟨by rfl, ?_⟩) (by assumption) ?_
      rotate_left
      · (intro ww hSw; (try dsimp only at hSw); go_simp; try with_reducible rfl)
      (try simp only [Act.put, List.setIfInBounds_toArray, List.set_cons_zero, List.set_cons_succ])
      refine wpAnyH_take (i := 4) (oi := { dst := some 81, op := Op.pick (Operand.tmp 78) (Operand.tmp 80) (Operand.const (Value.bool false)), type := 4, pos := "law.go:124", after := #[{ on := 1, ground := Ground.data }, { on := 3, ground := Ground.data }], guard := none }) (v := ?_) rfl (by kernel_rfl) (by kernel_rfl) (by kernel_rfl) (fun _ _ _ h => h) (Or.inl ⟨by rfl, ?_⟩) (by assumption) ?_
      rotate_left
      · (intro ww hSw; (try dsimp only at hSw); go_simp; try with_reducible rfl)
      (try simp only [Act.put, List.setIfInBounds_toArray, List.set_cons_zero, List.set_cons_succ])
      refine wpAnyH_take (i := 5) (oi := { dst := some 82, op := Op.move (Operand.tmp 81), type := 4, pos := "law.go:124", after := #[{ on := 4, ground := Ground.data }, { on := 1, ground := Ground.chain }], guard := none }) (v := ?_) rfl (by kernel_rfl) (by kernel_rfl) (by kernel_rfl) (fun _ _ _ h => h) (Or.inl ⟨by rfl, ?_⟩) (by assumption) ?_
      rotate_left
      · (intro ww hSw; (try dsimp only at hSw); go_simp; try with_reducible rfl)
      (try simp only [Act.put, List.setIfInBounds_toArray, List.set_cons_zero, List.set_cons_succ])
      refine wpAnyH_take (i := 6) (oi := { dst := some 83, op := Op.move (Operand.tmp 5), type := 32, pos := "law.go:124", after := #[{ on := 5, ground := Ground.guard }], guard := some (5, true) }) (v := ?_) rfl (by kernel_rfl) (by kernel_rfl) (by kernel_rfl) (fun _ _ _ h => h) (Or.inl ⟨by rfl, ?_⟩) (by assumption) ?_
      rotate_left
      · (intro ww hSw; (try dsimp only at hSw); go_simp; try with_reducible rfl)
      (try simp only [Act.put, List.setIfInBounds_toArray, List.set_cons_zero, List.set_cons_succ])
      refine wpAnyH_take (i := 7) (oi := { dst := some 84, op := Op.binOp BinOp.eql 32 (Operand.tmp 83) (Operand.const (Value.int IntKind.i64 5)) 32, type := 4, pos := "law.go:124", after := #[{ on := 6, ground := Ground.data }, { on := 5, ground := Ground.guard }], guard := some (5, true) }) (v := ?_) rfl (by kernel_rfl) (by kernel_rfl) (by kernel_rfl) (fun _ _ _ h => h) (Or.inl ⟨by rfl, ?_⟩) (by assumption) ?_
      rotate_left
      · (intro ww hSw; (try dsimp only at hSw); go_simp; try with_reducible rfl)
      (try simp only [Act.put, List.setIfInBounds_toArray, List.set_cons_zero, List.set_cons_succ])
      refine wpAnyH_take (i := 8) (oi := { dst := some 85, op := Op.pick (Operand.tmp 82) (Operand.tmp 84) (Operand.const (Value.bool false)), type := 4, pos := "law.go:124", after := #[{ on := 5, ground := Ground.data }, { on := 7, ground := Ground.data }], guard := none }) (v := ?_) rfl (by kernel_rfl) (by kernel_rfl) (by kernel_rfl) (fun _ _ _ h => h) (Or.inl ⟨by rfl, ?_⟩) (by assumption) ?_
      rotate_left
      · (intro ww hSw; (try dsimp only at hSw); go_simp; try with_reducible rfl)
      (try simp only [Act.put, List.setIfInBounds_toArray, List.set_cons_zero, List.set_cons_succ])
      refine wpAnyH_take (i := 9) (oi := { dst := some 86, op := Op.move (Operand.tmp 85), type := 4, pos := "law.go:124", after := #[{ on := 8, ground := Ground.data }, { on := 5, ground := Ground.chain }], guard := none }) (v := ?_) rfl (by kernel_rfl) (by kernel_rfl) (by kernel_rfl) (fun _ _ _ h => h) (Or.inl ⟨by rfl, ?_⟩) (by assumption) ?_
      rotate_left
      · (intro ww hSw; (try dsimp only at hSw); go_simp; try with_reducible rfl)
      (try simp only [Act.put, List.setIfInBounds_toArray, List.set_cons_zero, List.set_cons_succ])
      refine wpAnyH_take (i := 10) (oi := { dst := some 87, op := Op.move (Operand.tmp 6), type := 32, pos := "law.go:124", after := #[{ on := 9, ground := Ground.guard }], guard := some (9, true) }) (v := ?_) rfl (by kernel_rfl) (by kernel_rfl) (by kernel_rfl) (fun _ _ _ h => h) (Or.inl ⟨by rfl, ?_⟩) (by assumption) ?_
      rotate_left
      · (intro ww hSw; (try dsimp only at hSw); go_simp; try with_reducible rfl)
      (try simp only [Act.put, List.setIfInBounds_toArray, List.set_cons_zero, List.set_cons_succ])
      refine wpAnyH_take (i := 11) (oi := { dst := some 88, op := Op.binOp BinOp.eql 32 (Operand.tmp 87) (Operand.const (Value.int IntKind.i64 13)) 32, type := 4, pos := "law.go:124", after := #[{ on := 10, ground := Ground.data }, { on := 9, ground := Ground.guard }], guard := some (9, true) }) (v := ?_) rfl (by kernel_rfl) (by kernel_rfl) (by kernel_rfl) (fun _ _ _ h => h) (Or.inl ⟨by rfl, ?_⟩) (by assumption) ?_
      rotate_left
      · (intro ww hSw; (try dsimp only at hSw); go_simp; try with_reducible rfl)
      (try simp only [Act.put, List.setIfInBounds_toArray, List.set_cons_zero, List.set_cons_succ])
      refine wpAnyH_take (i := 12) (oi := { dst := some 89, op := Op.pick (Operand.tmp 86) (Operand.tmp 88) (Operand.const (Value.bool false)), type := 4, pos := "law.go:124", after := #[{ on := 9, ground := Ground.data }, { on := 11, ground := Ground.data }], guard := none }) (v := ?_) rfl (by kernel_rfl) (by kernel_rfl) (by kernel_rfl) (fun _ _ _ h => h) (Or.inl ⟨by rfl, ?_⟩) (by assumption) ?_
      rotate_left
      · (intro ww hSw; (try dsimp only at hSw); go_simp; try with_reducible rfl)
      (try simp only [Act.put, List.setIfInBounds_toArray, List.set_cons_zero, List.set_cons_succ])
      refine wpAnyH_take (i := 13) (oi := { dst := some 90, op := Op.move (Operand.tmp 89), type := 4, pos := "law.go:124", after := #[{ on := 12, ground := Ground.data }, { on := 9, ground := Ground.chain }], guard := none }) (v := ?_) rfl (by kernel_rfl) (by kernel_rfl) (by kernel_rfl) (fun _ _ _ h => h) (Or.inl ⟨by rfl, ?_⟩) (by assumption) ?_
      rotate_left
      · (intro ww hSw; (try dsimp only at hSw); go_simp; try with_reducible rfl)
      (try simp only [Act.put, List.setIfInBounds_toArray, List.set_cons_zero, List.set_cons_succ])
      refine wpAnyH_take (i := 14) (oi := { dst := some 91, op := Op.move (Operand.tmp 7), type := 32, pos := "law.go:124", after := #[{ on := 13, ground := Ground.guard }], guard := some (13, true) }) (v := ?_) rfl (by kernel_rfl) (by kernel_rfl) (by kernel_rfl) (fun _ _ _ h => h) (Or.inl ⟨by rfl, ?_⟩) (by assumption) ?_
      rotate_left
      · (intro ww hSw; (try dsimp only at hSw); go_simp; try with_reducible rfl)
      (try simp only [Act.put, List.setIfInBounds_toArray, List.set_cons_zero, List.set_cons_succ])
      refine wpAnyH_take (i := 15) (oi := { dst := some 92, op := Op.binOp BinOp.eql 32 (Operand.tmp 91) (Operand.const (Value.int IntKind.i64 0)) 32, type := 4, pos := "law.go:124", after := #[{ on := 14, ground := Ground.data }, { on := 13, ground := Ground.guard }], guard := some (13, true) }) (v := ?_) rfl (by kernel_rfl) (by kernel_rfl) (by kernel_rfl) (fun _ _ _ h => h) (Or.inl ⟨by rfl, ?_⟩) (by assumption) ?_
      rotate_left
      · (intro ww hSw; (try dsimp only at hSw); go_simp; try with_reducible rfl)
      (try simp only [Act.put, List.setIfInBounds_toArray, List.set_cons_zero, List.set_cons_succ])
      refine wpAnyH_take (i := 16) (oi := { dst := some 93, op := Op.pick (Operand.tmp 90) (Operand.tmp 92) (Operand.const (Value.bool false)), type := 4, pos := "law.go:124", after := #[{ on := 13, ground := Ground.data }, { on := 15, ground := Ground.data }], guard := none }) (v := ?_) rfl (by kernel_rfl) (by kernel_rfl) (by kernel_rfl) (fun _ _ _ h => h) (Or.inl ⟨by rfl, ?_⟩) (by assumption) ?_
      rotate_left
      · (intro ww hSw; (try dsimp only at hSw); go_simp; try with_reducible rfl)
      (try simp only [Act.put, List.setIfInBounds_toArray, List.set_cons_zero, List.set_cons_succ])
      refine wpAnyH_take (i := 17) (oi := { dst := some 94, op := Op.move (Operand.tmp 93), type := 4, pos := "law.go:124", after := #[{ on := 16, ground := Ground.data }, { on := 13, ground := Ground.chain }], guard := none }) (v := ?_) rfl (by kernel_rfl) (by kernel_rfl) (by kernel_rfl) (fun _ _ _ h => h) (Or.inl ⟨by rfl, ?_⟩) (by assumption) ?_
      rotate_left
      · (intro ww hSw; (try dsimp only at hSw); go_simp; try with_reducible rfl)
      (try simp only [Act.put, List.setIfInBounds_toArray, List.set_cons_zero, List.set_cons_succ])
      refine wpAnyH_take (i := 18) (oi := { dst := some 95, op := Op.move (Operand.tmp 8), type := 3, pos := "law.go:124", after := #[{ on := 17, ground := Ground.guard }], guard := some (17, true) }) (v := ?_) rfl (by kernel_rfl) (by kernel_rfl) (by kernel_rfl) (fun _ _ _ h => h) (Or.inl ⟨by rfl, ?_⟩) (by assumption) ?_
      rotate_left
      · (intro ww hSw; (try dsimp only at hSw); go_simp; try with_reducible rfl)
      (try simp only [Act.put, List.setIfInBounds_toArray, List.set_cons_zero, List.set_cons_succ])
      refine wpAnyH_take (i := 19) (oi := { dst := some 96, op := Op.binOp BinOp.eql 3 (Operand.tmp 95) (Operand.const (Value.int IntKind.i64 0)) 3, type := 4, pos := "law.go:124", after := #[{ on := 18, ground := Ground.data }, { on := 17, ground := Ground.guard }], guard := some (17, true) }) (v := ?_) rfl (by kernel_rfl) (by kernel_rfl) (by kernel_rfl) (fun _ _ _ h => h) (Or.inl ⟨by rfl, ?_⟩) (by assumption) ?_
      rotate_left
      · (intro ww hSw; (try dsimp only at hSw); go_simp; try with_reducible rfl)
      (try simp only [Act.put, List.setIfInBounds_toArray, List.set_cons_zero, List.set_cons_succ])
      refine wpAnyH_take (i := 20) (oi := { dst := some 97, op := Op.pick (Operand.tmp 94) (Operand.tmp 96) (Operand.const (Value.bool false)), type := 4, pos := "law.go:124", after := #[{ on := 17, ground := Ground.data }, { on := 19, ground := Ground.data }], guard := none }) (v := ?_) rfl (by kernel_rfl) (by kernel_rfl) (by kernel_rfl) (fun _ _ _ h => h) (Or.inl ⟨by rfl, ?_⟩) (by assumption) ?_
      rotate_left
      · (intro ww hSw; (try dsimp only at hSw); go_simp; try with_reducible rfl)
      (try simp only [Act.put, List.setIfInBounds_toArray, List.set_cons_zero, List.set_cons_succ])
      refine wpAnyH_take (i := 21) (oi := { dst := some 98, op := Op.move (Operand.tmp 97), type := 4, pos := "law.go:124", after := #[{ on := 20, ground := Ground.data }, { on := 17, ground := Ground.chain }], guard := none }) (v := ?_) rfl (by kernel_rfl) (by kernel_rfl) (by kernel_rfl) (fun _ _ _ h => h) (Or.inl ⟨by rfl, ?_⟩) (by assumption) ?_
      rotate_left
      · (intro ww hSw; (try dsimp only at hSw); go_simp; try with_reducible rfl)
      (try simp only [Act.put, List.setIfInBounds_toArray, List.set_cons_zero, List.set_cons_succ])
      refine wpAnyH_take (i := 22) (oi := { dst := some 99, op := Op.move (Operand.tmp 10), type := 32, pos := "law.go:124", after := #[{ on := 21, ground := Ground.guard }], guard := some (21, true) }) (v := ?_) rfl (by kernel_rfl) (by kernel_rfl) (by kernel_rfl) (fun _ _ _ h => h) (Or.inl ⟨by rfl, ?_⟩) (by assumption) ?_
      rotate_left
      · (intro ww hSw; (try dsimp only at hSw); go_simp; try with_reducible rfl)
      (try simp only [Act.put, List.setIfInBounds_toArray, List.set_cons_zero, List.set_cons_succ])
      refine wpAnyH_take (i := 23) (oi := { dst := some 100, op := Op.binOp BinOp.eql 32 (Operand.tmp 99) (Operand.const (Value.int IntKind.i64 6)) 32, type := 4, pos := "law.go:124", after := #[{ on := 22, ground := Ground.data }, { on := 21, ground := Ground.guard }], guard := some (21, true) }) (v := ?_) rfl (by kernel_rfl) (by kernel_rfl) (by kernel_rfl) (fun _ _ _ h => h) (Or.inl ⟨by rfl, ?_⟩) (by assumption) ?_
      rotate_left
      · (intro ww hSw; (try dsimp only at hSw); go_simp; try with_reducible rfl)
      (try simp only [Act.put, List.setIfInBounds_toArray, List.set_cons_zero, List.set_cons_succ])
      refine wpAnyH_take (i := 24) (oi := { dst := some 101, op := Op.pick (Operand.tmp 98) (Operand.tmp 100) (Operand.const (Value.bool false)), type := 4, pos := "law.go:124", after := #[{ on := 21, ground := Ground.data }, { on := 23, ground := Ground.data }], guard := none }) (v := ?_) rfl (by kernel_rfl) (by kernel_rfl) (by kernel_rfl) (fun _ _ _ h => h) (Or.inl ⟨by rfl, ?_⟩) (by assumption) ?_
      rotate_left
      · (intro ww hSw; (try dsimp only at hSw); go_simp; try with_reducible rfl)
      (try simp only [Act.put, List.setIfInBounds_toArray, List.set_cons_zero, List.set_cons_succ])
      refine wpAnyH_take (i := 25) (oi := { dst := some 102, op := Op.move (Operand.tmp 101), type := 4, pos := "law.go:124", after := #[{ on := 24, ground := Ground.data }, { on := 21, ground := Ground.chain }], guard := none }) (v := ?_) rfl (by kernel_rfl) (by kernel_rfl) (by kernel_rfl) (fun _ _ _ h => h) (Or.inl ⟨by rfl, ?_⟩) (by assumption) ?_
      rotate_left
      · (intro ww hSw; (try dsimp only at hSw); go_simp; try with_reducible rfl)
      (try simp only [Act.put, List.setIfInBounds_toArray, List.set_cons_zero, List.set_cons_succ])
      refine wpAnyH_take (i := 26) (oi := { dst := some 103, op := Op.move (Operand.tmp 12), type := 40, pos := "law.go:124", after := #[{ on := 25, ground := Ground.guard }], guard := some (25, true) }) (v := ?_) rfl (by kernel_rfl) (by kernel_rfl) (by kernel_rfl) (fun _ _ _ h => h) (Or.inl ⟨by rfl, ?_⟩) (by assumption) ?_
      rotate_left
      · (intro ww hSw; (try dsimp only at hSw); go_simp; try with_reducible rfl)
      (try simp only [Act.put, List.setIfInBounds_toArray, List.set_cons_zero, List.set_cons_succ])
      refine wpAnyH_take (i := 27) (oi := { dst := some 104, op := Op.call { callee := Callee.builtin Builtin.len, args := #[Operand.tmp 103], argTypes := #[40] }, type := 3, pos := "law.go:124", after := #[{ on := 26, ground := Ground.data }, { on := 25, ground := Ground.guard }], guard := some (25, true) }) (v := ?_) rfl (by kernel_rfl) (by kernel_rfl) (by kernel_rfl) (fun _ _ _ h => h) (Or.inl ⟨by rfl, ?_⟩) (by assumption) ?_
      rotate_left
      · (intro ww hSw; (try dsimp only at hSw); go_simp; try with_reducible rfl)
      (try simp only [Act.put, List.setIfInBounds_toArray, List.set_cons_zero, List.set_cons_succ])
      refine wpAnyH_take (i := 28) (oi := { dst := some 105, op := Op.binOp BinOp.eql 3 (Operand.tmp 104) (Operand.const (Value.int IntKind.i64 16)) 3, type := 4, pos := "law.go:124", after := #[{ on := 27, ground := Ground.data }, { on := 25, ground := Ground.guard }], guard := some (25, true) }) (v := ?_) rfl (by kernel_rfl) (by kernel_rfl) (by kernel_rfl) (fun _ _ _ h => h) (Or.inl ⟨by rfl, ?_⟩) (by assumption) ?_
      rotate_left
      · (intro ww hSw; (try dsimp only at hSw); go_simp; try with_reducible rfl)
      (try simp only [Act.put, List.setIfInBounds_toArray, List.set_cons_zero, List.set_cons_succ])
      refine wpAnyH_take (i := 29) (oi := { dst := some 106, op := Op.pick (Operand.tmp 102) (Operand.tmp 105) (Operand.const (Value.bool false)), type := 4, pos := "law.go:124", after := #[{ on := 25, ground := Ground.data }, { on := 28, ground := Ground.data }], guard := none }) (v := ?_) rfl (by kernel_rfl) (by kernel_rfl) (by kernel_rfl) (fun _ _ _ h => h) (Or.inl ⟨by rfl, ?_⟩) (by assumption) ?_
      rotate_left
      · (intro ww hSw; (try dsimp only at hSw); go_simp; try with_reducible rfl)
      (try simp only [Act.put, List.setIfInBounds_toArray, List.set_cons_zero, List.set_cons_succ])
      refine wpAnyH_take (i := 30) (oi := { dst := some 107, op := Op.move (Operand.tmp 106), type := 4, pos := "law.go:124", after := #[{ on := 29, ground := Ground.data }, { on := 25, ground := Ground.chain }], guard := none }) (v := ?_) rfl (by kernel_rfl) (by kernel_rfl) (by kernel_rfl) (fun _ _ _ h => h) (Or.inl ⟨by rfl, ?_⟩) (by assumption) ?_
      rotate_left
      · (intro ww hSw; (try dsimp only at hSw); go_simp; try with_reducible rfl)
      (try simp only [Act.put, List.setIfInBounds_toArray, List.set_cons_zero, List.set_cons_succ])
      refine wpAnyH_take (i := 31) (oi := { dst := some 108, op := Op.move (Operand.tmp 12), type := 40, pos := "law.go:124", after := #[{ on := 30, ground := Ground.guard }], guard := some (30, true) }) (v := ?_) rfl (by kernel_rfl) (by kernel_rfl) (by kernel_rfl) (fun _ _ _ h => h) (Or.inl ⟨by rfl, ?_⟩) (by assumption) ?_
      rotate_left
      · (intro ww hSw; (try dsimp only at hSw); go_simp; try with_reducible rfl)
      (try simp only [Act.put, List.setIfInBounds_toArray, List.set_cons_zero, List.set_cons_succ])
      refine wpAnyH_take (i := 32) (oi := { dst := some 109, op := Op.indexAddr 40 (Operand.tmp 108) (Operand.const (Value.int IntKind.i64 0)), type := 0, pos := "law.go:124", after := #[{ on := 31, ground := Ground.data }, { on := 30, ground := Ground.guard }], guard := some (30, true) }) (v := ?_) rfl (by kernel_rfl) (by kernel_rfl) (by kernel_rfl) (fun _ _ _ h => h) (Or.inl ⟨by rfl, ?_⟩) (by assumption) ?_
      rotate_left
      · (intro ww hSw; (try dsimp only at hSw); go_simp; try with_reducible rfl)
      (try simp only [Act.put, List.setIfInBounds_toArray, List.set_cons_zero, List.set_cons_succ])
      refine wpAnyH_take (i := 33) (oi := { dst := some 110, op := Op.load 38 (Operand.tmp 109), type := 38, pos := "law.go:124", after := #[{ on := 32, ground := Ground.data }, { on := 30, ground := Ground.guard }], guard := some (30, true) }) (v := .agg (PV0).toArray) rfl (by kernel_rfl) (by kernel_rfl) (by kernel_rfl) (fun _ _ _ h => h) (yieldsIf_load_mid (by rfl) _ _ rfl (gb) 0 rfl (PV0) _ (fun ww hSw => HR0.out _ hSw) Tryd.underlying38 rfl HI_PV0.out) (by assumption) ?_
      (try simp only [Act.put, List.setIfInBounds_toArray, List.set_cons_zero, List.set_cons_succ])
      refine wpAnyH_ready (rs := [34]) (by kernel_rfl) (by simp) ?_
      refine AllReadyH.cons (o := { dst := some 111, op := Op.call { callee := Callee.value (Operand.func 15), args := #[Operand.const (Value.int IntKind.u8 0)], argTypes := #[5] }, type := 38, pos := "law.go:124", after := #[{ on := 30, ground := Ground.chain }, { on := 30, ground := Ground.guard }], guard := some (30, true) }) rfl (fun K hK => ?_) AllReadyH.nil
      go_simp
      ((with_reducible refine (C0.out _).mono ?_); rintro e w9 ⟨rfl, hb9⟩)
      refine hK.out _ _ (hHeld.trans (hb9.mono hHeld.size)) (fun hHeld => ?_)
      clear hK K
      (try simp only [Act.put, List.setIfInBounds_toArray, List.set_cons_zero, List.set_cons_succ])
      refine wpAnyH_take (i := 35) (oi := { dst := some 112, op := Op.binOp BinOp.eql 38 (Operand.tmp 110) (Operand.tmp 111) 38, type := 4, pos := "law.go:124", after := #[{ on := 33, ground := Ground.data }, { on := 34, ground := Ground.data }, { on := 30, ground := Ground.guard }], guard := some (30, true) }) (v := .bool true) rfl (by kernel_rfl) (by kernel_rfl) (by kernel_rfl) (fun _ _ _ h => h) (Or.inl ⟨by rfl, (by intro ww hSw; go_simp)⟩) (by assumption) ?_
      (try simp only [Act.put, List.setIfInBounds_toArray, List.set_cons_zero, List.set_cons_succ])
      refine wpAnyH_take (i := 36) (oi := { dst := some 113, op := Op.pick (Operand.tmp 107) (Operand.tmp 112) (Operand.const (Value.bool false)), type := 4, pos := "law.go:124", after := #[{ on := 30, ground := Ground.data }, { on := 35, ground := Ground.data }], guard := none }) (v := ?_) rfl (by kernel_rfl) (by kernel_rfl) (by kernel_rfl) (fun _ _ _ h => h) (Or.inl ⟨by rfl, ?_⟩) (by assumption) ?_
      rotate_left
      · (intro ww hSw; (try dsimp only at hSw); go_simp; try with_reducible rfl)
      (try simp only [Act.put, List.setIfInBounds_toArray, List.set_cons_zero, List.set_cons_succ])
      refine wpAnyH_take (i := 37) (oi := { dst := some 114, op := Op.move (Operand.tmp 113), type := 4, pos := "law.go:124", after := #[{ on := 36, ground := Ground.data }, { on := 34, ground := Ground.chain }], guard := none }) (v := ?_) rfl (by kernel_rfl) (by kernel_rfl) (by kernel_rfl) (fun _ _ _ h => h) (Or.inl ⟨by rfl, ?_⟩) (by assumption) ?_
      rotate_left
      · (intro ww hSw; (try dsimp only at hSw); go_simp; try with_reducible rfl)
      (try simp only [Act.put, List.setIfInBounds_toArray, List.set_cons_zero, List.set_cons_succ])
      refine wpAnyH_take (i := 38) (oi := { dst := some 115, op := Op.move (Operand.tmp 14), type := 32, pos := "law.go:124", after := #[{ on := 37, ground := Ground.guard }], guard := some (37, true) }) (v := ?_) rfl (by kernel_rfl) (by kernel_rfl) (by kernel_rfl) (fun _ _ _ h => h) (Or.inl ⟨by rfl, ?_⟩) (by assumption) ?_
      rotate_left
      · (intro ww hSw; (try dsimp only at hSw); go_simp; try with_reducible rfl)
      (try simp only [Act.put, List.setIfInBounds_toArray, List.set_cons_zero, List.set_cons_succ])
      refine wpAnyH_take (i := 39) (oi := { dst := some 116, op := Op.binOp BinOp.eql 32 (Operand.tmp 115) (Operand.const (Value.int IntKind.i64 5)) 32, type := 4, pos := "law.go:124", after := #[{ on := 38, ground := Ground.data }, { on := 37, ground := Ground.guard }], guard := some (37, true) }) (v := ?_) rfl (by kernel_rfl) (by kernel_rfl) (by kernel_rfl) (fun _ _ _ h => h) (Or.inl ⟨by rfl, ?_⟩) (by assumption) ?_
      rotate_left
      · (intro ww hSw; (try dsimp only at hSw); go_simp; try with_reducible rfl)
      (try simp only [Act.put, List.setIfInBounds_toArray, List.set_cons_zero, List.set_cons_succ])
      refine wpAnyH_take (i := 40) (oi := { dst := some 117, op := Op.pick (Operand.tmp 114) (Operand.tmp 116) (Operand.const (Value.bool false)), type := 4, pos := "law.go:124", after := #[{ on := 37, ground := Ground.data }, { on := 39, ground := Ground.data }], guard := none }) (v := ?_) rfl (by kernel_rfl) (by kernel_rfl) (by kernel_rfl) (fun _ _ _ h => h) (Or.inl ⟨by rfl, ?_⟩) (by assumption) ?_
      rotate_left
      · (intro ww hSw; (try dsimp only at hSw); go_simp; try with_reducible rfl)
      (try simp only [Act.put, List.setIfInBounds_toArray, List.set_cons_zero, List.set_cons_succ])
      refine wpAnyH_take (i := 41) (oi := { dst := some 118, op := Op.move (Operand.tmp 117), type := 4, pos := "law.go:124", after := #[{ on := 40, ground := Ground.data }, { on := 37, ground := Ground.chain }], guard := none }) (v := ?_) rfl (by kernel_rfl) (by kernel_rfl) (by kernel_rfl) (fun _ _ _ h => h) (Or.inl ⟨by rfl, ?_⟩) (by assumption) ?_
      rotate_left
      · (intro ww hSw; (try dsimp only at hSw); go_simp; try with_reducible rfl)
      (try simp only [Act.put, List.setIfInBounds_toArray, List.set_cons_zero, List.set_cons_succ])
      refine wpAnyH_take (i := 42) (oi := { dst := some 119, op := Op.pick (Operand.tmp 118) (Operand.const (Value.bool true)) (Operand.const (Value.bool false)), type := 4, pos := "law.go:124", after := #[{ on := 41, ground := Ground.data }], guard := none }) (v := ?_) rfl (by kernel_rfl) (by kernel_rfl) (by kernel_rfl) (fun _ _ _ h => h) (Or.inl ⟨by rfl, ?_⟩) (by assumption) ?_
      rotate_left
      · (intro ww hSw; (try dsimp only at hSw); go_simp; try with_reducible rfl)
      (try simp only [Act.put, List.setIfInBounds_toArray, List.set_cons_zero, List.set_cons_succ])
      refine wpAnyH_take (i := 43) (oi := { dst := some 0, op := Op.assign (Operand.tmp 119), type := 4, pos := "law.go:124", after := #[{ on := 42, ground := Ground.data }, { on := 41, ground := Ground.chain }, { on := 0, ground := Ground.phase }, { on := 1, ground := Ground.phase }, { on := 2, ground := Ground.phase }, { on := 3, ground := Ground.phase }, { on := 4, ground := Ground.phase }, { on := 5, ground := Ground.phase }, { on := 6, ground := Ground.phase }, { on := 7, ground := Ground.phase }, { on := 8, ground := Ground.phase }, { on := 9, ground := Ground.phase }, { on := 10, ground := Ground.phase }, { on := 11, ground := Ground.phase }, { on := 12, ground := Ground.phase }, { on := 13, ground := Ground.phase }, { on := 14, ground := Ground.phase }, { on := 15, ground := Ground.phase }, { on := 16, ground := Ground.phase }, { on := 17, ground := Ground.phase }, { on := 18, ground := Ground.phase }, { on := 19, ground := Ground.phase }, { on := 20, ground := Ground.phase }, { on := 21, ground := Ground.phase }, { on := 22, ground := Ground.phase }, { on := 23, ground := Ground.phase }, { on := 24, ground := Ground.phase }, { on := 25, ground := Ground.phase }, { on := 26, ground := Ground.phase }, { on := 27, ground := Ground.phase }, { on := 28, ground := Ground.phase }, { on := 29, ground := Ground.phase }, { on := 30, ground := Ground.phase }, { on := 31, ground := Ground.phase }, { on := 32, ground := Ground.phase }, { on := 33, ground := Ground.phase }, { on := 34, ground := Ground.phase }, { on := 35, ground := Ground.phase }, { on := 36, ground := Ground.phase }, { on := 37, ground := Ground.phase }, { on := 38, ground := Ground.phase }, { on := 39, ground := Ground.phase }, { on := 40, ground := Ground.phase }, { on := 41, ground := Ground.phase }, { on := 42, ground := Ground.phase }], guard := none }) (v := ?_) rfl (by kernel_rfl) (by kernel_rfl) (by kernel_rfl) (fun _ _ _ h => h) (Or.inl ⟨by rfl, ?_⟩) (by assumption) ?_
      rotate_left
      · (intro ww hSw; (try dsimp only at hSw); go_simp; try with_reducible rfl)
      (try simp only [Act.put, List.setIfInBounds_toArray, List.set_cons_zero])
      refine wpAnyH_done (by kernel_rfl) ?_ _
      refine NoPanic.normal ?_
      have HEnd := Lib.hid (HX.out _ hHeld)
      clear hHeld hq
      go_wp2_with fail
      go_ret
      exact ⟨rfl, HEnd.out⟩
end Go.Proofs.YtchdagdmbjpmcaaDoor
