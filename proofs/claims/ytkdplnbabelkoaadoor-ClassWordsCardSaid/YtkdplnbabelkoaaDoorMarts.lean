/-
  Proved here: what the program's Martian4, Martian6 and private answer.
  Conditions: the package's lists hold what they are laid with.
-/
import Derived.Test.YtkdplnbabelkoaaDoorHoldp
namespace Go.Proofs.YtkdplnbabelkoaaDoor
open Go.RowKit

theorem rangeAt_below {w w' : World} {b : Nat} {cs : List Value} (h : w.rangeAt b 0 cs) (hb : Below w.heap.size w w') : w'.rangeAt b 0 cs := fun j v hj => (hb.cell (World.block_lt_of_cell? w _ (h j v hj))).trans (h j v hj)
def flatN (l : List Nn) : List Value := l.flatMap Nn.vals
def mL4 : List Nn := [⟨[0, 0, 0, 0], 8⟩, ⟨[127, 0, 0, 0], 8⟩, ⟨[169, 254, 0, 0], 16⟩, ⟨[224, 0, 0, 0], 4⟩, ⟨[240, 0, 0, 0], 4⟩]
def pL4 : List Nn := [⟨[10, 0, 0, 0], 8⟩, ⟨[172, 16, 0, 0], 12⟩, ⟨[192, 168, 0, 0], 16⟩, ⟨[100, 64, 0, 0], 10⟩]
def mL6 : List Nn := [⟨[0, 0, 0, 0, 0, 0, 0, 0, 0, 0, 0, 0, 0, 0, 0, 0], 128⟩, ⟨[0, 0, 0, 0, 0, 0, 0, 0, 0, 0, 0, 0, 0, 0, 0, 1], 128⟩, ⟨[0, 0, 0, 0, 0, 0, 0, 0, 0, 0, 255, 255, 0, 0, 0, 0], 96⟩, ⟨[254, 128, 0, 0, 0, 0, 0, 0, 0, 0, 0, 0, 0, 0, 0, 0], 10⟩, ⟨[255, 0, 0, 0, 0, 0, 0, 0, 0, 0, 0, 0, 0, 0, 0, 0], 8⟩]
def noN : Nn := ⟨[], 0⟩
theorem anyN_next (l : List Nn) (p : Nn → Bool) (k : Nat) (h : k < l.length) : (l.take (k + 1)).any p = ((l.take k).any p || p (l.getD k noN)) := by
  rw [List.take_succ_eq_append_getElem h, List.any_append]
  have e : l.getD k noN = l[k] := by rw [List.getD_eq_getElem?_getD, List.getElem?_eq_getElem h]; rfl
  rw [e]
  simp
theorem anyN_more (l : List Nn) (p : Nn → Bool) (k : Nat) (h : (l.take k).any p = true) : l.any p = true := by
  rw [List.any_eq_true] at *
  obtain ⟨x, hx, h0⟩ := h
  exact ⟨x, List.mem_of_mem_take hx, h0⟩
theorem Tryd.mart4_i0 (W : World) : (Instr.index 86 (.agg (flatN mL4).toArray) (.int .i64 0)).run Tryd.prog W = .ok (.agg (mL4.getD 0 noN).vals.toArray) W := by kernel_rfl
theorem Tryd.mart4_i1 (W : World) : (Instr.index 86 (.agg (flatN mL4).toArray) (.int .i64 1)).run Tryd.prog W = .ok (.agg (mL4.getD 1 noN).vals.toArray) W := by kernel_rfl
theorem Tryd.mart4_i2 (W : World) : (Instr.index 86 (.agg (flatN mL4).toArray) (.int .i64 2)).run Tryd.prog W = .ok (.agg (mL4.getD 2 noN).vals.toArray) W := by kernel_rfl
theorem Tryd.mart4_i3 (W : World) : (Instr.index 86 (.agg (flatN mL4).toArray) (.int .i64 3)).run Tryd.prog W = .ok (.agg (mL4.getD 3 noN).vals.toArray) W := by kernel_rfl
theorem Tryd.mart4_i4 (W : World) : (Instr.index 86 (.agg (flatN mL4).toArray) (.int .i64 4)).run Tryd.prog W = .ok (.agg (mL4.getD 4 noN).vals.toArray) W := by kernel_rfl
theorem Tryd.mart4_info : (Tryd.prog.info? 86).map (·.size) = some (flatN mL4).length := by kernel_rfl
theorem mart4_ix (k : Nat) (h : k < 5) (W : World) : (Instr.index 86 (.agg (flatN mL4).toArray) (.int .i64 (k : Int))).run Tryd.prog W = .ok (.agg (mL4.getD k noN).vals.toArray) W := by
  rcases k with _ | _ | _ | _ | _ | k
  · exact Tryd.mart4_i0 W
  · exact Tryd.mart4_i1 W
  · exact Tryd.mart4_i2 W
  · exact Tryd.mart4_i3 W
  · exact Tryd.mart4_i4 W
  · omega
theorem mart4_len (k : Nat) (h : k < 5) : (mL4.getD k noN).ad.length = 4 := by
  rcases k with _ | _ | _ | _ | _ | k
  · rfl
  · rfl
  · rfl
  · rfl
  · rfl
  · omega
set_option maxRecDepth 100000 in
set_option maxHeartbeats 4000000 in
theorem mart4_any (a : List UInt8) (w : World) (ha : a.length = 4) (hg : w.rangeAt 1 0 (flatN mL4)) :
    Calls Tryd.prog 27 #[.agg (bu a).toArray] w fun e w' => e = .returned (.bool (mL4.any fun p => p.holds a)) ∧ Below w.heap.size w w' := by
  have HIx := Lib.hid mart4_ix
  have HIM := Lib.hid Tryd.mart4_info
  have HNx : Hid (∀ k, k < 5 → (mL4.take (k + 1)).any (fun p => p.holds a) = ((mL4.take k).any (fun p => p.holds a) || (mL4.getD k noN).holds a)) := Lib.hid (fun k hk => anyN_next mL4 _ k hk)
  have HMo := Lib.hid (anyN_more mL4 (fun p => p.holds a))
  have HAll : Hid ((mL4.take 5).any (fun p => p.holds a) = mL4.any fun p => p.holds a) := Lib.hid rfl
  have CH := Lib.hid (fun k (hk : k < 5) W => holds4_any (mL4.getD k noN) a W (mart4_len k hk) ha)
  have HIN := Lib.hid (fun k (hk : k < 5) => Tryd.infoNn4 (mL4.getD k noN) (mart4_len k hk))
  have HON := Lib.hid (fun k => nn_one (mL4.getD k noN))
  have HLN := Lib.hid (fun k (hk : k < 5) => show (mL4.getD k noN).vals.length = 5 by unfold Nn.vals; rw [List.length_append, bu_len, mart4_len k hk]; rfl)
  have HIA : Hid ((Tryd.prog.info? 28).map (·.size) = some (bu a).length) := Lib.hid (Tryd.infoU4 _ ha)
  have HK1 := Lib.hid ((Kp.start w).new 28 (bu a))
  have HRm := Lib.hid (rangeAt_below hg ((Below.refl w.heap.size w).alloc (Nat.le_refl _) (.cells (bu a).toArray 28)))
  obtain ⟨VZ, hVZ⟩ : ∃ VZ, VZ = ([.int .u8 0, .int .u8 0, .int .u8 0, .int .u8 0, .int .i64 0] : List Value) := ⟨_, rfl⟩
  have HLZ : Hid (VZ.length = 5) := Lib.hid (by rw [hVZ]; rfl)
  have HHz : Hid (([.int .u8 0, .int .u8 0, .int .u8 0, .int .u8 0, .int .i64 0] : List Value).toArray = VZ.toArray) := Lib.hid (by rw [hVZ])
  clear ha hg hVZ
  generalize (mL4.any fun p => p.holds a) = R at *
  generalize flatN mL4 = MV at *
  generalize hx : bu a = X at *
  clear hx
  generalize hw1 : w.alloc (.cells X.toArray 28) = w1 at *
  have hrM := HRm.out
  go_enter Tryd.func27, Tryd.ntmps27
  go_upto_region 1 with (fail)
  clear hw1
  go_wp2_with (refine wpList_load_mid rfl 86 _ rfl 1 0 rfl MV _ hrM Tryd.underlying86 rfl HIM.out ?_)
  go_loopw [6] (fun i wr => ∃ k : Nat, k ≤ 5 ∧ i = .int .i64 k ∧ Kp w w.heap.size [(w.heap.size, 28, X)] wr ∧ Hid ((mL4.take k).any (fun p => p.holds a) = false)) (fun i _ => 5 - (intOf i).toNat)
  case atStart => exact ⟨0, Nat.zero_le _, rfl, HK1.out, Lib.hid rfl⟩
  case round =>
    obtain ⟨k, hk, rfl, hK, hJ⟩ := hrel
    have HK := Lib.hid hK
    clear hK HK1 hrM HRm
    by_cases hlt : k < 5
    · have il : ((k : Nat) : Int) < 5 := by omega
      have hix := HIx.out k hlt
      have HN1 := Lib.hid (HNx.out k hlt)
      have CH1 := Lib.hid (CH.out k hlt)
      have HIN1 := Lib.hid (HIN.out k hlt)
      have HON1 := Lib.hid (HON.out k)
      have HLN1 := Lib.hid (HLN.out k hlt)
      have HMo1 := Lib.hid (HMo.out (k + 1))
      generalize (mL4.getD k noN).holds a = D at *
      generalize (mL4.getD k noN).vals = NV at *
      have HKn := Lib.hid (HK.out.put 32 VZ.toArray NV (by rw [HLN1.out, List.size_toArray, HLZ.out]))
      have HT := Lib.hid ((bk_new wr 32 VZ.toArray).there NV.toArray.size (by rw [List.size_toArray, List.size_toArray, HLN1.out, HLZ.out]; exact Nat.le_refl _))
      have hz := HHz.out
      have ht := HT.out
      go_upto_region 4 with (refine wpList_store_mid rfl 32 _ _ rfl wr.heap.size 0 NV.toArray rfl rfl ht (by simpa using HIN1.out) HON1.out ?_)
      clear hz ht HT hix
      generalize (wr.alloc (.cells VZ.toArray 32)).setCells wr.heap.size 0 NV = w5 at *
      generalize wr.heap.size = g5 at *
      have hrN := HKn.out.hd.range
      have hrA := HKn.out.tl.hd.range
      cases D
      · have HJ2 : Hid ((mL4.take (k + 1)).any (fun p => p.holds a) = false) := Lib.hid (by rw [HN1.out, hJ.out]; rfl)
        clear HN1 HMo1 hJ
        go_wp2_with (first | (refine wpList_load_mid rfl 32 _ rfl g5 0 rfl NV _ hrN Tryd.underlying32 rfl HIN1.out ?_) | (refine wpList_load_mid rfl 28 _ rfl w.heap.size 0 rfl X _ hrA Tryd.underlying28 rfl HIA.out ?_) | (go_at_call 23; refine (CH1.out _).mono ?_; rintro e w9 ⟨rfl, hb9⟩; have HK9 := Lib.hid (HKn.out.tl.below hb9 (Nat.le_refl _)); clear hb9 hrN hrA))
        go_roundw
        case rel => exact ⟨k + 1, hlt, by go_num, HK9.out, HJ2⟩
        case measure => simp [intOf]; omega
      · have HX : Hid (R = true) := Lib.hid (HMo1.out (by rw [HN1.out]; simp))
        clear HN1 HMo1 hJ
        go_wp2_with (first | (refine wpList_load_mid rfl 32 _ rfl g5 0 rfl NV _ hrN Tryd.underlying32 rfl HIN1.out ?_) | (refine wpList_load_mid rfl 28 _ rfl w.heap.size 0 rfl X _ hrA Tryd.underlying28 rfl HIA.out ?_) | (go_at_call 23; refine (CH1.out _).mono ?_; rintro e w9 ⟨rfl, hb9⟩; have HK9 := Lib.hid (HKn.out.tl.below hb9 (Nat.le_refl _)); clear hb9 hrN hrA))
        go_ret
        exact ⟨by rw [HX.out]; rfl, HK9.out.2.1⟩
    · obtain rfl : k = 5 := by omega
      have HX : Hid (R = false) := Lib.hid (by rw [← HAll.out, hJ.out])
      clear HAll hJ
      have e44 : ((5 : Nat) : Int) = 5 := rfl
      simp only [e44] at *
      go_wp2_with fail
      go_ret
      exact ⟨by rw [HX.out]; rfl, HK.out.2.1⟩
theorem Tryd.priv_i0 (W : World) : (Instr.index 104 (.agg (flatN pL4).toArray) (.int .i64 0)).run Tryd.prog W = .ok (.agg (pL4.getD 0 noN).vals.toArray) W := by kernel_rfl
theorem Tryd.priv_i1 (W : World) : (Instr.index 104 (.agg (flatN pL4).toArray) (.int .i64 1)).run Tryd.prog W = .ok (.agg (pL4.getD 1 noN).vals.toArray) W := by kernel_rfl
theorem Tryd.priv_i2 (W : World) : (Instr.index 104 (.agg (flatN pL4).toArray) (.int .i64 2)).run Tryd.prog W = .ok (.agg (pL4.getD 2 noN).vals.toArray) W := by kernel_rfl
theorem Tryd.priv_i3 (W : World) : (Instr.index 104 (.agg (flatN pL4).toArray) (.int .i64 3)).run Tryd.prog W = .ok (.agg (pL4.getD 3 noN).vals.toArray) W := by kernel_rfl
theorem Tryd.priv_info : (Tryd.prog.info? 104).map (·.size) = some (flatN pL4).length := by kernel_rfl
theorem priv_ix (k : Nat) (h : k < 4) (W : World) : (Instr.index 104 (.agg (flatN pL4).toArray) (.int .i64 (k : Int))).run Tryd.prog W = .ok (.agg (pL4.getD k noN).vals.toArray) W := by
  rcases k with _ | _ | _ | _ | k
  · exact Tryd.priv_i0 W
  · exact Tryd.priv_i1 W
  · exact Tryd.priv_i2 W
  · exact Tryd.priv_i3 W
  · omega
theorem priv_len (k : Nat) (h : k < 4) : (pL4.getD k noN).ad.length = 4 := by
  rcases k with _ | _ | _ | _ | k
  · rfl
  · rfl
  · rfl
  · rfl
  · omega
set_option maxRecDepth 100000 in
set_option maxHeartbeats 4000000 in
theorem priv_any (a : List UInt8) (w : World) (ha : a.length = 4) (hg : w.rangeAt 3 0 (flatN pL4)) :
    Calls Tryd.prog 50 #[.agg (bu a).toArray] w fun e w' => e = .returned (.bool (pL4.any fun p => p.holds a)) ∧ Below w.heap.size w w' := by
  have HIx := Lib.hid priv_ix
  have HIM := Lib.hid Tryd.priv_info
  have HNx : Hid (∀ k, k < 4 → (pL4.take (k + 1)).any (fun p => p.holds a) = ((pL4.take k).any (fun p => p.holds a) || (pL4.getD k noN).holds a)) := Lib.hid (fun k hk => anyN_next pL4 _ k hk)
  have HMo := Lib.hid (anyN_more pL4 (fun p => p.holds a))
  have HAll : Hid ((pL4.take 4).any (fun p => p.holds a) = pL4.any fun p => p.holds a) := Lib.hid rfl
  have CH := Lib.hid (fun k (hk : k < 4) W => holds4_any (pL4.getD k noN) a W (priv_len k hk) ha)
  have HIN := Lib.hid (fun k (hk : k < 4) => Tryd.infoNn4 (pL4.getD k noN) (priv_len k hk))
  have HON := Lib.hid (fun k => nn_one (pL4.getD k noN))
  have HLN := Lib.hid (fun k (hk : k < 4) => show (pL4.getD k noN).vals.length = 5 by unfold Nn.vals; rw [List.length_append, bu_len, priv_len k hk]; rfl)
  have HIA : Hid ((Tryd.prog.info? 28).map (·.size) = some (bu a).length) := Lib.hid (Tryd.infoU4 _ ha)
  have HK1 := Lib.hid ((Kp.start w).new 28 (bu a))
  have HRm := Lib.hid (rangeAt_below hg ((Below.refl w.heap.size w).alloc (Nat.le_refl _) (.cells (bu a).toArray 28)))
  obtain ⟨VZ, hVZ⟩ : ∃ VZ, VZ = ([.int .u8 0, .int .u8 0, .int .u8 0, .int .u8 0, .int .i64 0] : List Value) := ⟨_, rfl⟩
  have HLZ : Hid (VZ.length = 5) := Lib.hid (by rw [hVZ]; rfl)
  have HHz : Hid (([.int .u8 0, .int .u8 0, .int .u8 0, .int .u8 0, .int .i64 0] : List Value).toArray = VZ.toArray) := Lib.hid (by rw [hVZ])
  clear ha hg hVZ
  generalize (pL4.any fun p => p.holds a) = R at *
  generalize flatN pL4 = MV at *
  generalize hx : bu a = X at *
  clear hx
  generalize hw1 : w.alloc (.cells X.toArray 28) = w1 at *
  have hrM := HRm.out
  go_enter Tryd.func50, Tryd.ntmps50
  go_upto_region 1 with (fail)
  clear hw1
  go_wp2_with (refine wpList_load_mid rfl 104 _ rfl 3 0 rfl MV _ hrM Tryd.underlying104 rfl HIM.out ?_)
  go_loopw [6] (fun i wr => ∃ k : Nat, k ≤ 4 ∧ i = .int .i64 k ∧ Kp w w.heap.size [(w.heap.size, 28, X)] wr ∧ Hid ((pL4.take k).any (fun p => p.holds a) = false)) (fun i _ => 4 - (intOf i).toNat)
  case atStart => exact ⟨0, Nat.zero_le _, rfl, HK1.out, Lib.hid rfl⟩
  case round =>
    obtain ⟨k, hk, rfl, hK, hJ⟩ := hrel
    have HK := Lib.hid hK
    clear hK HK1 hrM HRm
    by_cases hlt : k < 4
    · have il : ((k : Nat) : Int) < 4 := by omega
      have hix := HIx.out k hlt
      have HN1 := Lib.hid (HNx.out k hlt)
      have CH1 := Lib.hid (CH.out k hlt)
      have HIN1 := Lib.hid (HIN.out k hlt)
      have HON1 := Lib.hid (HON.out k)
      have HLN1 := Lib.hid (HLN.out k hlt)
      have HMo1 := Lib.hid (HMo.out (k + 1))
      generalize (pL4.getD k noN).holds a = D at *
      generalize (pL4.getD k noN).vals = NV at *
      have HKn := Lib.hid (HK.out.put 32 VZ.toArray NV (by rw [HLN1.out, List.size_toArray, HLZ.out]))
      have HT := Lib.hid ((bk_new wr 32 VZ.toArray).there NV.toArray.size (by rw [List.size_toArray, List.size_toArray, HLN1.out, HLZ.out]; exact Nat.le_refl _))
      have hz := HHz.out
      have ht := HT.out
      go_upto_region 4 with (refine wpList_store_mid rfl 32 _ _ rfl wr.heap.size 0 NV.toArray rfl rfl ht (by simpa using HIN1.out) HON1.out ?_)
      clear hz ht HT hix
      generalize (wr.alloc (.cells VZ.toArray 32)).setCells wr.heap.size 0 NV = w5 at *
      generalize wr.heap.size = g5 at *
      have hrN := HKn.out.hd.range
      have hrA := HKn.out.tl.hd.range
      cases D
      · have HJ2 : Hid ((pL4.take (k + 1)).any (fun p => p.holds a) = false) := Lib.hid (by rw [HN1.out, hJ.out]; rfl)
        clear HN1 HMo1 hJ
        go_wp2_with (first | (refine wpList_load_mid rfl 32 _ rfl g5 0 rfl NV _ hrN Tryd.underlying32 rfl HIN1.out ?_) | (refine wpList_load_mid rfl 28 _ rfl w.heap.size 0 rfl X _ hrA Tryd.underlying28 rfl HIA.out ?_) | (go_at_call 23; refine (CH1.out _).mono ?_; rintro e w9 ⟨rfl, hb9⟩; have HK9 := Lib.hid (HKn.out.tl.below hb9 (Nat.le_refl _)); clear hb9 hrN hrA))
        go_roundw
        case rel => exact ⟨k + 1, hlt, by go_num, HK9.out, HJ2⟩
        case measure => simp [intOf]; omega
      · have HX : Hid (R = true) := Lib.hid (HMo1.out (by rw [HN1.out]; simp))
        clear HN1 HMo1 hJ
        go_wp2_with (first | (refine wpList_load_mid rfl 32 _ rfl g5 0 rfl NV _ hrN Tryd.underlying32 rfl HIN1.out ?_) | (refine wpList_load_mid rfl 28 _ rfl w.heap.size 0 rfl X _ hrA Tryd.underlying28 rfl HIA.out ?_) | (go_at_call 23; refine (CH1.out _).mono ?_; rintro e w9 ⟨rfl, hb9⟩; have HK9 := Lib.hid (HKn.out.tl.below hb9 (Nat.le_refl _)); clear hb9 hrN hrA))
        go_ret
        exact ⟨by rw [HX.out]; rfl, HK9.out.2.1⟩
    · obtain rfl : k = 4 := by omega
      have HX : Hid (R = false) := Lib.hid (by rw [← HAll.out, hJ.out])
      clear HAll hJ
      have e44 : ((4 : Nat) : Int) = 4 := rfl
      simp only [e44] at *
      go_wp2_with fail
      go_ret
      exact ⟨by rw [HX.out]; rfl, HK.out.2.1⟩
theorem Tryd.mart6_i0 (W : World) : (Instr.index 88 (.agg (flatN mL6).toArray) (.int .i64 0)).run Tryd.prog W = .ok (.agg (mL6.getD 0 noN).vals.toArray) W := by kernel_rfl
theorem Tryd.mart6_i1 (W : World) : (Instr.index 88 (.agg (flatN mL6).toArray) (.int .i64 1)).run Tryd.prog W = .ok (.agg (mL6.getD 1 noN).vals.toArray) W := by kernel_rfl
theorem Tryd.mart6_i2 (W : World) : (Instr.index 88 (.agg (flatN mL6).toArray) (.int .i64 2)).run Tryd.prog W = .ok (.agg (mL6.getD 2 noN).vals.toArray) W := by kernel_rfl
theorem Tryd.mart6_i3 (W : World) : (Instr.index 88 (.agg (flatN mL6).toArray) (.int .i64 3)).run Tryd.prog W = .ok (.agg (mL6.getD 3 noN).vals.toArray) W := by kernel_rfl
theorem Tryd.mart6_i4 (W : World) : (Instr.index 88 (.agg (flatN mL6).toArray) (.int .i64 4)).run Tryd.prog W = .ok (.agg (mL6.getD 4 noN).vals.toArray) W := by kernel_rfl
theorem Tryd.mart6_info : (Tryd.prog.info? 88).map (·.size) = some (flatN mL6).length := by kernel_rfl
theorem mart6_ix (k : Nat) (h : k < 5) (W : World) : (Instr.index 88 (.agg (flatN mL6).toArray) (.int .i64 (k : Int))).run Tryd.prog W = .ok (.agg (mL6.getD k noN).vals.toArray) W := by
  rcases k with _ | _ | _ | _ | _ | k
  · exact Tryd.mart6_i0 W
  · exact Tryd.mart6_i1 W
  · exact Tryd.mart6_i2 W
  · exact Tryd.mart6_i3 W
  · exact Tryd.mart6_i4 W
  · omega
theorem mart6_len (k : Nat) (h : k < 5) : (mL6.getD k noN).ad.length = 16 := by
  rcases k with _ | _ | _ | _ | _ | k
  · rfl
  · rfl
  · rfl
  · rfl
  · rfl
  · omega
set_option maxRecDepth 100000 in
set_option maxHeartbeats 4000000 in
theorem mart6_any (a : List UInt8) (w : World) (ha : a.length = 16) (hg : w.rangeAt 2 0 (flatN mL6)) :
    Calls Tryd.prog 29 #[.agg (bu a).toArray] w fun e w' => e = .returned (.bool (mL6.any fun p => p.holds a)) ∧ Below w.heap.size w w' := by
  have HIx := Lib.hid mart6_ix
  have HIM := Lib.hid Tryd.mart6_info
  have HNx : Hid (∀ k, k < 5 → (mL6.take (k + 1)).any (fun p => p.holds a) = ((mL6.take k).any (fun p => p.holds a) || (mL6.getD k noN).holds a)) := Lib.hid (fun k hk => anyN_next mL6 _ k hk)
  have HMo := Lib.hid (anyN_more mL6 (fun p => p.holds a))
  have HAll : Hid ((mL6.take 5).any (fun p => p.holds a) = mL6.any fun p => p.holds a) := Lib.hid rfl
  have CH := Lib.hid (fun k (hk : k < 5) W => holds6_any (mL6.getD k noN) a W (mart6_len k hk) ha)
  have HIN := Lib.hid (fun k (hk : k < 5) => Tryd.infoNn6 (mL6.getD k noN) (mart6_len k hk))
  have HON := Lib.hid (fun k => nn_one (mL6.getD k noN))
  have HLN := Lib.hid (fun k (hk : k < 5) => show (mL6.getD k noN).vals.length = 17 by unfold Nn.vals; rw [List.length_append, bu_len, mart6_len k hk]; rfl)
  have HIA : Hid ((Tryd.prog.info? 24).map (·.size) = some (bu a).length) := Lib.hid (Tryd.infoU6 _ ha)
  have HK1 := Lib.hid ((Kp.start w).new 24 (bu a))
  have HRm := Lib.hid (rangeAt_below hg ((Below.refl w.heap.size w).alloc (Nat.le_refl _) (.cells (bu a).toArray 24)))
  obtain ⟨VZ, hVZ⟩ : ∃ VZ, VZ = ([.int .u8 0, .int .u8 0, .int .u8 0, .int .u8 0, .int .u8 0, .int .u8 0, .int .u8 0, .int .u8 0, .int .u8 0, .int .u8 0, .int .u8 0, .int .u8 0, .int .u8 0, .int .u8 0, .int .u8 0, .int .u8 0, .int .i64 0] : List Value) := ⟨_, rfl⟩
  have HLZ : Hid (VZ.length = 17) := Lib.hid (by rw [hVZ]; rfl)
  have HHz : Hid (([.int .u8 0, .int .u8 0, .int .u8 0, .int .u8 0, .int .u8 0, .int .u8 0, .int .u8 0, .int .u8 0, .int .u8 0, .int .u8 0, .int .u8 0, .int .u8 0, .int .u8 0, .int .u8 0, .int .u8 0, .int .u8 0, .int .i64 0] : List Value).toArray = VZ.toArray) := Lib.hid (by rw [hVZ])
  clear ha hg hVZ
  generalize (mL6.any fun p => p.holds a) = R at *
  generalize flatN mL6 = MV at *
  generalize hx : bu a = X at *
  clear hx
  generalize hw1 : w.alloc (.cells X.toArray 24) = w1 at *
  have hrM := HRm.out
  go_enter Tryd.func29, Tryd.ntmps29
  go_upto_region 1 with (fail)
  clear hw1
  go_wp2_with (refine wpList_load_mid rfl 88 _ rfl 2 0 rfl MV _ hrM Tryd.underlying88 rfl HIM.out ?_)
  go_loopw [6] (fun i wr => ∃ k : Nat, k ≤ 5 ∧ i = .int .i64 k ∧ Kp w w.heap.size [(w.heap.size, 24, X)] wr ∧ Hid ((mL6.take k).any (fun p => p.holds a) = false)) (fun i _ => 5 - (intOf i).toNat)
  case atStart => exact ⟨0, Nat.zero_le _, rfl, HK1.out, Lib.hid rfl⟩
  case round =>
    obtain ⟨k, hk, rfl, hK, hJ⟩ := hrel
    have HK := Lib.hid hK
    clear hK HK1 hrM HRm
    by_cases hlt : k < 5
    · have il : ((k : Nat) : Int) < 5 := by omega
      have hix := HIx.out k hlt
      have HN1 := Lib.hid (HNx.out k hlt)
      have CH1 := Lib.hid (CH.out k hlt)
      have HIN1 := Lib.hid (HIN.out k hlt)
      have HON1 := Lib.hid (HON.out k)
      have HLN1 := Lib.hid (HLN.out k hlt)
      have HMo1 := Lib.hid (HMo.out (k + 1))
      generalize (mL6.getD k noN).holds a = D at *
      generalize (mL6.getD k noN).vals = NV at *
      have HKn := Lib.hid (HK.out.put 36 VZ.toArray NV (by rw [HLN1.out, List.size_toArray, HLZ.out]))
      have HT := Lib.hid ((bk_new wr 36 VZ.toArray).there NV.toArray.size (by rw [List.size_toArray, List.size_toArray, HLN1.out, HLZ.out]; exact Nat.le_refl _))
      have hz := HHz.out
      have ht := HT.out
      go_upto_region 4 with (refine wpList_store_mid rfl 36 _ _ rfl wr.heap.size 0 NV.toArray rfl rfl ht (by simpa using HIN1.out) HON1.out ?_)
      clear hz ht HT hix
      generalize (wr.alloc (.cells VZ.toArray 36)).setCells wr.heap.size 0 NV = w5 at *
      generalize wr.heap.size = g5 at *
      have hrN := HKn.out.hd.range
      have hrA := HKn.out.tl.hd.range
      cases D
      · have HJ2 : Hid ((mL6.take (k + 1)).any (fun p => p.holds a) = false) := Lib.hid (by rw [HN1.out, hJ.out]; rfl)
        clear HN1 HMo1 hJ
        go_wp2_with (first | (refine wpList_load_mid rfl 36 _ rfl g5 0 rfl NV _ hrN Tryd.underlying36 rfl HIN1.out ?_) | (refine wpList_load_mid rfl 24 _ rfl w.heap.size 0 rfl X _ hrA Tryd.underlying24 rfl HIA.out ?_) | (go_at_call 25; refine (CH1.out _).mono ?_; rintro e w9 ⟨rfl, hb9⟩; have HK9 := Lib.hid (HKn.out.tl.below hb9 (Nat.le_refl _)); clear hb9 hrN hrA))
        go_roundw
        case rel => exact ⟨k + 1, hlt, by go_num, HK9.out, HJ2⟩
        case measure => simp [intOf]; omega
      · have HX : Hid (R = true) := Lib.hid (HMo1.out (by rw [HN1.out]; simp))
        clear HN1 HMo1 hJ
        go_wp2_with (first | (refine wpList_load_mid rfl 36 _ rfl g5 0 rfl NV _ hrN Tryd.underlying36 rfl HIN1.out ?_) | (refine wpList_load_mid rfl 24 _ rfl w.heap.size 0 rfl X _ hrA Tryd.underlying24 rfl HIA.out ?_) | (go_at_call 25; refine (CH1.out _).mono ?_; rintro e w9 ⟨rfl, hb9⟩; have HK9 := Lib.hid (HKn.out.tl.below hb9 (Nat.le_refl _)); clear hb9 hrN hrA))
        go_ret
        exact ⟨by rw [HX.out]; rfl, HK9.out.2.1⟩
    · obtain rfl : k = 5 := by omega
      have HX : Hid (R = false) := Lib.hid (by rw [← HAll.out, hJ.out])
      clear HAll hJ
      have e44 : ((5 : Nat) : Int) = 5 := rfl
      simp only [e44] at *
      go_wp2_with fail
      go_ret
      exact ⟨by rw [HX.out]; rfl, HK.out.2.1⟩
end Go.Proofs.YtkdplnbabelkoaaDoor
