/-
  Proved here: what the document's hex answers.
  Conditions: none.
-/
import Derived.Test.YtkdplnbabelkoaaDoorNumb
namespace Go.Proofs.YtkdplnbabelkoaaDoor
open Go.RowKit

/-- A hexadecimal digit's number; below 0: it is none. -/
def hexv (c : UInt8) : Int := if 48 ≤ c.toNat ∧ c.toNat ≤ 57 then (c.toNat : Int) - 48 else if 97 ≤ c.toNat ∧ c.toNat ≤ 102 then (c.toNat : Int) - 87 else if 65 ≤ c.toNat ∧ c.toNat ≤ 70 then (c.toNat : Int) - 55 else -1
def isHex (c : UInt8) : Bool := decide (0 ≤ hexv c)
theorem hexv_lt (c : UInt8) : hexv c < 16 := by
  unfold hexv
  split
  · omega
  · split
    · omega
    · split
      · omega
      · omega
/-- The number that hexadecimal digits are. -/
def hval (l : List UInt8) : Int := l.foldl (fun n c => 16 * n + hexv c) 0
theorem hval_snoc (l : List UInt8) (c : UInt8) : hval (l ++ [c]) = 16 * hval l + hexv c := by unfold hval; rw [List.foldl_append]; rfl
theorem hval_from (l : List UInt8) : ∀ n : Int, 0 ≤ n → l.all isHex = true → 0 ≤ l.foldl (fun n c => 16 * n + hexv c) n ∧ l.foldl (fun n c => 16 * n + hexv c) n < (n + 1) * ((16 ^ l.length : Nat) : Int) := by
  induction l with
  | nil => intro n h _; simp; omega
  | cons c r ih =>
    intro n hn h
    rw [List.all_cons, Bool.and_eq_true] at h
    have h2 := h.1
    unfold isHex at h2
    rw [decide_eq_true_eq] at h2
    have h3 := ih (16 * n + hexv c) (by omega) h.2
    rw [List.foldl_cons, List.length_cons, Nat.pow_succ]
    refine ⟨h3.1, ?_⟩
    have hl := hexv_lt c
    have h4 : (16 * n + hexv c + 1) * ((16 ^ r.length : Nat) : Int) ≤ (16 * (n + 1)) * ((16 ^ r.length : Nat) : Int) := Int.mul_le_mul_of_nonneg_right (by omega) (Int.natCast_nonneg _)
    have h5 : (16 * (n + 1)) * ((16 ^ r.length : Nat) : Int) = (n + 1) * ((16 ^ r.length * 16 : Nat) : Int) := by rw [Int.natCast_mul, Int.mul_comm 16 (n + 1), Int.mul_assoc, Int.mul_comm ((16 ^ r.length : Nat) : Int)]; rfl
    omega
theorem hval_lt (l : List UInt8) (h : l.all isHex = true) (hl : l.length ≤ 4) : 0 ≤ hval l ∧ hval l < 65536 := by
  have h1 := hval_from l 0 (by omega) h
  have h2 : 16 ^ l.length ≤ 16 ^ 4 := Nat.pow_le_pow_right (by omega) hl
  unfold hval
  omega
/-- What a group's word is. -/
def hexb (l : List UInt8) : Int := if l.length = 0 ∨ 4 < l.length then -1 else if l.all isHex = true then hval l else -1
set_option maxRecDepth 100000 in
set_option maxHeartbeats 2000000 in
theorem rhex_any (s : ByteArray) (w : World) :
    Calls Tryd.prog 53 #[.string s] w fun e w' => e = .returned (.int .i64 (hexb (bl s))) ∧ w' = w := by
  obtain ⟨R, hR⟩ : ∃ R, R = hexb (bl s) := ⟨_, rfl⟩
  rw [← hR]
  have hR' := hR
  unfold hexb at hR'
  rw [bl_len] at hR'
  clear hR
  go_enter Tryd.func53, Tryd.ntmps53
  by_cases h0 : s.size = 0
  · have i0 : ((s.size : Int) == 0) = true := by rw [h0]; rfl
    have HX : Hid (R = -1) := Lib.hid (by rw [hR', if_pos (.inl h0)])
    clear hR' h0
    go_wp2_with fail
    go_ret
    exact ⟨by rw [HX.out]; rfl, rfl⟩
  have i0 : ((s.size : Int) == 0) = false := by rw [beq_eq_false_iff_ne]; omega
  by_cases h3 : 4 < s.size
  · have i3 : (4 : Int) < (s.size : Int) := by omega
    have d3 := decide_eq_true i3
    have HX : Hid (R = -1) := Lib.hid (by rw [hR', if_pos (.inr h3)])
    clear hR' h0 h3
    go_wp2_with fail
    go_ret
    exact ⟨by rw [HX.out]; rfl, rfl⟩
  have i3 : ¬ (4 : Int) < (s.size : Int) := by omega
  have d3 := decide_eq_false i3
  have HR : Hid (R = if (bl s).all isHex = true then hval (bl s) else -1) := Lib.hid (by rw [hR', if_neg (fun h => h.elim h0 h3)])
  have hs4 : s.size ≤ 4 := by omega
  clear hR' h0 h3
  go_wp2_with fail
  go_loop [3, 4] (fun n i => ∃ k : Nat, k ≤ s.size ∧ i = .int .i64 k ∧ n = .int .i64 (hval ((bl s).take k)) ∧ Hid (((bl s).take k).all isHex = true)) (fun _ i => s.size - (intOf i).toNat)
  case atStart => exact ⟨0, Nat.zero_le _, rfl, rfl, Lib.hid rfl⟩
  case round =>
    obtain ⟨k, hk, rfl, rfl, hC⟩ := hrel
    obtain ⟨hb0, hb1⟩ := hval_lt _ hC.out (by rw [List.length_take, bl_len]; omega)
    by_cases hlt : k < s.size
    · have hT := bl_take s k hlt
      have hD : Hid (isHex s[k] = true → ((bl s).take (k + 1)).all isHex = true ∧ hval ((bl s).take (k + 1)) = 16 * hval ((bl s).take k) + hexv s[k]) := Lib.hid (fun q => by
        rw [hT, List.all_append, hC.out, hval_snoc]
        exact ⟨by simpa using q, rfl⟩)
      have hB : Hid (isHex s[k] = false → R = -1) := Lib.hid (fun q => by
        rw [HR.out, if_neg (by rw [all_more _ (k + 1) isHex (by rw [hT, List.all_append, hC.out]; simpa using q)]; decide)])
      clear hT
      have g := s[k].toNat_lt
      generalize hval ((bl s).take k) = v at *
      rcases (show (0 ≤ s[k].toNat ∧ s[k].toNat ≤ 47) ∨ (48 ≤ s[k].toNat ∧ s[k].toNat ≤ 57) ∨ (58 ≤ s[k].toNat ∧ s[k].toNat ≤ 64) ∨ (65 ≤ s[k].toNat ∧ s[k].toNat ≤ 70) ∨ (71 ≤ s[k].toNat ∧ s[k].toNat ≤ 96) ∨ (97 ≤ s[k].toNat ∧ s[k].toNat ≤ 102) ∨ (103 ≤ s[k].toNat ∧ s[k].toNat ≤ 255) by omega) with hr | hr | hr | hr | hr | hr | hr
      · obtain ⟨ha, hb⟩ := hr
        have j0 : ¬ (48 : Int) ≤ (s[k].toNat : Int) := by omega
        have d0' := decide_eq_false j0
        have j1 : (s[k].toNat : Int) ≤ 57 := by omega
        have d1' := decide_eq_true j1
        have j2 : ¬ (97 : Int) ≤ (s[k].toNat : Int) := by omega
        have d2' := decide_eq_false j2
        have j3 : (s[k].toNat : Int) ≤ 102 := by omega
        have d3' := decide_eq_true j3
        have j4 : ¬ (65 : Int) ≤ (s[k].toNat : Int) := by omega
        have d4' := decide_eq_false j4
        have j5 : (s[k].toNat : Int) ≤ 70 := by omega
        have d5' := decide_eq_true j5
        have hv : hexv s[k] = -1 := by unfold hexv; rw [if_neg (by omega), if_neg (by omega), if_neg (by omega)]
        have HX : Hid (R = -1) := Lib.hid (hB.out (by unfold isHex; rw [hv]; rfl))
        clear hv hB hD ha hb
        go_wp2_with fail
        go_ret
        exact ⟨by rw [HX.out]; rfl, rfl⟩
      · obtain ⟨ha, hb⟩ := hr
        have j0 : (48 : Int) ≤ (s[k].toNat : Int) := by omega
        have d0' := decide_eq_true j0
        have j1 : (s[k].toNat : Int) ≤ 57 := by omega
        have d1' := decide_eq_true j1
        have j2 : ¬ (97 : Int) ≤ (s[k].toNat : Int) := by omega
        have d2' := decide_eq_false j2
        have j3 : (s[k].toNat : Int) ≤ 102 := by omega
        have d3' := decide_eq_true j3
        have j4 : ¬ (65 : Int) ≤ (s[k].toNat : Int) := by omega
        have d4' := decide_eq_false j4
        have j5 : (s[k].toNat : Int) ≤ 70 := by omega
        have d5' := decide_eq_true j5
        have hv : hexv s[k] = (s[k].toNat : Int) - 48 := by unfold hexv; rw [if_pos (by omega)]
        obtain ⟨hx1, hx2⟩ := hD.out (by unfold isHex; rw [hv]; exact decide_eq_true (by omega))
        have HX1 := Lib.hid hx1
        have HX2 := Lib.hid hx2
        have HV := Lib.hid hv
        have jn : ¬ (s[k].toNat : Int) - 48 < 0 := by omega
        clear hv hB hD hx1 hx2 ha hb
        go_wp2_with fail
        go_round
        case rel => exact ⟨k + 1, by omega, by go_num, by rw [HX2.out, HV.out] <;> (congr 1; omega), HX1⟩
        case measure => simp [intOf]; omega
      · obtain ⟨ha, hb⟩ := hr
        have j0 : (48 : Int) ≤ (s[k].toNat : Int) := by omega
        have d0' := decide_eq_true j0
        have j1 : ¬ (s[k].toNat : Int) ≤ 57 := by omega
        have d1' := decide_eq_false j1
        have j2 : ¬ (97 : Int) ≤ (s[k].toNat : Int) := by omega
        have d2' := decide_eq_false j2
        have j3 : (s[k].toNat : Int) ≤ 102 := by omega
        have d3' := decide_eq_true j3
        have j4 : ¬ (65 : Int) ≤ (s[k].toNat : Int) := by omega
        have d4' := decide_eq_false j4
        have j5 : (s[k].toNat : Int) ≤ 70 := by omega
        have d5' := decide_eq_true j5
        have hv : hexv s[k] = -1 := by unfold hexv; rw [if_neg (by omega), if_neg (by omega), if_neg (by omega)]
        have HX : Hid (R = -1) := Lib.hid (hB.out (by unfold isHex; rw [hv]; rfl))
        clear hv hB hD ha hb
        go_wp2_with fail
        go_ret
        exact ⟨by rw [HX.out]; rfl, rfl⟩
      · obtain ⟨ha, hb⟩ := hr
        have j0 : (48 : Int) ≤ (s[k].toNat : Int) := by omega
        have d0' := decide_eq_true j0
        have j1 : ¬ (s[k].toNat : Int) ≤ 57 := by omega
        have d1' := decide_eq_false j1
        have j2 : ¬ (97 : Int) ≤ (s[k].toNat : Int) := by omega
        have d2' := decide_eq_false j2
        have j3 : (s[k].toNat : Int) ≤ 102 := by omega
        have d3' := decide_eq_true j3
        have j4 : (65 : Int) ≤ (s[k].toNat : Int) := by omega
        have d4' := decide_eq_true j4
        have j5 : (s[k].toNat : Int) ≤ 70 := by omega
        have d5' := decide_eq_true j5
        have hv : hexv s[k] = (s[k].toNat : Int) - 55 := by unfold hexv; rw [if_neg (by omega), if_neg (by omega), if_pos (by omega)]
        obtain ⟨hx1, hx2⟩ := hD.out (by unfold isHex; rw [hv]; exact decide_eq_true (by omega))
        have HX1 := Lib.hid hx1
        have HX2 := Lib.hid hx2
        have HV := Lib.hid hv
        have jn : ¬ (s[k].toNat : Int) - 55 < 0 := by omega
        clear hv hB hD hx1 hx2 ha hb
        go_wp2_with fail
        go_round
        case rel => exact ⟨k + 1, by omega, by go_num, by rw [HX2.out, HV.out] <;> (congr 1; omega), HX1⟩
        case measure => simp [intOf]; omega
      · obtain ⟨ha, hb⟩ := hr
        have j0 : (48 : Int) ≤ (s[k].toNat : Int) := by omega
        have d0' := decide_eq_true j0
        have j1 : ¬ (s[k].toNat : Int) ≤ 57 := by omega
        have d1' := decide_eq_false j1
        have j2 : ¬ (97 : Int) ≤ (s[k].toNat : Int) := by omega
        have d2' := decide_eq_false j2
        have j3 : (s[k].toNat : Int) ≤ 102 := by omega
        have d3' := decide_eq_true j3
        have j4 : (65 : Int) ≤ (s[k].toNat : Int) := by omega
        have d4' := decide_eq_true j4
        have j5 : ¬ (s[k].toNat : Int) ≤ 70 := by omega
        have d5' := decide_eq_false j5
        have hv : hexv s[k] = -1 := by unfold hexv; rw [if_neg (by omega), if_neg (by omega), if_neg (by omega)]
        have HX : Hid (R = -1) := Lib.hid (hB.out (by unfold isHex; rw [hv]; rfl))
        clear hv hB hD ha hb
        go_wp2_with fail
        go_ret
        exact ⟨by rw [HX.out]; rfl, rfl⟩
      · obtain ⟨ha, hb⟩ := hr
        have j0 : (48 : Int) ≤ (s[k].toNat : Int) := by omega
        have d0' := decide_eq_true j0
        have j1 : ¬ (s[k].toNat : Int) ≤ 57 := by omega
        have d1' := decide_eq_false j1
        have j2 : (97 : Int) ≤ (s[k].toNat : Int) := by omega
        have d2' := decide_eq_true j2
        have j3 : (s[k].toNat : Int) ≤ 102 := by omega
        have d3' := decide_eq_true j3
        have j4 : (65 : Int) ≤ (s[k].toNat : Int) := by omega
        have d4' := decide_eq_true j4
        have j5 : ¬ (s[k].toNat : Int) ≤ 70 := by omega
        have d5' := decide_eq_false j5
        have hv : hexv s[k] = (s[k].toNat : Int) - 87 := by unfold hexv; rw [if_neg (by omega), if_pos (by omega)]
        obtain ⟨hx1, hx2⟩ := hD.out (by unfold isHex; rw [hv]; exact decide_eq_true (by omega))
        have HX1 := Lib.hid hx1
        have HX2 := Lib.hid hx2
        have HV := Lib.hid hv
        have jn : ¬ (s[k].toNat : Int) - 87 < 0 := by omega
        clear hv hB hD hx1 hx2 ha hb
        go_wp2_with fail
        go_round
        case rel => exact ⟨k + 1, by omega, by go_num, by rw [HX2.out, HV.out] <;> (congr 1; omega), HX1⟩
        case measure => simp [intOf]; omega
      · obtain ⟨ha, hb⟩ := hr
        have j0 : (48 : Int) ≤ (s[k].toNat : Int) := by omega
        have d0' := decide_eq_true j0
        have j1 : ¬ (s[k].toNat : Int) ≤ 57 := by omega
        have d1' := decide_eq_false j1
        have j2 : (97 : Int) ≤ (s[k].toNat : Int) := by omega
        have d2' := decide_eq_true j2
        have j3 : ¬ (s[k].toNat : Int) ≤ 102 := by omega
        have d3' := decide_eq_false j3
        have j4 : (65 : Int) ≤ (s[k].toNat : Int) := by omega
        have d4' := decide_eq_true j4
        have j5 : ¬ (s[k].toNat : Int) ≤ 70 := by omega
        have d5' := decide_eq_false j5
        have hv : hexv s[k] = -1 := by unfold hexv; rw [if_neg (by omega), if_neg (by omega), if_neg (by omega)]
        have HX : Hid (R = -1) := Lib.hid (hB.out (by unfold isHex; rw [hv]; rfl))
        clear hv hB hD ha hb
        go_wp2_with fail
        go_ret
        exact ⟨by rw [HX.out]; rfl, rfl⟩
    · obtain rfl : k = s.size := by omega
      have HX : Hid (R = hval ((bl s).take s.size)) := Lib.hid (by rw [HR.out]; have h := hC.out; rw [bl_all] at h ⊢; rw [if_pos h])
      clear hC HR
      go_wp2_with fail
      go_ret
      exact ⟨by rw [HX.out]; rfl, rfl⟩
end Go.Proofs.YtkdplnbabelkoaaDoor
