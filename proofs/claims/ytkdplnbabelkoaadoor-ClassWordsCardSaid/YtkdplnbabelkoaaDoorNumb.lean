/-
  Proved here: what the document's number answers.
  Conditions: none.
-/
import Derived.Test.YtkdplnbabelkoaaDoorB8
namespace Go.Proofs.YtkdplnbabelkoaaDoor
open Go.RowKit

/-- A digit. -/
def isDig (c : UInt8) : Bool := decide (48 ≤ c.toNat) && decide (c.toNat ≤ 57)
/-- The number that digits are. -/
def dval (l : List UInt8) : Nat := l.foldl (fun n c => 10 * n + (c.toNat - 48)) 0
theorem dval_snoc (l : List UInt8) (c : UInt8) : dval (l ++ [c]) = 10 * dval l + (c.toNat - 48) := by unfold dval; rw [List.foldl_append]; rfl
theorem dval_from (l : List UInt8) : ∀ n : Nat, l.all isDig = true → l.foldl (fun n c => 10 * n + (c.toNat - 48)) n < (n + 1) * 10 ^ l.length := by
  induction l with
  | nil => intro n _; simp
  | cons c r ih =>
    intro n h
    rw [List.all_cons, Bool.and_eq_true] at h
    have h2 := h.1
    unfold isDig at h2
    simp only [Bool.and_eq_true, decide_eq_true_eq] at h2
    have h3 := ih (10 * n + (c.toNat - 48)) h.2
    rw [List.foldl_cons, List.length_cons, Nat.pow_succ]
    have h4 : (10 * n + (c.toNat - 48) + 1) * 10 ^ r.length ≤ (10 * (n + 1)) * 10 ^ r.length := Nat.mul_le_mul_right _ (by omega)
    have h5 : (10 * (n + 1)) * 10 ^ r.length = (n + 1) * (10 ^ r.length * 10) := by rw [Nat.mul_comm 10 (n + 1), Nat.mul_assoc, Nat.mul_comm 10]
    omega
theorem dval_lt (l : List UInt8) (h : l.all isDig = true) (hl : l.length ≤ 3) : dval l < 1000 := by
  have h1 := dval_from l 0 h
  have h2 : 10 ^ l.length ≤ 10 ^ 3 := Nat.pow_le_pow_right (by omega) hl
  unfold dval
  omega
/-- What a decimal number's word is. -/
def numb (l : List UInt8) (most : Int) : Int :=
  if l.length = 0 ∨ 3 < l.length ∨ (1 < l.length ∧ l[0]? = some 48) then -1
  else if l.all isDig = true then (if most < (dval l : Int) then -1 else (dval l : Int)) else -1
theorem all_more (l : List UInt8) (k : Nat) (p : UInt8 → Bool) (h : (l.take k).all p = false) : l.all p = false := by
  rw [List.all_eq_false] at *
  obtain ⟨x, hx, h0⟩ := h
  exact ⟨x, List.mem_of_mem_take hx, h0⟩
set_option maxRecDepth 100000 in
set_option maxHeartbeats 1000000 in
theorem rnumb_any (s : ByteArray) (most : Int) (w : World) :
    Calls Tryd.prog 52 #[.string s, .int .i64 most] w fun e w' => e = .returned (.int .i64 (numb (bl s) most)) ∧ w' = w := by
  obtain ⟨R, hR⟩ : ∃ R, R = numb (bl s) most := ⟨_, rfl⟩
  rw [← hR]
  have hR' := hR
  unfold numb at hR'
  rw [bl_len] at hR'
  clear hR
  go_enter Tryd.func52, Tryd.ntmps52
  by_cases h0 : s.size = 0
  · have i0 : ((s.size : Int) == 0) = true := by rw [h0]; rfl
    have HX : Hid (R = -1) := Lib.hid (by rw [hR', if_pos (.inl h0)])
    clear hR' h0
    go_wp2_with fail
    go_ret
    exact ⟨by rw [HX.out]; rfl, rfl⟩
  have i0 : ((s.size : Int) == 0) = false := by rw [beq_eq_false_iff_ne]; omega
  by_cases h3 : 3 < s.size
  · have i3 : (3 : Int) < (s.size : Int) := by omega
    have d3 := decide_eq_true i3
    have HX : Hid (R = -1) := Lib.hid (by rw [hR', if_pos (.inr (.inl h3))])
    clear hR' h0 h3
    go_wp2_with fail
    go_ret
    exact ⟨by rw [HX.out]; rfl, rfl⟩
  have i3 : ¬ (3 : Int) < (s.size : Int) := by omega
  have d3 := decide_eq_false i3
  have hpos : 0 < s.size := by omega
  by_cases h1 : 1 < s.size ∧ (bl s)[0]? = some 48
  · have i1 : (1 : Int) < (s.size : Int) := by omega
    have d1 := decide_eq_true i1
    have e0 : s[0] = 48 := by have h := h1.2; rw [bl_at s 0 hpos] at h; exact Option.some.inj h
    have e1 : ((s[0].toNat : Int) == 48) = true := by rw [e0]; rfl
    have HX : Hid (R = -1) := Lib.hid (by rw [hR', if_pos (.inr (.inr h1))])
    clear hR' h0 h3 h1
    go_wp2_with fail
    go_ret
    exact ⟨by rw [HX.out]; rfl, rfl⟩
  have HR : Hid (R = if (bl s).all isDig = true then (if most < (dval (bl s) : Int) then -1 else (dval (bl s) : Int)) else -1) := Lib.hid (by rw [hR', if_neg (fun h => h.elim h0 (fun h => h.elim h3 h1))])
  clear hR'
  have hs3 : s.size ≤ 3 := by omega
  by_cases h2 : 1 < s.size
  · have i1 : (1 : Int) < (s.size : Int) := by omega
    have d1 := decide_eq_true i1
    have e0 : s[0] ≠ 48 := fun h => h1 ⟨h2, by rw [bl_at s 0 hpos, h]⟩
    have e1 : ((s[0].toNat : Int) == 48) = false := by
      rw [beq_eq_false_iff_ne]
      intro h
      apply e0
      have h' : s[0].toNat = 48 := by omega
      exact UInt8.toNat_inj.1 (by rw [h']; rfl)
    clear h0 h3 h1 h2 e0
    go_wp2_with fail
    go_loop [5, 6] (fun n i => ∃ k : Nat, k ≤ s.size ∧ i = .int .i64 k ∧ n = .int .i64 (dval ((bl s).take k) : Nat) ∧ Hid (((bl s).take k).all isDig = true)) (fun _ i => s.size - (intOf i).toNat)
    case atStart => exact ⟨0, Nat.zero_le _, rfl, rfl, Lib.hid rfl⟩
    case round =>
      obtain ⟨k, hk, rfl, rfl, hC⟩ := hrel
      have hb : dval ((bl s).take k) < 1000 := dval_lt _ hC.out (by rw [List.length_take, bl_len]; omega)
      by_cases hlt : k < s.size
      · have hT := bl_take s k hlt
        have hD : Hid (∀ q : isDig s[k] = true, ((bl s).take (k + 1)).all isDig = true ∧ dval ((bl s).take (k + 1)) = 10 * dval ((bl s).take k) + (s[k].toNat - 48)) := Lib.hid (fun q => by
          rw [hT, List.all_append, hC.out, dval_snoc]
          exact ⟨by simpa using q, rfl⟩)
        have hB : Hid (isDig s[k] = false → R = -1) := Lib.hid (fun q => by
          rw [HR.out, if_neg (by rw [all_more _ (k + 1) isDig (by rw [hT, List.all_append, hC.out]; simpa using q)]; decide)])
        clear hT
        have g := s[k].toNat_lt
        by_cases hlo : s[k].toNat < 48
        · have ilo : (s[k].toNat : Int) < 48 := by omega
          have dlo := decide_eq_true ilo
          have HX : Hid (R = -1) := Lib.hid (hB.out (by unfold isDig; rw [decide_eq_false (by omega)]; rfl))
          clear hB hD hlo
          go_wp2_with fail
          go_ret
          exact ⟨by rw [HX.out]; rfl, rfl⟩
        · have ilo : ¬ (s[k].toNat : Int) < 48 := by omega
          have dlo := decide_eq_false ilo
          by_cases hhi : 57 < s[k].toNat
          · have ihi : (57 : Int) < (s[k].toNat : Int) := by omega
            have dhi := decide_eq_true ihi
            have HX : Hid (R = -1) := Lib.hid (hB.out (by unfold isDig; rw [decide_eq_false (p := s[k].toNat ≤ 57) (by omega), Bool.and_false]))
            clear hB hD hlo hhi
            go_wp2_with fail
            go_ret
            exact ⟨by rw [HX.out]; rfl, rfl⟩
          · have ihi : ¬ (57 : Int) < (s[k].toNat : Int) := by omega
            have dhi := decide_eq_false ihi
            have hq : isDig s[k] = true := by unfold isDig; rw [decide_eq_true (p := 48 ≤ s[k].toNat) (by omega), decide_eq_true (p := s[k].toNat ≤ 57) (by omega)]; rfl
            obtain ⟨hx1, hx2⟩ := hD.out hq
            have HX1 := Lib.hid hx1
            have HX2 := Lib.hid hx2
            have HLo := Lib.hid hlo
            clear hB hD hx1 hx2 hq hlo hhi
            go_wp2_with fail
            go_round
            case rel => exact ⟨k + 1, by omega, by go_num, by rw [HX2.out]; congr 1; have := HLo.out; omega, HX1⟩
            case measure => simp [intOf]; omega
      · obtain rfl : k = s.size := by omega
        have HT : Hid (R = if most < (dval (bl s) : Int) then -1 else (dval (bl s) : Int)) := Lib.hid (by rw [HR.out]; have h := hC.out; rw [bl_all] at h; rw [if_pos h])
        rw [bl_all] at hb ⊢
        clear hC HR
        generalize dval (bl s) = v at *
        by_cases hm : most < (v : Int)
        · have dm := decide_eq_true hm
          have HX : Hid (R = -1) := Lib.hid (by rw [HT.out, if_pos hm])
          clear HT
          go_wp2_with fail
          go_ret
          exact ⟨by rw [HX.out]; rfl, rfl⟩
        · have dm := decide_eq_false hm
          have HX : Hid (R = (v : Int)) := Lib.hid (by rw [HT.out, if_neg hm])
          clear HT
          go_wp2_with fail
          go_ret
          exact ⟨by rw [HX.out]; rfl, rfl⟩
  · have i1 : ¬ (1 : Int) < (s.size : Int) := by omega
    have d1 := decide_eq_false i1
    clear h0 h3 h1 h2
    go_wp2_with fail
    go_loop [5, 6] (fun n i => ∃ k : Nat, k ≤ s.size ∧ i = .int .i64 k ∧ n = .int .i64 (dval ((bl s).take k) : Nat) ∧ Hid (((bl s).take k).all isDig = true)) (fun _ i => s.size - (intOf i).toNat)
    case atStart => exact ⟨0, Nat.zero_le _, rfl, rfl, Lib.hid rfl⟩
    case round =>
      obtain ⟨k, hk, rfl, rfl, hC⟩ := hrel
      have hb : dval ((bl s).take k) < 1000 := dval_lt _ hC.out (by rw [List.length_take, bl_len]; omega)
      by_cases hlt : k < s.size
      · have hT := bl_take s k hlt
        have hD : Hid (∀ q : isDig s[k] = true, ((bl s).take (k + 1)).all isDig = true ∧ dval ((bl s).take (k + 1)) = 10 * dval ((bl s).take k) + (s[k].toNat - 48)) := Lib.hid (fun q => by
          rw [hT, List.all_append, hC.out, dval_snoc]
          exact ⟨by simpa using q, rfl⟩)
        have hB : Hid (isDig s[k] = false → R = -1) := Lib.hid (fun q => by
          rw [HR.out, if_neg (by rw [all_more _ (k + 1) isDig (by rw [hT, List.all_append, hC.out]; simpa using q)]; decide)])
        clear hT
        have g := s[k].toNat_lt
        by_cases hlo : s[k].toNat < 48
        · have ilo : (s[k].toNat : Int) < 48 := by omega
          have dlo := decide_eq_true ilo
          have HX : Hid (R = -1) := Lib.hid (hB.out (by unfold isDig; rw [decide_eq_false (by omega)]; rfl))
          clear hB hD hlo
          go_wp2_with fail
          go_ret
          exact ⟨by rw [HX.out]; rfl, rfl⟩
        · have ilo : ¬ (s[k].toNat : Int) < 48 := by omega
          have dlo := decide_eq_false ilo
          by_cases hhi : 57 < s[k].toNat
          · have ihi : (57 : Int) < (s[k].toNat : Int) := by omega
            have dhi := decide_eq_true ihi
            have HX : Hid (R = -1) := Lib.hid (hB.out (by unfold isDig; rw [decide_eq_false (p := s[k].toNat ≤ 57) (by omega), Bool.and_false]))
            clear hB hD hlo hhi
            go_wp2_with fail
            go_ret
            exact ⟨by rw [HX.out]; rfl, rfl⟩
          · have ihi : ¬ (57 : Int) < (s[k].toNat : Int) := by omega
            have dhi := decide_eq_false ihi
            have hq : isDig s[k] = true := by unfold isDig; rw [decide_eq_true (p := 48 ≤ s[k].toNat) (by omega), decide_eq_true (p := s[k].toNat ≤ 57) (by omega)]; rfl
            obtain ⟨hx1, hx2⟩ := hD.out hq
            have HX1 := Lib.hid hx1
            have HX2 := Lib.hid hx2
            have HLo := Lib.hid hlo
            clear hB hD hx1 hx2 hq hlo hhi
            go_wp2_with fail
            go_round
            case rel => exact ⟨k + 1, by omega, by go_num, by rw [HX2.out]; congr 1; have := HLo.out; omega, HX1⟩
            case measure => simp [intOf]; omega
      · obtain rfl : k = s.size := by omega
        have HT : Hid (R = if most < (dval (bl s) : Int) then -1 else (dval (bl s) : Int)) := Lib.hid (by rw [HR.out]; have h := hC.out; rw [bl_all] at h; rw [if_pos h])
        rw [bl_all] at hb ⊢
        clear hC HR
        generalize dval (bl s) = v at *
        by_cases hm : most < (v : Int)
        · have dm := decide_eq_true hm
          have HX : Hid (R = -1) := Lib.hid (by rw [HT.out, if_pos hm])
          clear HT
          go_wp2_with fail
          go_ret
          exact ⟨by rw [HX.out]; rfl, rfl⟩
        · have dm := decide_eq_false hm
          have HX : Hid (R = (v : Int)) := Lib.hid (by rw [HT.out, if_neg hm])
          clear HT
          go_wp2_with fail
          go_ret
          exact ⟨by rw [HX.out]; rfl, rfl⟩
end Go.Proofs.YtkdplnbabelkoaaDoor
