/-
  Proved here: plain facts: such a number is the document's.
  Conditions: as each fact says.
-/
import Derived.Test.YtkdplnbabelkoaaDoorSty
namespace Go.Proofs.YtkdplnbabelkoaaDoor
open Go.RowKit

/-- Decimal numbers of at most three digits, without noughts ahead. -/
def decS (m : UInt8) (most count : Nat) : Sty := ⟨m, 10, 3, most, false, count⟩
def hexS : Sty := ⟨58, 16, 4, 65535, true, 8⟩
theorem dg_dig (c : UInt8) : dg c < 10 ↔ isDig c = true := by
  unfold dg isDig
  simp only [Bool.and_eq_true, decide_eq_true_eq]
  split
  · omega
  · split
    · omega
    · split <;> omega
theorem dg_val (c : UInt8) (h : isDig c = true) : dg c = c.toNat - 48 := by
  unfold isDig at h
  simp only [Bool.and_eq_true, decide_eq_true_eq] at h
  unfold dg
  rw [if_pos h]
theorem dval_mono (l : List UInt8) : ∀ n : Nat, n ≤ l.foldl (fun n c => 10 * n + (c.toNat - 48)) n := by
  induction l with
  | nil => intro n; exact Nat.le_refl _
  | cons c r ih => intro n; rw [List.foldl_cons]; have := ih (10 * n + (c.toNat - 48)); omega
theorem dval_head (q : List UInt8) (hq : q.all isDig = true) (hl : q.length ≠ 0) (h0 : dval q = 0) : q[0]? = some 48 := by
  cases q with
  | nil => exact absurd rfl hl
  | cons c r =>
    rw [List.all_cons, Bool.and_eq_true] at hq
    have h1 := hq.1
    unfold isDig at h1
    simp only [Bool.and_eq_true, decide_eq_true_eq] at h1
    unfold dval at h0
    rw [List.foldl_cons] at h0
    have h2 := dval_mono r (10 * 0 + (c.toNat - 48))
    have : c = 48 := UInt8.toNat_inj.mp (by show c.toNat = 48; omega)
    rw [this]; rfl
theorem one_dec (m : UInt8) (most count : Nat) : ∀ (p q : List UInt8), q.all isDig = true → q.length ≤ 3 → (1 < q.length → q[0]? ≠ some 48) → one (decS m most count) p (dval q) q.length = if 0 ≤ numb (q ++ p) most then some (numb (q ++ p) most).toNat else none := by
  intro p
  induction p with
  | nil =>
    intro q hq hl h48
    rw [List.append_nil]
    unfold one whole
    show (if (decide (0 < q.length) && decide (dval q ≤ most)) = true then some (dval q) else none) = _
    by_cases h0 : q.length = 0
    · have hn : numb q most = -1 := by unfold numb; rw [if_pos (.inl h0)]
      rw [if_neg (by simp [h0]), hn]; rfl
    · have hn : numb q most = if (most : Int) < (dval q : Int) then -1 else (dval q : Int) := by
        unfold numb
        rw [if_neg (by intro h; rcases h with h | h | h; exact h0 h; omega; exact h48 h.1 h.2), if_pos hq]
      rw [hn]
      by_cases hm : dval q ≤ most
      · have e : (if (most : Int) < (dval q : Int) then (-1 : Int) else (dval q : Int)) = (dval q : Int) := if_neg (by omega)
        rw [e, if_pos (by simp; omega), if_pos (by omega)]; simp
      · have e : (if (most : Int) < (dval q : Int) then (-1 : Int) else (dval q : Int)) = -1 := if_pos (by omega)
        rw [e, if_neg (by simp; omega)]; rfl
  | cons c r ih =>
    intro q hq hl h48
    have e : q ++ c :: r = (q ++ [c]) ++ r := by simp
    unfold one nxt
    show (match (if 10 ≤ dg c ∨ q.length = 3 ∨ (0 < q.length ∧ dval q = 0 ∧ (false : Bool) = false) then none else some (dval q * 10 + dg c, q.length + 1)) with | none => none | some x => one (decS m most count) r x.1 x.2) = _
    by_cases hd : isDig c = true
    · have hd2 := (dg_dig c).mpr hd
      by_cases h3 : q.length = 3
      · rw [if_pos (.inr (.inl h3))]
        have hn : numb (q ++ c :: r) most = -1 := by unfold numb; rw [if_pos (.inr (.inl (by simp; omega)))]
        rw [hn]; rfl
      · by_cases hz : 0 < q.length ∧ dval q = 0
        · rw [if_pos (.inr (.inr ⟨hz.1, hz.2, rfl⟩))]
          have hh := dval_head q hq (by omega) hz.2
          have hn : numb (q ++ c :: r) most = -1 := by
            unfold numb
            rw [if_pos (.inr (.inr ⟨by simp; omega, by rw [List.getElem?_append_left hz.1]; exact hh⟩))]
          rw [hn]; rfl
        · rw [if_neg (by intro h; rcases h with h | h | h; omega; exact h3 h; exact hz ⟨h.1, h.2.1⟩)]
          dsimp only
          have e2 : dval q * 10 + dg c = dval (q ++ [c]) := by rw [dval_snoc, dg_val c hd]; omega
          have e3 : q.length + 1 = (q ++ [c]).length := by simp
          rw [e2, e3, ih (q ++ [c]) (by simp [hq, hd]) (by simp; omega), ← e]
          intro h1 hc
          have hp : 0 < q.length := by simp at h1; omega
          rw [List.getElem?_append_left hp] at hc
          by_cases h2 : 1 < q.length
          · exact h48 h2 hc
          · have hq1 : q.length = 1 := by omega
            apply hz
            refine ⟨hp, ?_⟩
            match q, hq1 with
            | [x], _ =>
              have : x = 48 := by simpa using hc
              rw [this]; rfl
    · have hd2 : 10 ≤ dg c := by have := mt (dg_dig c).mp hd; omega
      rw [if_pos (.inl hd2)]
      have hn : numb (q ++ c :: r) most = -1 := by
        unfold numb
        split
        · rfl
        · rw [if_neg]
          intro h
          rw [List.all_append, List.all_cons] at h
          simp at h
          exact hd h.2.1
      rw [hn]; rfl
theorem ok_dec (m : UInt8) (most count : Nat) (p : List UInt8) : okP (decS m most count) p = decide (0 ≤ numb p most) ∧ (okP (decS m most count) p = true → (vaP (decS m most count) p : Int) = numb p most) := by
  have h := one_dec m most count p [] rfl (by simp) (by simp)
  have h2 : one (decS m most count) p 0 0 = if 0 ≤ numb p most then some (numb p most).toNat else none := h
  unfold okP vaP
  rw [h2]
  split
  · rename_i h3
    refine ⟨by rw [decide_eq_true h3]; rfl, fun _ => ?_⟩
    show ((numb p most).toNat : Int) = _
    omega
  · rename_i h3
    refine ⟨by rw [decide_eq_false h3]; rfl, fun h => by cases h⟩
theorem dg_hex (c : UInt8) : (dg c < 16 ↔ isHex c = true) ∧ (isHex c = true → (dg c : Int) = hexv c) := by
  unfold dg isHex hexv
  simp only [decide_eq_true_eq]
  split
  · constructor <;> omega
  · split
    · constructor <;> omega
    · split
      · constructor <;> omega
      · constructor <;> omega
theorem one_hex : ∀ (p q : List UInt8) (v : Nat), (v : Int) = hval q → q.all isHex = true → q.length ≤ 4 → one hexS p v q.length = if 0 ≤ hexb (q ++ p) then some (hexb (q ++ p)).toNat else none := by
  intro p
  induction p with
  | nil =>
    intro q v hv hq hl
    rw [List.append_nil]
    unfold one whole
    show (if (decide (0 < q.length) && decide (v ≤ 65535)) = true then some v else none) = _
    by_cases h0 : q.length = 0
    · have hn : hexb q = -1 := by unfold hexb; rw [if_pos (.inl h0)]
      rw [if_neg (by simp [h0]), hn]; rfl
    · have hb := hval_lt q hq hl
      have hn : hexb q = (v : Int) := by
        unfold hexb
        rw [if_neg (by intro h; rcases h with h | h; exact h0 h; omega), if_pos hq, hv]
      rw [hn, if_pos (by simp; omega), if_pos (by omega)]
      simp
  | cons c r ih =>
    intro q v hv hq hl
    have e : q ++ c :: r = (q ++ [c]) ++ r := by simp
    unfold one nxt
    show (match (if 16 ≤ dg c ∨ q.length = 4 ∨ (0 < q.length ∧ v = 0 ∧ (true : Bool) = false) then none else some (v * 16 + dg c, q.length + 1)) with | none => none | some x => one hexS r x.1 x.2) = _
    by_cases hd : isHex c = true
    · have hd2 := (dg_hex c).1.mpr hd
      have hd3 := (dg_hex c).2 hd
      by_cases h3 : q.length = 4
      · rw [if_pos (.inr (.inl h3))]
        have hn : hexb (q ++ c :: r) = -1 := by unfold hexb; rw [if_pos (.inr (by simp; omega))]
        rw [hn]; rfl
      · rw [if_neg (by intro h; rcases h with h | h | h; omega; exact h3 h; exact absurd h.2.2 (by simp))]
        dsimp only
        have e3 : q.length + 1 = (q ++ [c]).length := by simp
        rw [e3, ih (q ++ [c]) _ (by rw [hval_snoc]; omega) (by simp [hq, hd]) (by simp; omega), ← e]
    · have hd2 : 16 ≤ dg c := by have := mt (dg_hex c).1.mp hd; omega
      rw [if_pos (.inl hd2)]
      have hn : hexb (q ++ c :: r) = -1 := by
        unfold hexb
        split
        · rfl
        · rw [if_neg]
          intro h
          rw [List.all_append, List.all_cons] at h
          simp at h
          exact hd h.2.1
      rw [hn]; rfl
theorem ok_hex (p : List UInt8) : okP hexS p = decide (0 ≤ hexb p) ∧ (okP hexS p = true → (vaP hexS p : Int) = hexb p) := by
  have h2 : one hexS p 0 0 = if 0 ≤ hexb p then some (hexb p).toNat else none := one_hex p [] 0 rfl rfl (by simp)
  unfold okP vaP
  rw [h2]
  split
  · rename_i h3
    refine ⟨by rw [decide_eq_true h3]; rfl, fun _ => ?_⟩
    show ((hexb p).toNat : Int) = _
    omega
  · rename_i h3
    refine ⟨by rw [decide_eq_false h3]; rfl, fun h => by cases h⟩
end Go.Proofs.YtkdplnbabelkoaaDoor
