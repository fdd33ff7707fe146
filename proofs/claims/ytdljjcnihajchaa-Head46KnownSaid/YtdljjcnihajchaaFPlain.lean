/-
  Proved here: plain facts on the words of a text, all added, and on folding such a number.
  Conditions: none.
-/
namespace Go.Proofs.Ytdljjcnihajchaa.P4

/-- All words of a text added; the first byte is a higher one (true) or a lower one. -/
def acc : Bool → List UInt8 → Nat
  | _, [] => 0
  | true, a :: r => a.toNat * 256 + acc false r
  | false, a :: r => a.toNat + acc true r
def evn (n : Nat) : Bool := n % 2 == 0
theorem evn_succ (n : Nat) : evn (n + 1) = !evn n := by
  unfold evn
  rcases Nat.mod_two_eq_zero_or_one n with h | h
  · have : (n + 1) % 2 = 1 := by omega
    simp [h, this]
  · have : (n + 1) % 2 = 0 := by omega
    simp [h, this]
theorem evn_add (n m : Nat) : evn (n + m) = (evn n == evn m) := by
  unfold evn
  rcases Nat.mod_two_eq_zero_or_one n with h | h <;> rcases Nat.mod_two_eq_zero_or_one m with h' | h'
  · have : (n + m) % 2 = 0 := by omega
    simp [h, h', this]
  · have : (n + m) % 2 = 1 := by omega
    simp [h, h', this]
  · have : (n + m) % 2 = 1 := by omega
    simp [h, h', this]
  · have : (n + m) % 2 = 0 := by omega
    simp [h, h', this]
theorem acc_append (l m : List UInt8) : ∀ h, acc h (l ++ m) = acc h l + acc (h == evn l.length) m := by
  induction l with
  | nil => intro h; cases h <;> simp [acc, evn]
  | cons a r ih =>
    intro h
    rw [List.length_cons, evn_succ]
    cases h
    · show a.toNat + acc true (r ++ m) = a.toNat + acc true r + _
      rw [ih true]
      cases evn r.length <;> simp <;> omega
    · show a.toNat * 256 + acc false (r ++ m) = a.toNat * 256 + acc false r + _
      rw [ih false]
      cases evn r.length <;> simp <;> omega
theorem acc_even {l : List UInt8} (m : List UInt8) (hl : evn l.length = true) : acc true (l ++ m) = acc true l + acc true m := by
  rw [acc_append, hl]; simp
theorem acc_high {l : List UInt8} (c : UInt8) (hl : evn l.length = true) : acc true (l ++ [c]) = acc true l + c.toNat * 256 := by
  rw [acc_append, hl]; simp [acc]
theorem acc_low {l : List UInt8} (c : UInt8) (hl : evn l.length = false) : acc true (l ++ [c]) = acc true l + c.toNat := by
  rw [acc_append, hl]; simp [acc]
theorem acc_le (l : List UInt8) : ∀ h, acc h l ≤ 65280 * l.length := by
  induction l with
  | nil => intro h; cases h <;> simp [acc]
  | cons a r ih =>
    intro h
    have ha := a.toNat_lt
    have h1 := ih true
    have h2 := ih false
    cases h <;> simp only [acc, List.length_cons] <;> omega
/-- The words of a text come to at most 65535 each. -/
theorem acc_words : ∀ (n : Nat) (l : List UInt8), l.length ≤ n → acc true l ≤ 65535 * ((l.length + 1) / 2)
  | 0, l, h => by
    have : l = [] := List.eq_nil_of_length_eq_zero (by omega)
    subst this; simp [acc]
  | n + 1, [], _ => by simp [acc]
  | n + 1, [a], _ => by have := a.toNat_lt; simp only [acc, List.length_cons, List.length_nil]; omega
  | n + 1, a :: b :: r, h => by
    have ha := a.toNat_lt
    have hb := b.toNat_lt
    have := acc_words n r (by simp at h; omega)
    simp only [acc, List.length_cons] at *
    omega
theorem acc_words' (l : List UInt8) : acc true l ≤ 65535 * ((l.length + 1) / 2) := acc_words _ l (Nat.le_refl _)
theorem acc_zero (l : List UInt8) : ∀ h, acc h l = 0 ↔ ∀ c ∈ l, c.toNat = 0 := by
  induction l with
  | nil => intro h; cases h <;> simp [acc]
  | cons a r ih =>
    intro h
    have h1 := ih true
    have h2 := ih false
    cases h
    · simp only [acc, List.mem_cons, forall_eq_or_imp, ← h1]; omega
    · simp only [acc, List.mem_cons, forall_eq_or_imp, ← h2]; omega

/-- A number with all above its lowest 16 bits added to these, till nothing is above them. -/
def fold (n : Nat) : Nat := if n = 0 then 0 else (n - 1) % 65535 + 1
theorem fold_small {n : Nat} (h : n ≤ 65535) : fold n = n := by unfold fold; split <;> omega
theorem fold_step {n : Nat} (h : 65535 < n) : fold (n / 65536 + n % 65536) = fold n := by
  unfold fold
  rw [if_neg (by omega), if_neg (by omega)]
  omega
theorem fold_le (n : Nat) : fold n ≤ 65535 := by unfold fold; split <;> omega
theorem fold_mod (n : Nat) : fold n % 65535 = n % 65535 := by unfold fold; split <;> omega
theorem fold_zero (n : Nat) : fold n = 0 ↔ n = 0 := by unfold fold; split <;> omega
theorem fold_eq {a b : Nat} (h : a % 65535 = b % 65535) (h0 : a = 0 ↔ b = 0) : fold a = fold b := by
  unfold fold
  by_cases ha : a = 0
  · rw [if_pos ha, if_pos (h0.1 ha)]
  · rw [if_neg ha, if_neg (fun h => ha (h0.2 h))]; omega

theorem fold_form (n : Nat) : ∃ q, n = 65535 * q + fold n := by
  unfold fold
  split
  · exact ⟨0, by omega⟩
  · exact ⟨(n - 1) / 65535, by omega⟩
theorem fold_full {n : Nat} (h0 : 0 < n) (q : Nat) (h : n = 65535 * q) : fold n = 65535 := by
  have h1 := fold_le n
  obtain ⟨p, hp⟩ := fold_form n
  have h2 := fold_zero n
  omega
theorem fold_uniq {n v q : Nat} (h : n = 65535 * q + v) (hv : v ≤ 65535) (h0 : v = 0 → n = 0) : fold n = v := by
  have h1 := fold_le n
  obtain ⟨p, hp⟩ := fold_form n
  have h2 := fold_zero n
  omega
theorem fold_twice (a : Nat) : fold (a + a) = if 65535 < 2 * fold a then 2 * fold a - 65535 else 2 * fold a := by
  obtain ⟨q, hq⟩ := fold_form a
  have h1 := fold_le a
  have h2 := fold_zero a
  generalize fold a = f at *
  split
  · exact fold_uniq (q := 2 * q + 1) (by omega) (by omega) (by omega)
  · exact fold_uniq (q := 2 * q) (by omega) (by omega) (by omega)
/-- A number and what lacks to 65535 of its fold. -/
theorem fold_own {a : Nat} (h : 0 < a) : fold (a + (65535 - fold a)) = 65535 := by
  obtain ⟨q, hq⟩ := fold_form a
  have h1 := fold_le a
  generalize fold a = f at *
  exact fold_full (by omega) (q + 1) (by omega)
theorem fold_own2 {a b : Nat} (h : 0 < a) : fold (a + (65535 - fold a) + (b + (65535 - fold b))) = 65535 := by
  obtain ⟨q, hq⟩ := fold_form a
  obtain ⟨p, hp⟩ := fold_form b
  have h1 := fold_le a
  have h2 := fold_le b
  generalize fold a = f at *
  generalize fold b = g at *
  exact fold_full (by omega) (q + 1 + (p + 1)) (by omega)

/-- A piece p of a text of total p + r changes to o. -/
theorem fold_upd {T p o r W : Nat} (hT : T = p + r) (h0 : 0 < o + r) (hp : p ≤ 65535 * W) : fold (fold T + (65535 * W - p) + o) = fold (o + r) := by
  obtain ⟨q, hq⟩ := fold_form T
  obtain ⟨q', hq'⟩ := fold_form (o + r)
  have h1 := fold_le T
  have h2 := fold_le (o + r)
  have h3 := fold_zero T
  have h4 := fold_zero (o + r)
  generalize fold T = f at *
  generalize fold (o + r) = g at *
  have h5 : q ≤ q' + W := by omega
  exact fold_uniq (q := q' + W - q) (by omega) h2 (by omega)
/-- Two changes, one behind the other. -/
theorem fold_chain {X b c W : Nat} (hX : 0 < X) (hb : b ≤ 65535 * W) : fold (fold (X + b) + (65535 * W - b) + c) = fold (X + c) := by
  have := fold_upd (T := X + b) (p := b) (o := c) (r := X) (W := W) (by omega) (by omega) hb
  rw [this, Nat.add_comm]
theorem fold_more {X W : Nat} (hX : 0 < X) : fold (X + 65535 * W) = fold X := by
  obtain ⟨q, hq⟩ := fold_form X
  have h2 := fold_zero X
  exact fold_uniq (q := q + W) (by omega) (fold_le X) (by omega)

/-- Texts, one behind the other. -/
def catL (S : Nat → ByteArray) : Nat → List UInt8
  | 0 => []
  | k + 1 => catL S k ++ (S k).data.toList
theorem catL_mono (S : Nat → ByteArray) (k : Nat) : ∀ m, (catL S k).length ≤ (catL S (k + m)).length
  | 0 => Nat.le_refl _
  | m + 1 => by
    have := catL_mono S k m
    show _ ≤ (catL S (k + m) ++ (S (k + m)).data.toList).length
    rw [List.length_append]
    omega
theorem catL_le (S : Nat → ByteArray) {k n : Nat} (h : k ≤ n) : (catL S k).length ≤ (catL S n).length := by
  obtain ⟨m, rfl⟩ : ∃ m, n = k + m := ⟨n - k, by omega⟩
  exact catL_mono S k m
/-- What the program's sum of a text is. -/
def sumL (l : List UInt8) : Nat := 65535 - fold (acc true l)
theorem sumL_le (l : List UInt8) : sumL l ≤ 65535 := by unfold sumL; omega
theorem sumL_zero (l : List UInt8) : sumL l = 0 ↔ fold (acc true l) = 65535 := by unfold sumL; have := fold_le (acc true l); omega
end Go.Proofs.Ytdljjcnihajchaa.P4
