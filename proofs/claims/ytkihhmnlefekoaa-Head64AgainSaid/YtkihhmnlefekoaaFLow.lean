/-
  Proved here: plain facts on the words of a text, all added, and on folding such a number.
  Conditions: none.
  Proved here: plain facts on the document's words of a text.
  Conditions: none.
  Proved here: what sum.added, sum.total, sum.Of and sum.Right answer.
  Conditions: the pieces' cells hold texts, at most 2^40 bytes in all.
  Proved here: what small conversions of bytes answer.
  Conditions: none.
  Proved here: what the document's Words answers.
  Conditions: a text of at most 70000 bytes.
  Proved here: what num.Big answers where the number fits.
  Conditions: none.
-/
import Derived.Test.YtkihhmnlefekoaaProg
import Derived.WalkKit
import Derived.Handy
import Derived.Lib.Hide
import Derived.BigQuiet
import Derived.Deep.QuietTactic
import Derived.WalkSpells
import Derived.OneCell
import Derived.Below
import Derived.Outline
import Derived.Laws.BytesArg
import Derived.OwnWalk
import Derived.Laws.AppendOwn
import Derived.Deep.RegionHeld3
import Derived.Deep.AppendLies
import Derived.KernelRfl
import Derived.IntWalk
namespace Go.Proofs.Ytkihhmnlefekoaa.P4
open Go.RowKit

/-- All words of a text added; the first byte is a higher one (true) or a lower one. -/
def acc : Bool → List UInt8 → Nat
  | _, [] => 0
  | true, a :: r => a.toNat * 256 + acc false r
  | false, a :: r => a.toNat + acc true r
def evn (n : Nat) : Bool := n % 2 == 0
theorem evn_succ (n : Nat) : evn (n + 1) = !evn n := by
  unfold evn
  rcases Nat.mod_two_eq_zero_or_one n with h | h
  · have : (n + 1) % 2 = 1 := by omega
    simp [h, this]
  · have : (n + 1) % 2 = 0 := by omega
    simp [h, this]
theorem evn_add (n m : Nat) : evn (n + m) = (evn n == evn m) := by
  unfold evn
  rcases Nat.mod_two_eq_zero_or_one n with h | h <;> rcases Nat.mod_two_eq_zero_or_one m with h' | h'
  · have : (n + m) % 2 = 0 := by omega
    simp [h, h', this]
  · have : (n + m) % 2 = 1 := by omega
    simp [h, h', this]
  · have : (n + m) % 2 = 1 := by omega
    simp [h, h', this]
  · have : (n + m) % 2 = 0 := by omega
    simp [h, h', this]
theorem acc_append (l m : List UInt8) : ∀ h, acc h (l ++ m) = acc h l + acc (h == evn l.length) m := by
  induction l with
  | nil => intro h; cases h <;> simp [acc, evn]
  | cons a r ih =>
    intro h
    rw [List.length_cons, evn_succ]
    cases h
    · show a.toNat + acc true (r ++ m) = a.toNat + acc true r + _
      rw [ih true]
      cases evn r.length <;> simp <;> omega
    · show a.toNat * 256 + acc false (r ++ m) = a.toNat * 256 + acc false r + _
      rw [ih false]
      cases evn r.length <;> simp <;> omega
theorem acc_even {l : List UInt8} (m : List UInt8) (hl : evn l.length = true) : acc true (l ++ m) = acc true l + acc true m := by
  rw [acc_append, hl]; simp
theorem acc_high {l : List UInt8} (c : UInt8) (hl : evn l.length = true) : acc true (l ++ [c]) = acc true l + c.toNat * 256 := by
  rw [acc_append, hl]; simp [acc]
theorem acc_low {l : List UInt8} (c : UInt8) (hl : evn l.length = false) : acc true (l ++ [c]) = acc true l + c.toNat := by
  rw [acc_append, hl]; simp [acc]
theorem acc_le (l : List UInt8) : ∀ h, acc h l ≤ 65280 * l.length := by
  induction l with
  | nil => intro h; cases h <;> simp [acc]
  | cons a r ih =>
    intro h
    have ha := a.toNat_lt
    have h1 := ih true
    have h2 := ih false
    cases h <;> simp only [acc, List.length_cons] <;> omega
/-- The words of a text come to at most 65535 each. -/
theorem acc_words : ∀ (n : Nat) (l : List UInt8), l.length ≤ n → acc true l ≤ 65535 * ((l.length + 1) / 2)
  | 0, l, h => by
    have : l = [] := List.eq_nil_of_length_eq_zero (by omega)
    subst this; simp [acc]
  | n + 1, [], _ => by simp [acc]
  | n + 1, [a], _ => by have := a.toNat_lt; simp only [acc, List.length_cons, List.length_nil]; omega
  | n + 1, a :: b :: r, h => by
    have ha := a.toNat_lt
    have hb := b.toNat_lt
    have := acc_words n r (by simp at h; omega)
    simp only [acc, List.length_cons] at *
    omega
theorem acc_words' (l : List UInt8) : acc true l ≤ 65535 * ((l.length + 1) / 2) := acc_words _ l (Nat.le_refl _)
theorem acc_zero (l : List UInt8) : ∀ h, acc h l = 0 ↔ ∀ c ∈ l, c.toNat = 0 := by
  induction l with
  | nil => intro h; cases h <;> simp [acc]
  | cons a r ih =>
    intro h
    have h1 := ih true
    have h2 := ih false
    cases h
    · simp only [acc, List.mem_cons, forall_eq_or_imp, ← h1]; omega
    · simp only [acc, List.mem_cons, forall_eq_or_imp, ← h2]; omega

/-- A number with all above its lowest 16 bits added to these, till nothing is above them. -/
def fold (n : Nat) : Nat := if n = 0 then 0 else (n - 1) % 65535 + 1
theorem fold_small {n : Nat} (h : n ≤ 65535) : fold n = n := by unfold fold; split <;> omega
theorem fold_step {n : Nat} (h : 65535 < n) : fold (n / 65536 + n % 65536) = fold n := by
  unfold fold
  rw [if_neg (by omega), if_neg (by omega)]
  omega
theorem fold_le (n : Nat) : fold n ≤ 65535 := by unfold fold; split <;> omega
theorem fold_mod (n : Nat) : fold n % 65535 = n % 65535 := by unfold fold; split <;> omega
theorem fold_zero (n : Nat) : fold n = 0 ↔ n = 0 := by unfold fold; split <;> omega
theorem fold_eq {a b : Nat} (h : a % 65535 = b % 65535) (h0 : a = 0 ↔ b = 0) : fold a = fold b := by
  unfold fold
  by_cases ha : a = 0
  · rw [if_pos ha, if_pos (h0.1 ha)]
  · rw [if_neg ha, if_neg (fun h => ha (h0.2 h))]; omega

theorem fold_form (n : Nat) : ∃ q, n = 65535 * q + fold n := by
  unfold fold
  split
  · exact ⟨0, by omega⟩
  · exact ⟨(n - 1) / 65535, by omega⟩
theorem fold_full {n : Nat} (h0 : 0 < n) (q : Nat) (h : n = 65535 * q) : fold n = 65535 := by
  have h1 := fold_le n
  obtain ⟨p, hp⟩ := fold_form n
  have h2 := fold_zero n
  omega
theorem fold_uniq {n v q : Nat} (h : n = 65535 * q + v) (hv : v ≤ 65535) (h0 : v = 0 → n = 0) : fold n = v := by
  have h1 := fold_le n
  obtain ⟨p, hp⟩ := fold_form n
  have h2 := fold_zero n
  omega
theorem fold_twice (a : Nat) : fold (a + a) = if 65535 < 2 * fold a then 2 * fold a - 65535 else 2 * fold a := by
  obtain ⟨q, hq⟩ := fold_form a
  have h1 := fold_le a
  have h2 := fold_zero a
  generalize fold a = f at *
  split
  · exact fold_uniq (q := 2 * q + 1) (by omega) (by omega) (by omega)
  · exact fold_uniq (q := 2 * q) (by omega) (by omega) (by omega)
/-- A number and what lacks to 65535 of its fold. -/
theorem fold_own {a : Nat} (h : 0 < a) : fold (a + (65535 - fold a)) = 65535 := by
  obtain ⟨q, hq⟩ := fold_form a
  have h1 := fold_le a
  generalize fold a = f at *
  exact fold_full (by omega) (q + 1) (by omega)
theorem fold_own2 {a b : Nat} (h : 0 < a) : fold (a + (65535 - fold a) + (b + (65535 - fold b))) = 65535 := by
  obtain ⟨q, hq⟩ := fold_form a
  obtain ⟨p, hp⟩ := fold_form b
  have h1 := fold_le a
  have h2 := fold_le b
  generalize fold a = f at *
  generalize fold b = g at *
  exact fold_full (by omega) (q + 1 + (p + 1)) (by omega)

/-- A piece p of a text of total p + r changes to o. -/
theorem fold_upd {T p o r W : Nat} (hT : T = p + r) (h0 : 0 < o + r) (hp : p ≤ 65535 * W) : fold (fold T + (65535 * W - p) + o) = fold (o + r) := by
  obtain ⟨q, hq⟩ := fold_form T
  obtain ⟨q', hq'⟩ := fold_form (o + r)
  have h1 := fold_le T
  have h2 := fold_le (o + r)
  have h3 := fold_zero T
  have h4 := fold_zero (o + r)
  generalize fold T = f at *
  generalize fold (o + r) = g at *
  have h5 : q ≤ q' + W := by omega
  exact fold_uniq (q := q' + W - q) (by omega) h2 (by omega)
/-- Two changes, one behind the other. -/
theorem fold_chain {X b c W : Nat} (hX : 0 < X) (hb : b ≤ 65535 * W) : fold (fold (X + b) + (65535 * W - b) + c) = fold (X + c) := by
  have := fold_upd (T := X + b) (p := b) (o := c) (r := X) (W := W) (by omega) (by omega) hb
  rw [this, Nat.add_comm]
theorem fold_more {X W : Nat} (hX : 0 < X) : fold (X + 65535 * W) = fold X := by
  obtain ⟨q, hq⟩ := fold_form X
  have h2 := fold_zero X
  exact fold_uniq (q := q + W) (by omega) (fold_le X) (by omega)

/-- Texts, one behind the other. -/
def catL (S : Nat → ByteArray) : Nat → List UInt8
  | 0 => []
  | k + 1 => catL S k ++ (S k).data.toList
theorem catL_mono (S : Nat → ByteArray) (k : Nat) : ∀ m, (catL S k).length ≤ (catL S (k + m)).length
  | 0 => Nat.le_refl _
  | m + 1 => by
    have := catL_mono S k m
    show _ ≤ (catL S (k + m) ++ (S (k + m)).data.toList).length
    rw [List.length_append]
    omega
theorem catL_le (S : Nat → ByteArray) {k n : Nat} (h : k ≤ n) : (catL S k).length ≤ (catL S n).length := by
  obtain ⟨m, rfl⟩ : ∃ m, n = k + m := ⟨n - k, by omega⟩
  exact catL_mono S k m
/-- What the program's sum of a text is. -/
def sumL (l : List UInt8) : Nat := 65535 - fold (acc true l)
theorem sumL_le (l : List UInt8) : sumL l ≤ 65535 := by unfold sumL; omega
theorem sumL_zero (l : List UInt8) : sumL l = 0 ↔ fold (acc true l) = 65535 := by unfold sumL; have := fold_le (acc true l); omega

/-- Word j of a text. -/
def wd (l : List UInt8) (j : Nat) : Nat := 256 * (l.getD (2 * j) 0).toNat + (l.getD (2 * j + 1) 0).toNat
def wds (l : List UInt8) : List Nat := (List.range ((l.length + 1) / 2)).map (wd l)
theorem wds_cons (a b : UInt8) (r : List UInt8) : wds (a :: b :: r) = (256 * a.toNat + b.toNat) :: wds r := by
  unfold wds
  have e : ((a :: b :: r).length + 1) / 2 = (r.length + 1) / 2 + 1 := by simp only [List.length_cons]; omega
  rw [e, List.range_succ_eq_map, List.map_cons, List.map_map]
  rfl
theorem wds_sum : ∀ (n : Nat) (l : List UInt8), l.length ≤ n → (wds l).sum = acc true l
  | 0, l, h => by
    have : l = [] := List.eq_nil_of_length_eq_zero (by omega)
    subst this; rfl
  | n + 1, [], _ => rfl
  | n + 1, [a], _ => by
    simp [wds, wd, acc]
    omega
  | n + 1, a :: b :: r, h => by
    rw [wds_cons, List.sum_cons, wds_sum n r (by simp at h; omega)]
    simp only [acc]
    omega
theorem wds_acc (l : List UInt8) : (wds l).sum = acc true l := wds_sum _ l (Nat.le_refl _)
theorem wd_lt (l : List UInt8) (j : Nat) : wd l j ≤ 65535 := by
  have h1 := (l.getD (2 * j) 0).toNat_lt
  have h2 := (l.getD (2 * j + 1) 0).toNat_lt
  unfold wd
  omega
theorem wds_le (l : List UInt8) : ∀ x ∈ wds l, x ≤ 65535 := by
  intro x hx
  unfold wds at hx
  obtain ⟨j, _, rfl⟩ := List.mem_map.1 hx
  exact wd_lt l j
theorem wds_len (l : List UInt8) : (wds l).length = (l.length + 1) / 2 := by simp [wds]
theorem wds_take (l : List UInt8) (k : Nat) : (List.range (k + 1)).map (wd l) = (List.range k).map (wd l) ++ [wd l k] := by simp [List.range_succ]
theorem sum_le (l : List Nat) (h : ∀ x ∈ l, x ≤ 65535) : l.sum ≤ 65535 * l.length := by
  induction l with
  | nil => simp
  | cons a r ih =>
    have := ih (fun x hx => h x (List.mem_cons_of_mem _ hx))
    have := h a (List.mem_cons_self ..)
    simp only [List.sum_cons, List.length_cons]
    omega
theorem sum_take (l : List Nat) (k : Nat) (hk : k < l.length) : (l.take (k + 1)).sum = (l.take k).sum + l[k] := by
  rw [List.take_succ_eq_append_getElem hk, List.sum_append]
  simp

theorem take_snoc (s : ByteArray) (k : Nat) (h : k < s.size) : s.data.toList.take (k + 1) = s.data.toList.take k ++ [s[k]] := by
  rw [List.take_succ_eq_append_getElem (by simpa using h)]; rfl

theorem and_low (x : Int) (k : Nat) (hk : k ≤ 32) (m : Int) (hm : m = ((2 ^ k - 1 : Nat) : Int)) : bits .and .i64 x m = x % ((2 ^ k : Nat) : Int) := by
  subst hm
  have hp : 2 ^ k ≤ 2 ^ 32 := Nat.pow_le_pow_right (by omega) hk
  have hp0 : 0 < 2 ^ k := Nat.pow_pos (by omega)
  have hd : (2 ^ k : Nat) ∣ 2 ^ 64 := Nat.pow_dvd_pow 2 (by omega)
  have h2 : (BitVec.ofInt 64 ((2 ^ k - 1 : Nat) : Int)).toNat = 2 ^ k - 1 := by
    rw [BitVec.ofInt_natCast, BitVec.toNat_ofNat]; exact Nat.mod_eq_of_lt (by omega)
  show IntKind.i64.wrap ((BitVec.ofInt 64 x &&& BitVec.ofInt 64 ((2 ^ k - 1 : Nat) : Int)).toNat : Int) = _
  rw [BitVec.toNat_and, h2, Nat.and_two_pow_sub_one_eq_mod, BitVec.toNat_ofInt]
  have e : (((x % ((2 ^ 64 : Nat) : Int)).toNat % 2 ^ k : Nat) : Int) = x % ((2 ^ k : Nat) : Int) := by
    rw [Int.natCast_emod, Int.toNat_of_nonneg (Int.emod_nonneg _ (by decide))]
    exact Int.emod_emod_of_dvd _ (Int.natCast_dvd_natCast.2 hd)
  rw [e, IntKind.wrap_i64]
  have h3 : 0 ≤ x % ((2 ^ k : Nat) : Int) := Int.emod_nonneg _ (by omega)
  have h4 : x % ((2 ^ k : Nat) : Int) < ((2 ^ k : Nat) : Int) := Int.emod_lt_of_pos _ (by omega)
  omega
theorem and_16 (x : Int) : bits .and .i64 x 65535 = x % 65536 := and_low x 16 (by decide) _ (by decide)
theorem and_8 (x : Int) : bits .and .i64 x 255 = x % 256 := and_low x 8 (by decide) _ (by decide)
theorem and_32 (x : Int) : bits .and .i64 x 4294967295 = x % 4294967296 := and_low x 32 (by decide) _ (by decide)

/-- The cells of a slice of texts. -/
def Pcs (w : World) (ao : Option Addr) (len : Nat) (S : Nat → ByteArray) : Prop :=
  ∀ i, i < len → ∃ b o, ao = some ⟨b, o, none⟩ ∧ w.cell? ⟨b, o + i, none⟩ = some (.string (S i))

set_option maxRecDepth 100000 in
set_option maxHeartbeats 1000000 in
theorem added_any (ao : Option Addr) (len cap : Nat) (S : Nat → ByteArray) (w : World) (hl : len ≤ 1099511627776) (hP : Pcs w ao len S) (hz : (catL S len).length ≤ 1099511627776) :
    Calls Try.prog 63 #[.slice ao len cap] w fun e w' => e = .returned (.int .i64 (acc true (catL S len) : Nat)) ∧ w = w' := by
  have HP := Lib.hid hP
  have HZ := Lib.hid hz
  clear hP hz
  go_enter Try.func63, Try.ntmps63
  go_wp2_with fail
  go_loop [3, 4, 10] (fun n h i => ∃ k : Nat, k ≤ len ∧ i = .int .i64 k ∧ n = .int .i64 (acc true (catL S k) : Nat) ∧ h = .bool (evn (catL S k).length)) (fun _ _ i => len - (intOf i).toNat)
  case atStart => exact ⟨0, Nat.zero_le _, rfl, rfl, rfl⟩
  case round =>
    obtain ⟨k, hk, rfl, rfl, rfl⟩ := hrel
    by_cases hlt : k < len
    · obtain ⟨b, o, rfl, hc⟩ := HP.out k hlt
      have hsz : (catL S k).length + (S k).size ≤ 1099511627776 := by
        have h1 := catL_le S (show k + 1 ≤ len from hlt)
        have h2 := HZ.out
        rw [show (catL S (k + 1)).length = (catL S k).length + (S k).size by show (catL S k ++ (S k).data.toList).length = _; simp] at h1
        omega
      go_wp2_with fail
      go_loop [3, 4, 16] (fun n h i => ∃ j : Nat, j ≤ (S k).size ∧ i = .int .i64 j ∧ n = .int .i64 (acc true (catL S k ++ (S k).data.toList.take j) : Nat) ∧ h = .bool (evn (catL S k ++ (S k).data.toList.take j).length)) (fun _ _ i => (S k).size - (intOf i).toNat)
      case atStart => exact ⟨0, Nat.zero_le _, rfl, by simp, by simp⟩
      case round =>
        obtain ⟨j, hj, rfl, rfl, rfl⟩ := hrel
        have hL : (catL S k ++ (S k).data.toList.take j).length = (catL S k).length + j := by simp; omega
        have ha := acc_le (catL S k ++ (S k).data.toList.take j) true
        have HL := Lib.hid hL
        have hb1 : acc true (catL S k ++ (S k).data.toList.take j) ≤ 65280 * 1099511627776 := by omega
        clear ha hL
        by_cases hlt2 : j < (S k).size
        · have h8 := (S k)[j].toNat_lt
          have HT := Lib.hid (take_snoc (S k) j hlt2)
          have HS : Hid (evn ((catL S k ++ (S k).data.toList.take (j + 1)).length) = !evn (catL S k ++ (S k).data.toList.take j).length) := Lib.hid (by rw [HT.out, ← List.append_assoc, List.length_append, List.length_singleton, evn_succ])
          cases hb : evn (catL S k ++ (S k).data.toList.take j).length
          · have HA := Lib.hid (acc_low (S k)[j] hb)
            rw [hb] at HS
            clear hb
            go_wp2_with fail
            go_round
            case rel => exact ⟨j + 1, by omega, by go_num, by rw [HT.out, ← List.append_assoc, HA.out]; go_num, by rw [HS.out]; rfl⟩
            case measure => simp [intOf]; omega
          · have HA := Lib.hid (acc_high (S k)[j] hb)
            rw [hb] at HS
            clear hb
            go_wp2_with fail
            go_round
            case rel => exact ⟨j + 1, by omega, by go_num, by rw [HT.out, ← List.append_assoc, HA.out]; go_num, by rw [HS.out]; rfl⟩
            case measure => simp [intOf]; omega
        · go_wp2_with fail
          have hjj : (S k).data.toList.take j = (S k).data.toList := List.take_of_length_le (by simp; omega)
          go_round
          case rel => exact ⟨k + 1, by omega, by go_num, by rw [hjj]; rfl, by rw [hjj]; rfl⟩
          case measure => simp [intOf]; omega
    · go_wp2_with fail
      go_ret
      obtain rfl : k = len := by omega
      exact ⟨rfl, rfl⟩

set_option maxRecDepth 100000 in
theorem total_any (n : Nat) (w : World) (hn : n < 4611686018427387904) :
    Calls Try.prog 62 #[.int .i64 n] w fun e w' => e = .returned (.int .i64 (fold n : Nat)) ∧ w = w' := by
  go_enter Try.func62, Try.ntmps62
  go_wp2_with fail
  go_loop [0] (fun t => ∃ m : Nat, t = .int .i64 m ∧ m < 4611686018427387904 ∧ Hid (fold m = fold n)) (fun t => (intOf t).toNat)
  case atStart => exact ⟨n, rfl, hn, Lib.hid rfl⟩
  case round =>
    obtain ⟨m, rfl, hm, hf⟩ := hrel
    by_cases hlt : 65535 < m
    · have HF := Lib.hid (fold_step hlt)
      have ha := and_16 m
      go_wp2_with fail
      go_round
      case rel => exact ⟨m / 65536 + m % 65536, by go_num, by omega, Lib.hid (HF.out.trans hf.out)⟩
      case measure => simp [intOf]; omega
    · go_wp2_with fail
      go_ret
      have e : fold n = m := by rw [← hf.out, fold_small (by omega)]
      rw [e]
      exact ⟨rfl, rfl⟩
theorem total_at (x : Int) (n : Nat) (w : World) (hx : x = n) (hn : n < 4611686018427387904) :
    Calls Try.prog 62 #[.int .i64 x] w fun e w' => e = .returned (.int .i64 (fold n : Nat)) ∧ w = w' := by
  subst hx
  exact total_any n w hn
theorem of_any (ao : Option Addr) (len cap : Nat) (S : Nat → ByteArray) (w : World) (hl : len ≤ 1099511627776) (hP : Pcs w ao len S) (hz : (catL S len).length ≤ 1099511627776) :
    Calls Try.prog 41 #[.slice ao len cap] w fun e w' => e = .returned (.int .i64 (sumL (catL S len) : Nat)) ∧ w = w' := by
  have ha := acc_le (catL S len) true
  have hf := fold_le (acc true (catL S len))
  have HS := Lib.hid (show ((sumL (catL S len) : Nat) : Int) = 65535 - (fold (acc true (catL S len)) : Nat) by unfold sumL; omega)
  have HA := Lib.hid (added_any ao len cap S w hl hP hz)
  have HT := Lib.hid (total_any (acc true (catL S len)) w (by omega))
  clear hP hl
  go_enter Try.func41, Try.ntmps41
  go_wp2_with fail
  refine HA.out.mono ?_
  rintro e w' ⟨rfl, rfl⟩
  go_wp2_with fail
  refine HT.out.mono ?_
  rintro e w' ⟨rfl, rfl⟩
  go_wp2_with fail
  go_ret
  rw [HS.out]
  exact ⟨rfl, rfl⟩
/-- Is a text right? -/
def rightB (l : List UInt8) : Bool := ((sumL l : Nat) : Int) == 0
theorem rightB_yes {l : List UInt8} (h : fold (acc true l) = 65535) : rightB l = true := by
  have h1 := (sumL_zero l).2 h
  unfold rightB
  rw [h1]; rfl
theorem rightB_iff (l : List UInt8) : rightB l = true ↔ sumL l = 0 := by
  unfold rightB
  simp
/-! Texts given one by one. -/
def nth (l : List ByteArray) (i : Nat) : ByteArray := l.getD i ⟨#[]⟩
def allOf (l : List ByteArray) : List UInt8 := l.flatMap (·.data.toList)
theorem catL_nth (l : List ByteArray) : ∀ k, k ≤ l.length → catL (nth l) k = allOf (l.take k)
  | 0, _ => by simp [catL, allOf]
  | k + 1, h => by
    have hk : k < l.length := h
    show catL (nth l) k ++ (nth l k).data.toList = _
    rw [catL_nth l k (by omega), List.take_succ_eq_append_getElem hk]
    unfold allOf nth
    rw [List.flatMap_append, List.getD_eq_getElem?_getD, List.getElem?_eq_getElem hk]
    simp
theorem pcs_new (w : World) (l : List ByteArray) : Pcs (w.alloc (.cells (l.map Value.string).toArray 9)) (some ⟨w.heap.size, 0, none⟩) l.length (nth l) := by
  intro i hi
  refine ⟨_, _, rfl, ?_⟩
  rw [World.cell?_alloc_new]
  unfold nth
  rw [List.getD_eq_getElem?_getD, List.getElem?_eq_getElem hi]
  simp [hi]
theorem of_new (w : World) (l : List ByteArray) (hl : l.length ≤ 1000) (hz : (allOf l).length ≤ 1099511627776) :
    Calls Try.prog 41 #[.slice (some ⟨w.heap.size, 0, none⟩) l.length l.length] (w.alloc (.cells (l.map Value.string).toArray 9)) fun e w' => e = .returned (.int .i64 (sumL (allOf l) : Nat)) ∧ Below w.heap.size w w' := by
  have e : catL (nth l) l.length = allOf l := by rw [catL_nth l _ (Nat.le_refl _), List.take_length]
  refine (of_any _ _ _ (nth l) _ (by omega) (pcs_new w l) (by rw [e]; exact hz)).mono ?_
  rintro _ _ ⟨rfl, rfl⟩
  rw [e]
  exact ⟨rfl, (Below.refl _ _).alloc (Nat.le_refl _) _⟩
theorem added_new (w : World) (l : List ByteArray) (hl : l.length ≤ 1000) (hz : (allOf l).length ≤ 1099511627776) :
    Calls Try.prog 63 #[.slice (some ⟨w.heap.size, 0, none⟩) l.length l.length] (w.alloc (.cells (l.map Value.string).toArray 9)) fun e w' => e = .returned (.int .i64 (acc true (allOf l) : Nat)) ∧ Below w.heap.size w w' := by
  have e : catL (nth l) l.length = allOf l := by rw [catL_nth l _ (Nat.le_refl _), List.take_length]
  refine (added_any _ _ _ (nth l) _ (by omega) (pcs_new w l) (by rw [e]; exact hz)).mono ?_
  rintro _ _ ⟨rfl, rfl⟩
  rw [e]
  exact ⟨rfl, (Below.refl _ _).alloc (Nat.le_refl _) _⟩
section
variable (w : World) (a b c d f : ByteArray)
theorem len_all1 : (allOf [a]).length = a.size := by simp [allOf]
theorem len_all2 : (allOf [a, b]).length = a.size + b.size := by simp [allOf]
theorem len_all4 : (allOf [a, b, c, d]).length = a.size + (b.size + (c.size + d.size)) := by simp [allOf]
theorem len_all5 : (allOf [a, b, c, d, f]).length = a.size + (b.size + (c.size + (d.size + f.size))) := by simp [allOf]
theorem added1 (h : a.size ≤ 1099511627776) :
    Calls Try.prog 63 #[.slice (some ⟨w.heap.size, 0, none⟩) 1 1] (w.alloc (.cells #[.string a] 9)) fun e w' => e = .returned (.int .i64 (acc true a.data.toList : Nat)) ∧ Below w.heap.size w w' := by
  have := added_new w [a] (by simp) (by rw [len_all1]; omega)
  rwa [show allOf [a] = a.data.toList by simp [allOf]] at this
theorem of1 (h : a.size ≤ 1099511627776) :
    Calls Try.prog 41 #[.slice (some ⟨w.heap.size, 0, none⟩) 1 1] (w.alloc (.cells #[.string a] 9)) fun e w' => e = .returned (.int .i64 (sumL a.data.toList : Nat)) ∧ Below w.heap.size w w' := by
  have := of_new w [a] (by simp) (by rw [len_all1]; omega)
  rwa [show allOf [a] = a.data.toList by simp [allOf]] at this
theorem of2 (h : a.size + b.size ≤ 1099511627776) :
    Calls Try.prog 41 #[.slice (some ⟨w.heap.size, 0, none⟩) 2 2] (w.alloc (.cells #[.string a, .string b] 9)) fun e w' => e = .returned (.int .i64 (sumL (allOf [a, b]) : Nat)) ∧ Below w.heap.size w w' :=
  of_new w [a, b] (by simp) (by rw [len_all2]; omega)
theorem of4 (h : a.size + (b.size + (c.size + d.size)) ≤ 1099511627776) :
    Calls Try.prog 41 #[.slice (some ⟨w.heap.size, 0, none⟩) 4 4] (w.alloc (.cells #[.string a, .string b, .string c, .string d] 9)) fun e w' => e = .returned (.int .i64 (sumL (allOf [a, b, c, d]) : Nat)) ∧ Below w.heap.size w w' :=
  of_new w [a, b, c, d] (by simp) (by rw [len_all4]; omega)
end


theorem take_all (l : List UInt8) (k : Nat) (h : l.length ≤ k) : l.take k = l := List.take_of_length_le h
theorem conv2 (a b : Int) (w : World) : (convert 67 9 (.slice (some ⟨w.heap.size, 0, none⟩) 2 2)).run Try.prog (w.alloc (.cells #[.int .u8 a, .int .u8 b] 5)) = .ok (.string (strOfNums [a, b])) (w.alloc (.cells #[.int .u8 a, .int .u8 b] 5)) := by
  refine run_convert_bytes_arg _ 67 5 Try.underlying67 Try.underlying5 w.heap.size 0 2 2 [a, b] rfl (fun i hi => ?_) 9 Try.underlying9
  rw [World.cell?_alloc_new]
  rcases i with _ | _ | i
  · rfl
  · rfl
  · omega
/-- A number's two bytes. -/
def twoB (n : Nat) : ByteArray := strOfNums [(n : Int) / 256, (n : Int) % 256]
theorem twoB_size (n : Nat) : (twoB n).size = 2 := rfl
theorem twoB_len (n : Nat) : (twoB n).data.toList.length = 2 := rfl
theorem u8_of_int {x : Int} (h0 : 0 ≤ x) (h1 : x < 256) : (UInt8.ofNat x.toNat).toNat = x.toNat := by
  rw [UInt8.toNat_ofNat']
  omega
theorem twoB_acc {n : Nat} (h : n ≤ 65535) : acc true (twoB n).data.toList = n := by
  show (UInt8.ofNat ((n : Int) / 256).toNat).toNat * 256 + ((UInt8.ofNat ((n : Int) % 256).toNat).toNat + 0) = n
  rw [u8_of_int (by omega) (by omega), u8_of_int (by omega) (by omega)]
  omega

theorem Try.infoInt : (Try.prog.info? 3).map (fun i => (i.zero, i.size, i.bytes)) = some (some (.int .i64 0), 1, 8) := by kernel_rfl
theorem conv1 (a : Int) (w : World) : (convert 67 9 (.slice (some ⟨w.heap.size, 0, none⟩) 1 1)).run Try.prog (w.alloc (.cells #[.int .u8 a] 5)) = .ok (.string (strOfNums [a])) (w.alloc (.cells #[.int .u8 a] 5)) := by
  refine run_convert_bytes_arg _ 67 5 Try.underlying67 Try.underlying5 w.heap.size 0 1 1 [a] rfl (fun i hi => ?_) 9 Try.underlying9
  rw [World.cell?_alloc_new]
  rcases i with _ | i
  · rfl
  · omega

def ints (l : List Nat) : List Value := l.map fun x => .int .i64 (x : Nat)
/-- A slice of its own that holds these numbers. -/
def Made (w : World) (l : List Nat) (e : Ending) (w' : World) : Prop :=
  ∃ v, e = .returned v ∧ w'.ownsRow w.heap.size 3 1 v l.length (ints l) ∧ Below w.heap.size w w'
theorem ints_snoc (l : List Nat) (x : Nat) : ints (l ++ [x]) = ints l ++ [.int .i64 (x : Nat)] := by simp [ints]
theorem byte_at (s : ByteArray) (k : Nat) (h : k < s.size) : s.data.toList.getD k 0 = s[k] := by
  rw [List.getD_eq_getElem?_getD, List.getElem?_eq_getElem (by simpa using h)]; rfl

/-- A text with its last single byte brought to a word. -/
def Pad (s t : ByteArray) : Prop := t.size % 2 = 0 ∧ t.size / 2 = (s.size + 1) / 2 ∧ t.size ≤ s.size + 1 ∧ ∀ j, t.data.toList.getD j 0 = s.data.toList.getD j 0
theorem pad_even (s : ByteArray) (h : s.size % 2 = 0) : Pad s s := ⟨h, by omega, by omega, fun _ => rfl⟩
theorem pad_odd (s : ByteArray) (h : s.size % 2 = 1) : Pad s (s ++ strOfNums [0]) := by
  have e : (s ++ strOfNums [0]).size = s.size + 1 := by rw [ByteArray.size_append]; rfl
  refine ⟨by omega, by omega, by omega, fun j => ?_⟩
  have e2 : (s ++ strOfNums [0]).data.toList = s.data.toList ++ [0] := by simp [strOfNums]
  rw [e2]
  simp only [List.getD_eq_getElem?_getD, List.getElem?_append]
  split
  · rfl
  · rename_i hj
    rw [List.getElem?_eq_none (Nat.le_of_not_lt hj)]
    rcases hk : j - s.data.toList.length with _ | k <;> simp
theorem Pad.word {s t : ByteArray} (h : Pad s t) {m : Nat} (hm : m % 2 = 0) (hl : m + 1 < t.size) : wd s.data.toList (m / 2) = 256 * t[m].toNat + t[m + 1].toNat := by
  unfold wd
  rw [show 2 * (m / 2) = m by omega, ← h.2.2.2, ← h.2.2.2, byte_at t m (by omega), byte_at t (m + 1) hl]

theorem own_next {l : List UInt8} {m : Nat} {a b : Nat} {w w1 : World} {v : Value} (hw : wd l (m / 2) = 256 * a + b)
    (h : w1.ownsRow w.heap.size 3 1 v (m / 2 + 1) (ints ((List.range (m / 2)).map (wd l)) ++ [.int .i64 (256 * (a : Int) + (b : Int))])) :
    w1.ownsRow w.heap.size 3 1 v ((m + 2) / 2) (ints ((List.range ((m + 2) / 2)).map (wd l))) := by
  rw [show (m + 2) / 2 = m / 2 + 1 by omega, wds_take, ints_snoc, hw]
  exact h


theorem conv4 (a b c d : Int) (w : World) : (convert 67 9 (.slice (some ⟨w.heap.size, 0, none⟩) 4 4)).run Try.prog (w.alloc (.cells #[.int .u8 a, .int .u8 b, .int .u8 c, .int .u8 d] 5)) = .ok (.string (strOfNums [a, b, c, d])) (w.alloc (.cells #[.int .u8 a, .int .u8 b, .int .u8 c, .int .u8 d] 5)) := by
  refine run_convert_bytes_arg _ 67 5 Try.underlying67 Try.underlying5 w.heap.size 0 4 4 [a, b, c, d] rfl (fun i hi => ?_) 9 Try.underlying9
  rw [World.cell?_alloc_new]
  rcases i with _ | _ | _ | _ | i
  · rfl
  · rfl
  · rfl
  · rfl
  · omega

set_option maxRecDepth 100000 in
theorem big_ok1 (x : Int) (w : World) (h0 : 0 ≤ x) (h1 : x < 256) (h : (x / 256 != 0) = false) :
    Calls Try.prog 72 #[.int .i64 x, .int .i64 1] w fun e w' => e = .returned (.tuple #[.string (strOfNums [x]), .nilIface]) ∧ Below w.heap.size w w' := by
  have hmk : ∀ w, (Instr.makeSlice 67 (.int .i64 1) (.int .i64 1)).run Try.prog w = .ok (.slice (some ⟨w.heap.size, 0, none⟩) 1 1) (w.alloc (.cells #[.int .u8 0] 5)) := fun _ => by kernel_rfl
  have hcv := conv1
  go_enter Try.func72, Try.ntmps72
  go_wp2_with fail
  go_rounds 2
  go_ret2
  exact ⟨rfl, (Below.refl _ _).alloc (Nat.le_refl _) _⟩

set_option maxRecDepth 100000 in
theorem big_ok2 (x : Int) (w : World) (h0 : 0 ≤ x) (h1 : x < 65536) (h : (x / 65536 != 0) = false) :
    Calls Try.prog 72 #[.int .i64 x, .int .i64 2] w fun e w' => e = .returned (.tuple #[.string (strOfNums [x / 256, x % 256]), .nilIface]) ∧ Below w.heap.size w w' := by
  have hmk : ∀ w, (Instr.makeSlice 67 (.int .i64 2) (.int .i64 2)).run Try.prog w = .ok (.slice (some ⟨w.heap.size, 0, none⟩) 2 2) (w.alloc (.cells #[.int .u8 0, .int .u8 0] 5)) := fun _ => by kernel_rfl
  have hcv := conv2
  go_enter Try.func72, Try.ntmps72
  go_wp2_with fail
  go_rounds 3
  go_ret2
  exact ⟨rfl, (Below.refl _ _).alloc (Nat.le_refl _) _⟩

set_option maxRecDepth 100000 in
theorem big_ok4 (x : Int) (w : World) (h0 : 0 ≤ x) (h1 : x < 4294967296) (h : (x / 4294967296 != 0) = false) :
    Calls Try.prog 72 #[.int .i64 x, .int .i64 4] w fun e w' => e = .returned (.tuple #[.string (strOfNums [x / 16777216, x / 65536 % 256, x / 256 % 256, x % 256]), .nilIface]) ∧ Below w.heap.size w w' := by
  have hmk : ∀ w, (Instr.makeSlice 67 (.int .i64 4) (.int .i64 4)).run Try.prog w = .ok (.slice (some ⟨w.heap.size, 0, none⟩) 4 4) (w.alloc (.cells #[.int .u8 0, .int .u8 0, .int .u8 0, .int .u8 0] 5)) := fun _ => by kernel_rfl
  have hcv := conv4
  go_enter Try.func72, Try.ntmps72
  go_wp2_with fail
  go_rounds 5
  go_ret2
  exact ⟨rfl, (Below.refl _ _).alloc (Nat.le_refl _) _⟩
theorem noHigh (x k : Int) (h0 : 0 ≤ x) (h : x < k) : (x / k != 0) = false := by
  rw [Int.ediv_eq_zero_of_lt h0 h]; rfl

end Go.Proofs.Ytkihhmnlefekoaa.P4
