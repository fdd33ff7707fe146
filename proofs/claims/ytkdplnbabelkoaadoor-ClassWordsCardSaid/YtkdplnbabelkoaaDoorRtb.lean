/-
  Proved here: plain facts: an address's own word is short, and of plain signs; an IPv4 word is the only one.
  Conditions: as each fact says.
-/
import Derived.Test.YtkdplnbabelkoaaDoorRt
namespace Go.Proofs.YtkdplnbabelkoaaDoor
open Go.RowKit

/-! The only word of an IPv4 address. -/
theorem dig_of (a : UInt8) (h : isDig a = true) : ∃ d : Nat, d < 10 ∧ a = UInt8.ofNat (48 + d) := by
  unfold isDig at h
  simp only [Bool.and_eq_true, decide_eq_true_eq] at h
  refine ⟨a.toNat - 48, by omega, ?_⟩
  rw [show 48 + (a.toNat - 48) = a.toNat by omega]
  simp
theorem numb_itoa (p : List UInt8) (h : 0 ≤ numb p 255) : Lib.itoa (numb p 255) = p := by
  have k1 : ∀ a : Fin 10, Lib.itoa (numb [UInt8.ofNat (48 + a.val)] 255) = [UInt8.ofNat (48 + a.val)] := by decide +kernel
  have k2 : ∀ a b : Fin 10, 0 ≤ numb [UInt8.ofNat (48 + a.val), UInt8.ofNat (48 + b.val)] 255 → Lib.itoa (numb [UInt8.ofNat (48 + a.val), UInt8.ofNat (48 + b.val)] 255) = [UInt8.ofNat (48 + a.val), UInt8.ofNat (48 + b.val)] := by decide +kernel
  have k3 : ∀ a b c : Fin 10, 0 ≤ numb [UInt8.ofNat (48 + a.val), UInt8.ofNat (48 + b.val), UInt8.ofNat (48 + c.val)] 255 → Lib.itoa (numb [UInt8.ofNat (48 + a.val), UInt8.ofNat (48 + b.val), UInt8.ofNat (48 + c.val)] 255) = [UInt8.ofNat (48 + a.val), UInt8.ofNat (48 + b.val), UInt8.ofNat (48 + c.val)] := by decide +kernel
  have hu := h
  unfold numb at hu
  split at hu
  · omega
  · rename_i hc
    split at hu
    · rename_i hd
      match p, h, hd, hc with
      | [], _, _, hc => exact absurd (.inl rfl) hc
      | [a], _, hd, _ =>
        simp only [List.all_cons, List.all_nil, Bool.and_eq_true] at hd
        obtain ⟨x, hx, rfl⟩ := dig_of a hd.1
        exact k1 ⟨x, hx⟩
      | [a, b], h, hd, _ =>
        simp only [List.all_cons, List.all_nil, Bool.and_eq_true] at hd
        obtain ⟨x, hx, rfl⟩ := dig_of a hd.1
        obtain ⟨y, hy, rfl⟩ := dig_of b hd.2.1
        exact k2 ⟨x, hx⟩ ⟨y, hy⟩ h
      | [a, b, c], h, hd, _ =>
        simp only [List.all_cons, List.all_nil, Bool.and_eq_true] at hd
        obtain ⟨x, hx, rfl⟩ := dig_of a hd.1
        obtain ⟨y, hy, rfl⟩ := dig_of b hd.2.1
        obtain ⟨z, hz, rfl⟩ := dig_of c hd.2.2.1
        exact k3 ⟨x, hx⟩ ⟨y, hy⟩ ⟨z, hz⟩ h
      | a :: b :: c :: d :: r, _, _, hc => exact absurd (.inr (.inl (by simp))) hc
    · omega
theorem txt4_again (s : ByteArray) (h : ok4 s = true) : txt4 (val4u s) = bl s := by
  have hv : val4 s = (parts s 46).map fun t => numb (bl t) 255 := by unfold val4; rw [if_pos h]; rfl
  have h0 := h
  unfold ok4 at h0
  simp only [Bool.and_eq_true, decide_eq_true_eq, List.all_eq_true] at h0
  have key : (val4u s).map (fun c => Lib.itoa ((c.toNat : Nat) : Int)) = (parts s 46).map bl := by
    unfold val4u
    rw [hv, List.map_map, List.map_map]
    apply List.map_congr_left
    intro t ht
    have h1 : 0 ≤ numb (bl t) 255 := h0.2 _ (List.mem_map_of_mem ht)
    have h2 := numb_le (bl t) 255 h1
    show Lib.itoa (((UInt8.ofNat (numb (bl t) 255).toNat).toNat : Nat) : Int) = bl t
    have e : ((UInt8.ofNat (numb (bl t) 255).toNat).toNat : Int) = numb (bl t) 255 := by
      rw [UInt8.toNat_ofNat']
      omega
    rw [e]
    exact numb_itoa _ h1
  unfold txt4
  rw [key, parts_spL]
  exact jn_spL 46 _
/-! Signs and lengths. -/
def sl (ws : List (List UInt8)) : Nat := (ws.map List.length).sum
theorem sl_app (a b : List (List UInt8)) : sl (a ++ b) = sl a + sl b := by unfold sl; simp
theorem sl_le (ws : List (List UInt8)) (m : Nat) (h : ∀ p ∈ ws, p.length ≤ m) : sl ws ≤ m * ws.length := by
  induction ws with
  | nil => exact Nat.le_refl _
  | cons p r ih =>
    have h1 := h p (by simp)
    have h2 := ih (fun q hq => h q (by simp [hq]))
    show p.length + sl r ≤ m * (r.length + 1)
    rw [Nat.mul_add]
    omega
theorem jn_sl (m : UInt8) (ws : List (List UInt8)) : (jn [m] ws).length = sl ws + (ws.length - 1) := jn_length m ws
theorem txt4_len (x : List UInt8) (hx : x.length = 4) : (txt4 x).length ≤ 15 := by
  unfold txt4
  rw [jn_sl, List.length_map, hx]
  have := sl_le (x.map fun c => Lib.itoa ((c.toNat : Nat) : Int)) 3 (fun p hp => by
    rw [List.mem_map] at hp
    obtain ⟨c, _, rfl⟩ := hp
    exact itoa_len _ c.toNat_lt)
  rw [List.length_map, hx] at this
  omega
theorem wds6_four (x : List UInt8) : ∀ p ∈ wds6 x, p.length ≤ 4 := fun p hp => by
  obtain ⟨i, rfl⟩ := wds6_mem x p hp
  exact (hexd_len _ (grpN_lt x i)).2
theorem txt6_len (x : List UInt8) : (txt6 x).length ≤ 39 := by
  have hl := wds6_len x
  have hin : lrF x + lrN x ≤ 8 := (lrS_in x 8).1
  unfold txt6
  split
  · rw [jn_sl, hl]
    have := sl_le (wds6 x) 4 (wds6_four x)
    omega
  · rename_i h2
    rw [List.length_append, List.length_append, jn_sl, jn_sl]
    have h3 := sl_le ((wds6 x).take (lrF x)) 4 (fun p hp => wds6_four x p (List.mem_of_mem_take hp))
    have h4 := sl_le ((wds6 x).drop (lrF x + lrN x)) 4 (fun p hp => wds6_four x p (List.mem_of_mem_drop hp))
    rw [List.length_take, hl] at h3
    rw [List.length_drop, hl] at h4
    rw [List.length_take, List.length_drop, hl]
    simp only [List.length_cons, List.length_nil]
    omega
/-- A sign of an address's own word. -/
def isPl (c : UInt8) : Bool := c == 58 || (decide (48 ≤ c.toNat) && decide (c.toNat ≤ 57)) || (decide (97 ≤ c.toNat) && decide (c.toNat ≤ 102))
theorem jn_mem (sep : List UInt8) : ∀ ws : List (List UInt8), ∀ c ∈ jn sep ws, c ∈ sep ∨ ∃ p ∈ ws, c ∈ p := by
  intro ws
  induction ws with
  | nil => intro c hc; cases hc
  | cons p r ih =>
    intro c hc
    cases r with
    | nil => rw [jn_one] at hc; exact .inr ⟨p, by simp, hc⟩
    | cons q r =>
      rw [jn_two] at hc
      rcases List.mem_append.1 hc with h | h
      · exact .inr ⟨p, by simp, h⟩
      · rcases List.mem_append.1 h with h | h
        · exact .inl h
        · rcases ih c h with h | ⟨t, ht, hct⟩
          · exact .inl h
          · exact .inr ⟨t, by simp [ht], hct⟩
theorem txt6_plain (x : List UInt8) : ∀ c ∈ txt6 x, isPl c = true := by
  have h58 : isPl 58 = true := rfl
  have hw : ∀ p ∈ wds6 x, ∀ c ∈ p, isPl c = true := fun p hp c hc => by
    obtain ⟨i, rfl⟩ := wds6_mem x p hp
    have h := hexd_sign _ c hc
    unfold isPl
    rcases h with h | h
    · rw [decide_eq_true h.1, decide_eq_true h.2]; simp
    · rw [decide_eq_true h.1, decide_eq_true h.2]; simp
  intro c hc
  have hj : ∀ ws : List (List UInt8), (∀ p ∈ ws, p ∈ wds6 x) → c ∈ jn [58] ws → isPl c = true := fun ws hs h => by
    rcases jn_mem [58] ws c h with h | ⟨p, hp, hcp⟩
    · rw [List.mem_singleton.1 h]; rfl
    · exact hw p (hs p hp) c hcp
  unfold txt6 at hc
  split at hc
  · exact hj _ (fun p hp => hp) hc
  · rcases List.mem_append.1 hc with h | h
    · rcases List.mem_append.1 h with h | h
      · exact hj _ (fun p hp => List.mem_of_mem_take hp) h
      · simp at h; rw [h]; rfl
    · exact hj _ (fun p hp => List.mem_of_mem_drop hp) h
/-! An address's own word is the shortest but for one sign. -/
theorem hexd_le : ∀ k n : Nat, n < 16 ^ (k + 1) → (hexd n).length ≤ k + 1 := by
  intro k
  induction k with
  | zero => intro n h; rw [hexd_small n (by simpa using h)]; simp
  | succ k ih =>
    intro n h
    by_cases h1 : n < 16
    · rw [hexd_small n h1]; simp
    · rw [hexd_big n h1, List.length_append]
      have h2 := ih (n / 16) (by rw [Nat.div_lt_iff_lt_mul (by omega)]; rw [Nat.pow_succ] at h; exact h)
      simp only [List.length_cons, List.length_nil]
      omega
theorem hexb_in (p : List UInt8) (h : hok p = true) : 0 ≤ hexb p ∧ hexb p < 65536 ∧ (hexd (hexb p).toNat).length ≤ p.length := by
  have h0 : 0 ≤ hexb p := by unfold hok at h; exact of_decide_eq_true h
  refine ⟨h0, hexb_lt p, ?_⟩
  unfold hexb at h0 ⊢
  split at h0
  · omega
  · rename_i hl
    rw [if_neg hl]
    split at h0
    · rename_i ha
      rw [if_pos ha]
      have h1 := hval_from p 0 (by omega) ha
      obtain ⟨k, hk⟩ : ∃ k, p.length = k + 1 := ⟨p.length - 1, by omega⟩
      rw [hk]
      apply hexd_le
      rw [← hk]
      unfold hval
      omega
    · omega
theorem grs_shape (l : List UInt8) (f : List Nat) (h : grs l = some f) : ∃ ps : List (List UInt8), (∀ p ∈ ps, hok p = true) ∧ ints' f = ps.map hexb ∧ f.length = ps.length ∧ l.length = sl ps + (ps.length - 1) := by
  by_cases hl : l = []
  · subst hl
    have : some [] = some f := h
    obtain rfl := Option.some.inj this
    exact ⟨[], fun p hp => (by cases hp), rfl, rfl, rfl⟩
  · by_cases hc : (spL 58 l).length ≤ 8 ∧ (spL 58 l).all hok = true
    · obtain ⟨g, hg, h1, h2⟩ := grs_ok l hl hc.2 hc.1
      rw [hg] at h
      obtain rfl := Option.some.inj h
      refine ⟨spL 58 l, List.all_eq_true.1 hc.2, h1, h2, ?_⟩
      rw [← jn_sl 58, jn_spL]
    · rw [grs_bad l hl hc] at h
      cases h
theorem cutR_join : ∀ (l : List UInt8) (q : List UInt8 × List UInt8), cutR [58, 58] l = some q → l = q.1 ++ [58, 58] ++ q.2 := by
  intro l
  induction l with
  | nil => intro q h; cases h
  | cons c r ih =>
    intro q h
    unfold cutR at h
    split at h
    · rename_i hp
      obtain rfl := Option.some.inj h
      obtain ⟨t, ht⟩ := List.isPrefixOf_iff_prefix.1 hp
      rw [← ht]
      rfl
    · cases hc : cutR [58, 58] r with
      | none => rw [hc] at h; cases h
      | some p =>
        rw [hc] at h
        obtain rfl := Option.some.inj h
        have := ih p hc
        show c :: r = c :: p.1 ++ [58, 58] ++ p.2
        rw [List.cons_append, List.cons_append, ← this]
theorem six_shape (l : List UInt8) (v : List Int) (h : six l = some v) : ∃ (A B : List (List UInt8)) (n : Nat), (∀ p ∈ A, hok p = true) ∧ (∀ p ∈ B, hok p = true) ∧ A.length + n + B.length = 8 ∧ v = by16 (A.map hexb ++ zs8 n ++ B.map hexb) ∧ ((n = 0 ∧ l.length = sl A + sl B + 7) ∨ (0 < n ∧ l.length = sl A + (A.length - 1) + 2 + sl B + (B.length - 1))) := by
  unfold six at h
  cases hc : cutR [58, 58] l with
  | none =>
    rw [hc] at h
    dsimp only at h
    cases hg : grs l with
    | none => rw [hg] at h; cases h
    | some f =>
      rw [hg] at h
      dsimp only at h
      split at h
      · rename_i h8
        obtain rfl := Option.some.inj h
        obtain ⟨A, hA, h1, h2, h3⟩ := grs_shape l f hg
        refine ⟨A, [], 0, hA, fun p hp => (by cases hp), by simp; omega, ?_, .inl ⟨rfl, by show l.length = sl A + 0 + 7; omega⟩⟩
        unfold fill6
        rw [h1, h8]
        rfl
      · cases h
  | some q =>
    rw [hc] at h
    dsimp only at h
    cases hg : grs q.1 with
    | none => rw [hg] at h; cases h
    | some f =>
      cases hg2 : grs q.2 with
      | none => rw [hg, hg2] at h; cases h
      | some b =>
        rw [hg, hg2] at h
        dsimp only at h
        split at h
        · rename_i h8
          obtain rfl := Option.some.inj h
          obtain ⟨A, hA, h1, h2, h3⟩ := grs_shape _ f hg
          obtain ⟨B, hB, h4, h5, h6⟩ := grs_shape _ b hg2
          refine ⟨A, B, 8 - (f.length + b.length), hA, hB, by omega, ?_, .inr ⟨by omega, ?_⟩⟩
          · unfold fill6
            rw [h1, h4]
          · have := congrArg List.length (cutR_join l q hc)
            rw [List.length_append, List.length_append] at this
            simp only [List.length_cons, List.length_nil] at this
            omega
        · cases h
theorem by16_inj : ∀ (A B : List Int), A.length = B.length → by16 A = by16 B → A = B := by
  intro A
  induction A with
  | nil => intro B hl _; exact (List.length_eq_zero_iff.1 hl.symm).symm
  | cons a A ih =>
    intro B hl h
    cases B with
    | nil => cases hl
    | cons b B =>
      have h' : a / 256 :: a % 256 :: by16 A = b / 256 :: b % 256 :: by16 B := h
      have h1 := List.cons.inj h'
      have h2 := List.cons.inj h1.2
      rw [ih B (by simpa using hl) h2.2, show a = b by have := h1.1; have := h2.1; omega]
/-- A group's own word. -/
def gw (g : Int) : List UInt8 := hexd g.toNat
theorem wds6_gw (x : List UInt8) : wds6 x = (gps x).map gw := by
  unfold wds6 gps
  rw [List.map_map]
  rfl
theorem sl_zs (n : Nat) : sl ((zs8 n).map gw) = n := by
  have h0 : (gw 0).length = 1 := by unfold gw; rw [show ((0 : Int)).toNat = 0 from rfl, hexd_small 0 (by omega)]; rfl
  unfold zs8
  induction n with
  | zero => rfl
  | succ n ih =>
    rw [List.replicate_succ, List.map_cons]
    show (gw 0).length + sl _ = n + 1
    rw [ih, h0]
    omega
theorem sl_hex (A : List (List UInt8)) (h : ∀ p ∈ A, hok p = true) : sl ((A.map hexb).map gw) ≤ sl A := by
  induction A with
  | nil => exact Nat.le_refl _
  | cons p r ih =>
    have h1 := (hexb_in p (h p (by simp))).2.2
    have h2 := ih (fun q hq => h q (by simp [hq]))
    have h3 : (gw (hexb p)).length ≤ p.length := h1
    show (gw (hexb p)).length + sl _ ≤ p.length + sl r
    omega
theorem txt6_short (s : ByteArray) (h : ok6 s = true) : (txt6 (val6u s)).length ≤ s.size + 1 := by
  have hd := six_doc s
  cases hs : six (bl s) with
  | none => rw [hs] at hd; dsimp only at hd; rw [hd.1] at h; cases h
  | some v =>
    rw [hs] at hd
    dsimp only at hd
    obtain ⟨A, B, n, hA, hB, hn, hv, hlen⟩ := six_shape _ v hs
    have hx := val6u_len s
    rw [bl_len] at hlen
    have hg : gps (val6u s) = A.map hexb ++ zs8 n ++ B.map hexb := by
      apply by16_inj
      · rw [gps_len, List.length_append, List.length_append, List.length_map, List.length_map]
        unfold zs8
        rw [List.length_replicate]
        exact hn.symm
      · rw [by16_gps _ hx, ← hv, ← hd.2]
        have h1 := val6u_b8 s
        rw [← bu_of] at h1
        unfold b8 at h1
        have : ∀ a b : List Int, a.map (Value.int .u8) = b.map (Value.int .u8) → a = b := fun a b hab => by
          exact List.map_inj_right (fun x y hxy => by cases hxy; rfl) |>.1 hab
        exact this _ _ h1
    generalize val6u s = x at *
    have hT : sl (wds6 x) ≤ sl A + n + sl B := by
      rw [wds6_gw, hg, List.map_append, List.map_append, sl_app, sl_app, sl_zs]
      have h1 := sl_hex A hA
      have h2 := sl_hex B hB
      omega
    have hl := wds6_len x
    have hin : lrF x + lrN x ≤ 8 := (lrS_in x 8).1
    have hmax : n ≤ lrN x := by
      refine ((lrS_most x 8).2 A.length n (by omega) (fun j h1 h2 => ?_)).1
      have h3 := gps_at x j (by omega)
      rw [hg, List.append_assoc, List.getElem?_append_right (by rw [List.length_map]; exact h1), List.length_map, List.getElem?_append_left (by unfold zs8; rw [List.length_replicate]; omega)] at h3
      unfold zs8 at h3
      rw [List.getElem?_replicate, if_pos (by omega)] at h3
      have := Option.some.inj h3
      omega
    unfold txt6
    split
    · rename_i h2
      rw [jn_sl, hl]
      omega
    · rename_i h2
      have hmid : sl (wds6 x) = sl ((wds6 x).take (lrF x)) + lrN x + sl ((wds6 x).drop (lrF x + lrN x)) := by
        have h3 := gps_gap x (lrF x) (lrN x) hin (lrS_zero x 8).1
        have h4 := congrArg (List.map gw) h3
        rw [← wds6_gw, List.map_append, List.map_append, List.map_take, List.map_drop, ← wds6_gw] at h4
        have h5 := congrArg sl h4
        rw [sl_app, sl_app, sl_zs] at h5
        exact h5
      rw [List.length_append, List.length_append, jn_sl, jn_sl, List.length_take, List.length_drop, hl]
      simp only [List.length_cons, List.length_nil]
      omega
end Go.Proofs.YtkdplnbabelkoaaDoor
