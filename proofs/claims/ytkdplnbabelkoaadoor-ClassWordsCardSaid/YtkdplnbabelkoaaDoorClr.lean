/-
  Proved here: plain facts: what a prefix holds, byte by byte.
  Conditions: as each fact says.
-/
import Derived.Test.YtkdplnbabelkoaaDoorHolds
namespace Go.Proofs.YtkdplnbabelkoaaDoor
open Go.RowKit

/-- A byte's first bits, noughts behind. -/
def clr1 (c : UInt8) (k : Nat) : UInt8 := UInt8.ofNat (c.toNat >>> (8 - k) <<< (8 - k))
/-- How many bits of a byte are kept. -/
def kpt (n : Int) (i : Nat) : Nat := (min (max (n - 8 * (i : Int)) 0) 8).toNat
/-- An address's first bits, noughts behind. -/
def clr (x : List UInt8) (n : Int) : List UInt8 := x.mapIdx fun i c => clr1 c (kpt n i)
theorem clr_len (x : List UInt8) (n : Int) : (clr x n).length = x.length := by unfold clr; simp
theorem clr_at (x : List UInt8) (n : Int) (i : Nat) (h : i < x.length) : (clr x n).getD i 0 = clr1 (x.getD i 0) (kpt n i) := by
  unfold clr
  rw [List.getD_eq_getElem?_getD, List.getD_eq_getElem?_getD, List.getElem?_mapIdx, List.getElem?_eq_getElem h]
  rfl
theorem kpt_le (n : Int) (i : Nat) : kpt n i ≤ 8 := by unfold kpt; omega
theorem clr1_nat (c : UInt8) (k : Nat) : (clr1 c k).toNat = c.toNat >>> (8 - k) <<< (8 - k) := by
  unfold clr1
  rw [UInt8.toNat_ofNat']
  apply Nat.mod_eq_of_lt
  have h1 := c.toNat_lt
  rw [Nat.shiftLeft_eq, Nat.shiftRight_eq_div_pow]
  have := Nat.div_mul_le_self c.toNat (2 ^ (8 - k))
  omega
theorem clr1_bit (c : UInt8) (k t : Nat) : (clr1 c k).toNat.testBit t = (decide (8 - k ≤ t) && c.toNat.testBit t) := by
  rw [clr1_nat, Nat.testBit_shiftLeft, Nat.testBit_shiftRight]
  by_cases h : 8 - k ≤ t
  · have e : 8 - k + (t - (8 - k)) = t := by omega
    simp [h, e]
  · simp [h]
theorem bit_high (c : UInt8) (t : Nat) (h : 8 ≤ t) : c.toNat.testBit t = false := by
  apply Nat.testBit_lt_two_pow
  have h1 := c.toNat_lt
  have : 2 ^ 8 ≤ 2 ^ t := Nat.pow_le_pow_right (by omega) h
  omega
theorem byte_eq (a b : UInt8) (h : ∀ t, t < 8 → a.toNat.testBit t = b.toNat.testBit t) : a = b := by
  apply UInt8.toNat_inj.mp
  apply Nat.eq_of_testBit_eq
  intro t
  by_cases ht : t < 8
  · exact h t ht
  · rw [bit_high a t (by omega), bit_high b t (by omega)]
/-- A byte's first bits are another's, all others noughts. -/
theorem byte_holds (a x : UInt8) (k : Nat) (hk : k ≤ 8) : (∀ r, r < 8 → if k ≤ r then a.toNat.testBit (7 - r) = false else a.toNat.testBit (7 - r) = x.toNat.testBit (7 - r)) ↔ (clr1 a k = a ∧ clr1 x k = a) := by
  constructor
  · intro h
    constructor
    · apply byte_eq
      intro t ht
      rw [clr1_bit]
      have h1 := h (7 - t) (by omega)
      have e : 7 - (7 - t) = t := by omega
      rw [e] at h1
      by_cases hk2 : 8 - k ≤ t
      · simp [hk2]
      · rw [if_pos (by omega)] at h1
        rw [h1]; simp
    · apply byte_eq
      intro t ht
      rw [clr1_bit]
      have h1 := h (7 - t) (by omega)
      have e : 7 - (7 - t) = t := by omega
      rw [e] at h1
      by_cases hk2 : 8 - k ≤ t
      · rw [if_neg (by omega)] at h1
        rw [h1]; simp [hk2]
      · rw [if_pos (by omega)] at h1
        rw [h1]; simp [hk2]
  · rintro ⟨h1, h2⟩ r hr
    split
    · rename_i h
      rw [← h1, clr1_bit]
      have : ¬ 8 - k ≤ 7 - r := by omega
      simp [this]
    · rename_i h
      have h3 : (clr1 a k).toNat.testBit (7 - r) = (clr1 x k).toNat.testBit (7 - r) := by rw [h1, h2]
      rw [clr1_bit, clr1_bit] at h3
      have : 8 - k ≤ 7 - r := by omega
      simpa [this] using h3
theorem bitv_test (l : List UInt8) (j r : Nat) (hr : r < 8) : bitv l (8 * j + r) = (l.getD j 0).toNat.testBit (7 - r) := by
  unfold bitv
  have e1 : (8 * j + r) / 8 = j := by omega
  have e2 : (8 * j + r) % 8 = r := by omega
  rw [e1, e2, Nat.testBit_eq_decide_div_mod_eq]
  rfl
theorem list_eq (a b : List UInt8) (hl : a.length = b.length) (h : ∀ i, i < a.length → a.getD i 0 = b.getD i 0) : a = b := by
  apply List.ext_getElem hl
  intro i h1 h2
  have := h i h1
  rwa [List.getD_eq_getElem?_getD, List.getD_eq_getElem?_getD, List.getElem?_eq_getElem h1, List.getElem?_eq_getElem h2] at this
/-- What a prefix holds, byte by byte. -/
theorem holds_clr (a x : List UInt8) (n : Int) (hx : x.length = a.length) : holdsv a x n = (decide (0 ≤ n) && (decide (n ≤ 8 * (a.length : Int)) && (decide (clr a n = a) && decide (clr x n = a)))) := by
  unfold holdsv
  congr 2
  rw [Bool.eq_iff_iff, List.all_eq_true, Bool.and_eq_true, decide_eq_true_eq, decide_eq_true_eq]
  have hstep : ∀ j, j < a.length → ((∀ r, r < 8 → bitOk a x n (8 * j + r) = true) ↔ (clr1 (a.getD j 0) (kpt n j) = a.getD j 0 ∧ clr1 (x.getD j 0) (kpt n j) = a.getD j 0)) := by
    intro j _
    rw [← byte_holds _ _ _ (kpt_le n j)]
    constructor
    · intro h r hr
      have h1 := h r hr
      unfold bitOk at h1
      rw [bitv_test a j r hr, bitv_test x j r hr] at h1
      have hi : (n ≤ ((8 * j + r : Nat) : Int)) ↔ kpt n j ≤ r := by unfold kpt; omega
      by_cases hk : kpt n j ≤ r
      · rw [if_pos (hi.mpr hk)] at h1
        rw [if_pos hk]
        simpa using h1
      · rw [if_neg (mt hi.mp hk)] at h1
        rw [if_neg hk]
        simpa using h1
    · intro h r hr
      have h1 := h r hr
      unfold bitOk
      rw [bitv_test a j r hr, bitv_test x j r hr]
      have hi : (n ≤ ((8 * j + r : Nat) : Int)) ↔ kpt n j ≤ r := by unfold kpt; omega
      by_cases hk : kpt n j ≤ r
      · rw [if_pos (hi.mpr hk)]
        rw [if_pos hk] at h1
        simpa using h1
      · rw [if_neg (mt hi.mp hk)]
        rw [if_neg hk] at h1
        simpa using h1
  constructor
  · intro h
    have hb : ∀ j, j < a.length → (clr1 (a.getD j 0) (kpt n j) = a.getD j 0 ∧ clr1 (x.getD j 0) (kpt n j) = a.getD j 0) := fun j hj =>
      (hstep j hj).mp (fun r hr => h _ (List.mem_range.mpr (by omega)))
    exact ⟨list_eq _ _ (clr_len a n) (fun i hi => by rw [clr_len] at hi; rw [clr_at a n i hi]; exact (hb i hi).1),
      list_eq _ _ (by rw [clr_len, hx]) (fun i hi => by rw [clr_len] at hi; rw [clr_at x n i hi]; exact (hb i (by omega)).2)⟩
  · rintro ⟨h1, h2⟩ i hi
    have hlt : i < 8 * a.length := List.mem_range.mp hi
    have hj : i / 8 < a.length := by omega
    have e : i = 8 * (i / 8) + i % 8 := by omega
    rw [e]
    refine (hstep (i / 8) hj).mpr ⟨?_, ?_⟩ (i % 8) (by omega)
    · rw [← clr_at a n _ hj, h1]
    · rw [← clr_at x n _ (by omega), h2]
end Go.Proofs.YtkdplnbabelkoaaDoor
