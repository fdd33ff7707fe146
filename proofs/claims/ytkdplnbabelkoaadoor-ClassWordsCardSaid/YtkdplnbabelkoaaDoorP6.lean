/-
  Proved here: plain facts on IPv6 addresses' words.
  Conditions: as each fact says.
-/
import Derived.Test.YtkdplnbabelkoaaDoorHex
namespace Go.Proofs.YtkdplnbabelkoaaDoor
open Go.RowKit

/-- A group: what stands up to the next colon. -/
def grp (r : List UInt8) : List UInt8 := r.takeWhile (· != 58)
/-- The groups of a word from here on, and where its two colons stand. -/
def p6go : Nat → List UInt8 → List Int → Option Nat → Option (List Int × Option Nat)
  | 0, _, _, _ => none
  | f + 1, r, l, gap =>
    if r = [] then some (l, gap)
    else if hexb (grp r) < 0 then none
    else match r.drop (grp r).length with
      | [] => some (l ++ [hexb (grp r)], gap)
      | _ :: q => match q with
        | [] => none
        | d :: q' => if d = 58 then (match gap with | some _ => none | none => p6go f q' (l ++ [hexb (grp r)]) (some (l.length + 1))) else p6go f (d :: q') (l ++ [hexb (grp r)]) gap
/-- Where reading begins. -/
def p6at (s : ByteArray) : Nat := if (bl s).take 2 = [58, 58] then 2 else 0
def p6gap (s : ByteArray) : Option Nat := if (bl s).take 2 = [58, 58] then some 0 else none
def p6of (s : ByteArray) : Option (List Int × Option Nat) := p6go (s.size + 1) ((bl s).drop (p6at s)) [] (p6gap s)
/-- Whether so many groups may be. -/
def p6fits : Option (List Int × Option Nat) → Bool
  | none => false
  | some (l, none) => l.length == 8
  | some (l, some _) => decide (l.length ≤ 7)
/-- Where a group stands. -/
def p6k (n : Nat) (gap : Option Nat) (i : Nat) : Nat := match gap with
  | none => i
  | some g => if g ≤ i then 8 - n + i else i
/-- The first groups put into their places. -/
def p6put (l : List Int) (gap : Option Nat) : Nat → List Int
  | 0 => [0, 0, 0, 0, 0, 0, 0, 0, 0, 0, 0, 0, 0, 0, 0, 0]
  | i + 1 => ((p6put l gap i).set (2 * p6k l.length gap i) (l.getD i 0 / 256)).set (2 * p6k l.length gap i + 1) (l.getD i 0 % 256)
def ok6 (s : ByteArray) : Bool := p6fits (p6of s)
def val6 (s : ByteArray) : List Int := match p6of s with
  | none => p6put [] none 0
  | some (l, gap) => if p6fits (some (l, gap)) = true then p6put l gap l.length else p6put [] none 0
theorem p6put_len (l : List Int) (gap : Option Nat) (i : Nat) : (p6put l gap i).length = 16 := by
  induction i with
  | zero => rfl
  | succ i ih => unfold p6put; rw [List.length_set, List.length_set, ih]
theorem val6_len (s : ByteArray) : (val6 s).length = 16 := by
  unfold val6
  split
  · rfl
  · split
    · exact p6put_len _ _ _
    · rfl
theorem p6k_lt (l : List Int) (gap : Option Nat) (i : Nat) (hi : i < l.length) (h : p6fits (some (l, gap)) = true) : p6k l.length gap i < 8 := by
  cases gap with
  | none =>
    have : l.length = 8 := by simpa [p6fits] using h
    unfold p6k
    dsimp only
    omega
  | some g =>
    have : l.length ≤ 7 := by simpa [p6fits] using h
    unfold p6k
    dsimp only
    split <;> omega
section
variable {s : ByteArray} {f k : Nat} {l : List Int} {gap : Option Nat}
theorem bl_drop (s : ByteArray) (k : Nat) (h : k < s.size) : (bl s).drop k = s[k] :: (bl s).drop (k + 1) := by
  rw [List.drop_eq_getElem_cons (by rw [bl_len]; exact h)]
  rfl
theorem bl_drop_end (s : ByteArray) : (bl s).drop s.size = [] := List.drop_of_length_le (by rw [bl_len]; exact Nat.le_refl _)
theorem bl_ext (s : ByteArray) (a b : Nat) : bl (s.extract a b) = ((bl s).take b).drop a := ext_list s a b
/-- A group that ends before byte j: it is the text from k to j. -/
theorem grp_is (s : ByteArray) (k : Nat) : ∀ (n j : Nat), j = k + n → j ≤ s.size → (∀ i, k ≤ i → i < j → (bl s)[i]? ≠ some 58) → (j = s.size ∨ (bl s)[j]? = some 58) → grp ((bl s).drop k) = bl (s.extract k j) := by
  intro n
  induction n generalizing k with
  | zero =>
    intro j hj hle _ hend
    obtain rfl : j = k := by omega
    have e : bl (s.extract j j) = [] := by rw [bl_ext]; exact List.drop_of_length_le (by rw [List.length_take]; omega)
    rw [e]
    rcases hend with rfl | h
    · rw [bl_drop_end]; rfl
    · have hlt : j < s.size := by
        rcases Nat.lt_or_ge j s.size with h1 | h1
        · exact h1
        · rw [List.getElem?_eq_none (by rw [bl_len]; exact h1)] at h; cases h
      rw [bl_drop s j hlt]
      rw [bl_at s j hlt] at h
      unfold grp
      rw [Option.some.inj h]
      rfl
  | succ n ih =>
    intro j hj hle hno hend
    have hlt : k < s.size := by omega
    have h0 := hno k (Nat.le_refl _) (by omega)
    rw [bl_at s k hlt] at h0
    have h1 := ih (k + 1) j (by omega) hle (fun i hi hij => hno i (by omega) hij) hend
    rw [bl_drop s k hlt]
    unfold grp at h1 ⊢
    have hb : (s[k] != 58) = true := by rw [bne_iff_ne]; exact fun e => h0 (by rw [e])
    rw [List.takeWhile_cons, if_pos hb, h1, bl_ext, bl_ext]
    have hl : k < ((bl s).take j).length := by rw [List.length_take, bl_len]; omega
    have e2 : ((bl s).take j)[k]'hl = s[k] := by rw [List.getElem_take]; rfl
    rw [List.drop_eq_getElem_cons hl, e2]
theorem p6_end : p6go (f + 1) [] l gap = some (l, gap) := by unfold p6go; rw [if_pos rfl]
theorem p6_ne (hk : k < s.size) : (bl s).drop k ≠ [] := by rw [bl_drop s k hk]; exact List.cons_ne_nil _ _
variable {j : Nat}
theorem grp_drop (hkj : k ≤ j) (hj : j ≤ s.size) (hg : grp ((bl s).drop k) = bl (s.extract k j)) : ((bl s).drop k).drop (grp ((bl s).drop k)).length = (bl s).drop j := by
  have e : (grp ((bl s).drop k)).length = j - k := by rw [hg, bl_len, ByteArray.size_extract]; omega
  rw [e, List.drop_drop]
  congr 1
  omega
theorem p6_bad (hk : k < s.size) (hg : grp ((bl s).drop k) = bl (s.extract k j)) (hn : hexb (bl (s.extract k j)) < 0) : p6go (f + 1) ((bl s).drop k) l gap = none := by
  unfold p6go
  rw [if_neg (p6_ne hk), if_pos (by rw [hg]; exact hn)]
variable (hkj : k ≤ j) (hk : k < s.size) (hj : j ≤ s.size) (hg : grp ((bl s).drop k) = bl (s.extract k j))
include hkj hk hj hg
theorem p6_last (hn : ¬ hexb (bl (s.extract k j)) < 0) (hend : j = s.size) : p6go (f + 1) ((bl s).drop k) l gap = some (l ++ [hexb (bl (s.extract k j))], gap) := by
  unfold p6go
  rw [if_neg (p6_ne hk), if_neg (by rw [hg]; exact hn), grp_drop hkj hj hg, hend, bl_drop_end]
  simp only [hg, hend]
theorem p6_colon (hn : ¬ hexb (bl (s.extract k j)) < 0) (hend : j + 1 = s.size) : p6go (f + 1) ((bl s).drop k) l gap = none := by
  unfold p6go
  rw [if_neg (p6_ne hk), if_neg (by rw [hg]; exact hn), grp_drop hkj hj hg, bl_drop s j (by omega), hend, bl_drop_end]
theorem p6_twice (hn : ¬ hexb (bl (s.extract k j)) < 0) (h1 : j + 1 < s.size) (h2 : s[j + 1] = 58) (g : Nat) : p6go (f + 1) ((bl s).drop k) l (some g) = none := by
  unfold p6go
  rw [if_neg (p6_ne hk), if_neg (by rw [hg]; exact hn), grp_drop hkj hj hg, bl_drop s j (by omega), bl_drop s (j + 1) h1]
  dsimp only
  rw [if_pos h2]
theorem p6_gap (hn : ¬ hexb (bl (s.extract k j)) < 0) (h1 : j + 1 < s.size) (h2 : s[j + 1] = 58) : p6go (f + 1) ((bl s).drop k) l none = p6go f ((bl s).drop (j + 2)) (l ++ [hexb (bl (s.extract k j))]) (some (l.length + 1)) := by
  conv => lhs; unfold p6go
  rw [if_neg (p6_ne hk), if_neg (by rw [hg]; exact hn), grp_drop hkj hj hg, bl_drop s j (by omega), bl_drop s (j + 1) h1]
  dsimp only
  rw [if_pos h2, hg]
theorem p6_next (hn : ¬ hexb (bl (s.extract k j)) < 0) (h1 : j + 1 < s.size) (h2 : s[j + 1] ≠ 58) : p6go (f + 1) ((bl s).drop k) l gap = p6go f ((bl s).drop (j + 1)) (l ++ [hexb (bl (s.extract k j))]) gap := by
  conv => lhs; unfold p6go
  rw [if_neg (p6_ne hk), if_neg (by rw [hg]; exact hn), grp_drop hkj hj hg, bl_drop s j (by omega), bl_drop s (j + 1) h1]
  dsimp only
  rw [if_neg h2, hg]
end
theorem hexb_lt (l : List UInt8) : hexb l < 65536 := by
  unfold hexb
  split
  · omega
  · rename_i h
    split
    · rename_i h2
      exact (hval_lt l h2 (by omega)).2
    · omega
end Go.Proofs.YtkdplnbabelkoaaDoor
