/-
  Proved here: plain facts: the longest run of noughts, and an IPv6 address's own word.
  Conditions: as each fact says.
-/
import Derived.Test.YtkdplnbabelkoaaDoorHx
namespace Go.Proofs.YtkdplnbabelkoaaDoor
open Go.RowKit

/-- An address's group. -/
def grpN (x : List UInt8) (i : Nat) : Nat := 256 * (x.getD (2 * i) 0).toNat + (x.getD (2 * i + 1) 0).toNat
/-- The longest run so far: where it begins, how many; and the run that goes on. -/
def lrS (x : List UInt8) : Nat → Nat × Nat × Nat
  | 0 => (0, 0, 0)
  | i + 1 => if grpN x i ≠ 0 then ((lrS x i).1, (lrS x i).2.1, 0)
    else if (lrS x i).2.1 < (lrS x i).2.2 + 1 then (i + 1 - ((lrS x i).2.2 + 1), (lrS x i).2.2 + 1, (lrS x i).2.2 + 1)
    else ((lrS x i).1, (lrS x i).2.1, (lrS x i).2.2 + 1)
theorem lrS_in (x : List UInt8) (i : Nat) : (lrS x i).1 + (lrS x i).2.1 ≤ i ∧ (lrS x i).2.2 ≤ i := by
  induction i with
  | zero => exact ⟨Nat.le_refl _, Nat.le_refl _⟩
  | succ i ih =>
    unfold lrS
    split
    · exact ⟨by dsimp only; omega, by dsimp only; omega⟩
    · split
      · exact ⟨by dsimp only; omega, by dsimp only; omega⟩
      · exact ⟨by dsimp only; omega, by dsimp only; omega⟩
/-- The longest run is one of noughts. -/
theorem lrS_zero (x : List UInt8) (i : Nat) : (∀ j, (lrS x i).1 ≤ j → j < (lrS x i).1 + (lrS x i).2.1 → grpN x j = 0) ∧ (∀ j, i - (lrS x i).2.2 ≤ j → j < i → grpN x j = 0) := by
  induction i with
  | zero => exact ⟨fun j h1 h2 => absurd h2 (by show ¬ j < 0 + 0; omega), fun j h1 h2 => by omega⟩
  | succ i ih =>
    have hin := lrS_in x i
    unfold lrS
    split
    · exact ⟨ih.1, fun j h1 h2 => by dsimp only at h1; omega⟩
    · rename_i hz
      have hz0 : grpN x i = 0 := Decidable.not_not.mp hz
      have hrun : ∀ j, i + 1 - ((lrS x i).2.2 + 1) ≤ j → j < i + 1 → grpN x j = 0 := by
        intro j h1 h2
        by_cases hj : j = i
        · rw [hj]; exact hz0
        · exact ih.2 j (by omega) (by omega)
      split
      · exact ⟨fun j h1 h2 => hrun j h1 (by dsimp only at h2; omega), hrun⟩
      · exact ⟨ih.1, hrun⟩
/-- No run of noughts is longer. -/
theorem lrS_most (x : List UInt8) (i : Nat) : (lrS x i).2.2 ≤ (lrS x i).2.1 ∧ (∀ a n, a + n ≤ i → (∀ j, a ≤ j → j < a + n → grpN x j = 0) → n ≤ (lrS x i).2.1 ∧ (a + n = i → n ≤ (lrS x i).2.2)) := by
  induction i with
  | zero => exact ⟨Nat.le_refl _, fun a n h _ => ⟨by show n ≤ 0; omega, fun _ => by show n ≤ 0; omega⟩⟩
  | succ i ih =>
    have key : ∀ a n, a + n ≤ i + 1 → (∀ j, a ≤ j → j < a + n → grpN x j = 0) → n ≤ (lrS x i).2.1 ∨ (a + n = i + 1 ∧ grpN x i = 0 ∧ n ≤ (lrS x i).2.2 + 1) ∨ n = 0 := by
      intro a n h1 h2
      by_cases hn : n = 0
      · exact .inr (.inr hn)
      by_cases he : a + n = i + 1
      · refine .inr (.inl ⟨he, h2 i (by omega) (by omega), ?_⟩)
        have := (ih.2 a (n - 1) (by omega) (fun j g1 g2 => h2 j g1 (by omega))).2 (by omega)
        omega
      · exact .inl (ih.2 a n (by omega) h2).1
    unfold lrS
    split
    · rename_i hz
      refine ⟨Nat.zero_le _, fun a n h1 h2 => ?_⟩
      dsimp only
      rcases key a n h1 h2 with h | h | h
      · refine ⟨h, fun he => ?_⟩
        by_cases hn : n = 0
        · omega
        · exact absurd (h2 i (by omega) (by omega)) hz
      · exact absurd h.2.1 hz
      · exact ⟨by omega, fun _ => by omega⟩
    · rename_i hz
      have hend : ∀ a n, a + n = i + 1 → (∀ j, a ≤ j → j < a + n → grpN x j = 0) → n ≤ (lrS x i).2.2 + 1 := by
        intro a n he h2
        by_cases hn : n = 0
        · omega
        · have := (ih.2 a (n - 1) (by omega) (fun j g1 g2 => h2 j g1 (by omega))).2 (by omega)
          omega
      split
      · rename_i hl
        refine ⟨Nat.le_refl _, fun a n h1 h2 => ?_⟩
        dsimp only
        rcases key a n h1 h2 with h | h | h
        · exact ⟨by omega, fun he => hend a n he h2⟩
        · exact ⟨by omega, fun he => hend a n he h2⟩
        · exact ⟨by omega, fun _ => by omega⟩
      · rename_i hl
        refine ⟨by dsimp only; omega, fun a n h1 h2 => ?_⟩
        dsimp only
        rcases key a n h1 h2 with h | h | h
        · exact ⟨by omega, fun he => hend a n he h2⟩
        · exact ⟨by omega, fun he => hend a n he h2⟩
        · exact ⟨by omega, fun _ => by omega⟩
/-- Where an address's longest run begins, and how many groups it has. -/
def lrF (x : List UInt8) : Nat := (lrS x 8).1
def lrN (x : List UInt8) : Nat := (lrS x 8).2.1
/-- An address's groups as words. -/
def wds6 (x : List UInt8) : List (List UInt8) := (List.range 8).map fun i => hexd (grpN x i)
def jn (sep : List UInt8) (l : List (List UInt8)) : List UInt8 := sep.intercalate l
/-- An IPv6 address's own word. -/
def txt6 (x : List UInt8) : List UInt8 := if lrN x < 2 then jn [58] (wds6 x) else jn [58] ((wds6 x).take (lrF x)) ++ [58, 58] ++ jn [58] ((wds6 x).drop (lrF x + lrN x))
end Go.Proofs.YtkdplnbabelkoaaDoor
