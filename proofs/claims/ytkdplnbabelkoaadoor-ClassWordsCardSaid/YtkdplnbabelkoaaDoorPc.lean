/-
  Proved here: plain facts: a text cut at another, by its pieces.
  Conditions: as each fact says.
-/
import Derived.Test.YtkdplnbabelkoaaDoorStyNum
import Derived.Lib.IndexMore
namespace Go.Proofs.YtkdplnbabelkoaaDoor
open Go.RowKit

/-- A text cut at the first place of another: what stands ahead and behind. -/
def cutR (sep : List UInt8) : List UInt8 → Option (List UInt8 × List UInt8)
  | [] => none
  | c :: l => if sep.isPrefixOf (c :: l) = true then some ([], (c :: l).drop sep.length) else (cutR sep l).map fun q => (c :: q.1, q.2)
theorem cut_index (sep : List UInt8) (hs : sep.length ≠ 0) : ∀ l : List UInt8, (cutR sep l = none → Lib.index l sep = -1) ∧ (∀ q, cutR sep l = some q → 0 ≤ Lib.index l sep ∧ q.1 = l.take (Lib.index l sep).toNat ∧ q.2 = l.drop ((Lib.index l sep).toNat + sep.length)) := by
  intro l
  induction l with
  | nil =>
    refine ⟨fun _ => ?_, fun q h => (by cases h)⟩
    unfold Lib.index
    cases sep with
    | nil => exact absurd rfl hs
    | cons a b => rfl
  | cons c l ih =>
    unfold cutR Lib.index
    by_cases hp : sep.isPrefixOf (c :: l) = true
    · rw [if_pos hp, if_pos hp]
      refine ⟨fun h => (by cases h), fun q h => ?_⟩
      obtain rfl := Option.some.inj h
      exact ⟨Int.le_refl _, rfl, by simp⟩
    · rw [if_neg hp, if_neg hp]
      cases hc : cutR sep l with
      | none =>
        rw [ih.1 hc]
        exact ⟨fun _ => rfl, fun q h => (by cases h)⟩
      | some q =>
        obtain ⟨h1, h2, h3⟩ := ih.2 q hc
        have hne : ¬ (Lib.index l sep == -1) = true := by rw [beq_iff_eq]; omega
        rw [if_neg hne]
        refine ⟨fun h => (by cases h), fun x h => ?_⟩
        obtain rfl := Option.some.inj h
        have e : (Lib.index l sep + 1).toNat = (Lib.index l sep).toNat + 1 := by omega
        refine ⟨by omega, ?_, ?_⟩
        · rw [e, List.take_succ_cons, ← h2]
        · rw [e, Nat.add_right_comm, List.drop_succ_cons, ← h3]
theorem cut_R (sep l : List UInt8) (hs : sep.length ≠ 0) : Lib.cut l sep = match cutR sep l with
    | none => (l, [], false)
    | some q => (q.1, q.2, true) := by
  have h := cut_index sep hs l
  unfold Lib.cut
  cases hc : cutR sep l with
  | none =>
    rw [if_neg (by rw [h.1 hc]; decide)]
  | some q =>
    obtain ⟨h1, h2, h3⟩ := h.2 q hc
    rw [if_pos h1, ← h2, ← h3]
/-- A cut at one byte, by the pieces. -/
theorem cut_one (c : UInt8) : ∀ l : List UInt8, match cutR [c] l with
    | none => spL c l = [l]
    | some q => spL c l = q.1 :: spL c q.2 := by
  intro l
  induction l with
  | nil => rfl
  | cons x r ih =>
    have e : spL c (x :: r) = if x = c then [] :: spL c r else match spL c r with
      | [] => [[x]]
      | p :: ps => (x :: p) :: ps := rfl
    rw [e]
    unfold cutR
    by_cases hx : x = c
    · rw [if_pos (by simp [hx]), if_pos hx]
      rfl
    · rw [if_neg (by simp; exact fun h => hx h.symm), if_neg hx]
      cases hc : cutR [c] r with
      | none =>
        rw [hc] at ih
        dsimp only [Option.map] at ih ⊢
        rw [ih]
      | some q =>
        rw [hc] at ih
        dsimp only [Option.map] at ih ⊢
        rw [ih]
/-- A cut at two colons, by the pieces. -/
def cutP : List (List UInt8) → Option (List (List UInt8) × List (List UInt8))
  | [] => none
  | [_] => none
  | p :: q :: rest => if q = [] ∧ rest ≠ [] then some ([p], rest) else (cutP (q :: rest)).map fun x => (p :: x.1, x.2)
def hd1 (c : UInt8) : List (List UInt8) → List (List UInt8)
  | [] => [[c]]
  | p :: ps => (c :: p) :: ps
theorem spL_hd (m c : UInt8) (r : List UInt8) (h : c ≠ m) : spL m (c :: r) = hd1 c (spL m r) := by
  have e : spL m (c :: r) = if c = m then [] :: spL m r else match spL m r with
    | [] => [[c]]
    | p :: ps => (c :: p) :: ps := rfl
  rw [e, if_neg h]
  cases spL m r <;> rfl
theorem cutP_hd (c : UInt8) (ps : List (List UInt8)) (h : ps ≠ []) : cutP (hd1 c ps) = (cutP ps).map fun x => (hd1 c x.1, x.2) := by
  cases ps with
  | nil => exact absurd rfl h
  | cons p ps =>
    cases ps with
    | nil => rfl
    | cons q rest =>
      show (if q = [] ∧ rest ≠ [] then some ([c :: p], rest) else (cutP (q :: rest)).map fun x => ((c :: p) :: x.1, x.2)) = (if q = [] ∧ rest ≠ [] then some ([p], rest) else (cutP (q :: rest)).map fun x => (p :: x.1, x.2)).map _
      split
      · rfl
      · cases cutP (q :: rest) <;> rfl
theorem cut_two : ∀ l : List UInt8, cutP (spL 58 l) = (cutR [58, 58] l).map fun q => (spL 58 q.1, spL 58 q.2) := by
  intro l
  induction l with
  | nil => rfl
  | cons x r ih =>
    unfold cutR
    by_cases hx : x = 58
    · cases r with
      | nil =>
        rw [hx]
        rfl
      | cons y t =>
        by_cases hy : y = 58
        · rw [hx, hy, if_pos (by simp)]
          show cutP ([] :: [] :: spL 58 t) = _
          unfold cutP
          rw [if_pos ⟨rfl, spL_ne _ _⟩]
          rfl
        · rw [if_neg (by simp; intro _; exact fun h => hy h.symm)]
          have e : spL 58 (x :: y :: t) = [] :: spL 58 (y :: t) := by rw [hx]; rfl
          rw [e]
          have e2 := spL_hd 58 y t hy
          have hne := spL_ne 58 t
          cases hs : spL 58 t with
          | nil => exact absurd hs hne
          | cons p ps =>
            rw [hs] at e2
            have e3 : spL 58 (y :: t) = (y :: p) :: ps := e2
            rw [e3] at ih ⊢
            unfold cutP
            rw [if_neg (fun h => by cases h.1), ih]
            cases hc : cutR [58, 58] (y :: t) with
            | none => rfl
            | some q => rw [hx]; rfl
    · rw [if_neg (by simp; intro h; exact absurd h.symm hx), spL_hd 58 x r hx, cutP_hd x _ (spL_ne _ _), ih]
      cases hc : cutR [58, 58] r with
      | none => rfl
      | some q =>
        show some (hd1 x (spL 58 q.1), spL 58 q.2) = some (spL 58 (x :: q.1), spL 58 q.2)
        rw [spL_hd 58 x q.1 hx]
end Go.Proofs.YtkdplnbabelkoaaDoor
