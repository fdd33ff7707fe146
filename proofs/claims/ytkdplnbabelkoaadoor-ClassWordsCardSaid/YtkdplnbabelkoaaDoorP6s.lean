/-
  Proved here: plain facts: the document's IPv6 words by their pieces.
  Conditions: as each fact says.
-/
import Derived.Test.YtkdplnbabelkoaaDoorPc
namespace Go.Proofs.YtkdplnbabelkoaaDoor
open Go.RowKit

/-- A group that may be. -/
def hok (p : List UInt8) : Bool := decide (0 ≤ hexb p)
/-- The groups of pieces behind groups, and where the gap stands. -/
def p6ps : List (List UInt8) → List Int → Option Nat → Option (List Int × Option Nat)
  | [], _, _ => none
  | [p], l, gap => if hexb p < 0 then none else some (l ++ [hexb p], gap)
  | p :: q :: rest, l, gap =>
    if hexb p < 0 then none
    else if q = [] then (if rest = [] then none else match gap with
      | some _ => none
      | none => if rest = [[]] then some (l ++ [hexb p], some (l.length + 1)) else p6ps rest (l ++ [hexb p]) (some (l.length + 1)))
    else p6ps (q :: rest) (l ++ [hexb p]) gap
theorem hexb_nil : hexb [] < 0 := by decide
theorem spL_one (m : UInt8) (r : List UInt8) (h : spL m r = [[]]) : r = [] := by
  cases r with
  | nil => rfl
  | cons c r =>
    unfold spL at h
    split at h
    · exact absurd (List.cons.inj h).2 (spL_ne _ _)
    · split at h
      · simp at h
      · simp at h
theorem grp_spL : ∀ r : List UInt8, match r.drop (grp r).length with
    | [] => spL 58 r = [grp r]
    | _ :: q => spL 58 r = grp r :: spL 58 q := by
  intro r
  induction r with
  | nil => rfl
  | cons c r ih =>
    by_cases hc : c = 58
    · have e : grp (c :: r) = [] := by rw [hc]; rfl
      rw [e]
      dsimp only [List.length_nil, List.drop_zero]
      have e2 : spL 58 (c :: r) = if c = 58 then [] :: spL 58 r else match spL 58 r with
        | [] => [[c]]
        | p :: ps => (c :: p) :: ps := rfl
      rw [e2, if_pos hc]
      exact rfl
    · have e : grp (c :: r) = c :: grp r := by unfold grp; rw [List.takeWhile_cons, if_pos (by simpa using hc)]
      rw [e, List.length_cons, List.drop_succ_cons, spL_hd 58 c r hc]
      cases hd : r.drop (grp r).length with
      | nil =>
        rw [hd] at ih
        dsimp only at ih ⊢
        rw [ih]; rfl
      | cons x q =>
        rw [hd] at ih
        dsimp only at ih ⊢
        rw [ih]; rfl
theorem go_ps : ∀ (f : Nat) (r : List UInt8) (l : List Int) (gap : Option Nat), r.length < f → p6go f r l gap = if r = [] then some (l, gap) else p6ps (spL 58 r) l gap := by
  intro f
  induction f with
  | zero => intro r l gap h; omega
  | succ f ih =>
    intro r l gap hf
    unfold p6go
    by_cases hr : r = []
    · rw [if_pos hr, if_pos hr]
    · rw [if_neg hr, if_neg hr]
      have hg := grp_spL r
      cases hd : r.drop (grp r).length with
      | nil =>
        rw [hd] at hg
        dsimp only at hg ⊢
        rw [hg]; rfl
      | cons x q =>
        rw [hd] at hg
        dsimp only at hg ⊢
        have hlen : q.length < r.length := by
          have h := congrArg List.length hd
          rw [List.length_drop, List.length_cons] at h
          omega
        rw [hg]
        cases q with
        | nil =>
          dsimp only
          show (if hexb (grp r) < 0 then none else none) = p6ps [grp r, []] l gap
          unfold p6ps
          rw [if_pos rfl, if_pos rfl]
        | cons d q' =>
          dsimp only
          by_cases hd58 : d = 58
          · have e : spL 58 (d :: q') = [] :: spL 58 q' := by rw [hd58]; rfl
            rw [if_pos hd58, e]
            have e3 : p6ps (grp r :: [] :: spL 58 q') l gap = if hexb (grp r) < 0 then none
              else (if spL 58 q' = [] then none else match gap with
                | some _ => none
                | none => if spL 58 q' = [[]] then some (l ++ [hexb (grp r)], some (l.length + 1)) else p6ps (spL 58 q') (l ++ [hexb (grp r)]) (some (l.length + 1))) := by
              conv => lhs; unfold p6ps
              rw [if_pos rfl]
            rw [e3, if_neg (spL_ne _ _)]
            cases gap with
            | some g => rfl
            | none =>
              dsimp only
              rw [ih q' _ _ (by simp at hlen hf; omega)]
              by_cases hq : q' = []
              · rw [if_pos hq, hq, if_pos (show spL 58 [] = [[]] from rfl)]
              · rw [if_neg hq, if_neg (fun h => hq (spL_one _ _ h))]
          · rw [if_neg hd58, ih (d :: q') _ _ (by omega), if_neg (List.cons_ne_nil d q')]
            have hne := spL_ne 58 q'
            have e := spL_hd 58 d q' hd58
            cases hs : spL 58 q' with
            | nil => exact absurd hs hne
            | cons p ps =>
              rw [hs] at e
              have e2 : spL 58 (d :: q') = (d :: p) :: ps := e
              rw [e2]
              conv => rhs; unfold p6ps
              rw [if_neg (show ¬ (d :: p) = [] by simp)]
theorem hok_neg (p : List UInt8) : (hexb p < 0) ↔ hok p = false := by unfold hok; rw [decide_eq_false_iff_not]; omega
theorem ps_some (g : Nat) : ∀ (ps : List (List UInt8)) (l : List Int), ps ≠ [] → p6ps ps l (some g) = if ps.all hok = true then some (l ++ ps.map hexb, some g) else none := by
  intro ps
  induction ps with
  | nil => intro l h; exact absurd rfl h
  | cons p ps ih =>
    intro l _
    cases ps with
    | nil =>
      unfold p6ps
      by_cases h : hok p = true
      · rw [if_neg (by rw [hok_neg, h]; simp), if_pos (by simp [h])]; rfl
      · rw [if_pos ((hok_neg p).mpr (by simpa using h)), if_neg (by simp [h])]
    | cons q rest =>
      unfold p6ps
      by_cases h : hok p = true
      · rw [if_neg (by rw [hok_neg, h]; simp)]
        by_cases hq : q = []
        · have hqf : hok q = false := by rw [hq]; rfl
          have hall : (p :: q :: rest).all hok = false := by rw [List.all_cons, List.all_cons, hqf]; simp
          rw [if_pos hq, hall]
          by_cases hr : rest = []
          · rw [if_pos hr]; rfl
          · rw [if_neg hr]; rfl
        · rw [if_neg hq, ih _ (by simp), List.all_cons (a := p), h, Bool.true_and]
          congr 1
          simp
      · rw [if_pos ((hok_neg p).mpr (by simpa using h)), if_neg (by simp [h])]
theorem ps_none : ∀ (ps : List (List UInt8)) (l : List Int), ps ≠ [] → p6ps ps l none = match cutP ps with
    | none => if ps.all hok = true then some (l ++ ps.map hexb, none) else none
    | some (A, B) => if A.all hok = true then (if B = [[]] then some (l ++ A.map hexb, some (l.length + A.length)) else if B.all hok = true then some (l ++ A.map hexb ++ B.map hexb, some (l.length + A.length)) else none) else none := by
  intro ps
  induction ps with
  | nil => intro l h; exact absurd rfl h
  | cons p ps ih =>
    intro l _
    cases ps with
    | nil =>
      unfold p6ps cutP
      dsimp only
      by_cases h : hok p = true
      · rw [if_neg (by rw [hok_neg, h]; simp), if_pos (by simp [h])]; rfl
      · rw [if_pos ((hok_neg p).mpr (by simpa using h)), if_neg (by simp [h])]
    | cons q rest =>
      have e2 : cutP (p :: q :: rest) = if q = [] ∧ rest ≠ [] then some ([p], rest) else (cutP (q :: rest)).map fun x => (p :: x.1, x.2) := rfl
      rw [e2]
      unfold p6ps
      by_cases h : hok p = true
      · rw [if_neg (by rw [hok_neg, h]; simp)]
        by_cases hq : q = []
        · by_cases hr : rest = []
          · rw [if_pos hq, if_pos hr, if_neg (show ¬ (q = [] ∧ rest ≠ []) from fun x => x.2 hr), hq, hr]
            dsimp only [cutP, Option.map]
            rw [if_neg (by simp; intro _; rfl)]
          · rw [if_pos hq, if_neg hr, if_pos (show q = [] ∧ rest ≠ [] from ⟨hq, hr⟩)]
            dsimp only
            rw [if_pos (show [p].all hok = true by simp [h]), ps_some (l.length + 1) rest (l ++ [hexb p]) hr]
            rfl
        · rw [if_neg hq, if_neg (show ¬ (q = [] ∧ rest ≠ []) from fun x => hq x.1), ih _ (by simp)]
          cases hc : cutP (q :: rest) with
          | none =>
            dsimp only [Option.map]
            rw [List.all_cons (a := p), h, Bool.true_and]
            congr 1
            simp
          | some x =>
            obtain ⟨A, B⟩ := x
            dsimp only [Option.map]
            rw [List.all_cons (a := p), h, Bool.true_and]
            have e5 : l ++ [hexb p] ++ A.map hexb = l ++ (p :: A).map hexb := by simp
            have e6 : (l ++ [hexb p]).length + A.length = l.length + (p :: A).length := by simp; omega
            rw [e5, e6]
      · rw [if_pos ((hok_neg p).mpr (by simpa using h))]
        have hpf : hok p = false := by simpa using h
        split
        · rw [if_neg (by simp [hpf])]
        · rename_i A B hx
          have : A.all hok = false := by
            by_cases hq : q = [] ∧ rest ≠ []
            · rw [if_pos hq] at hx
              have := (Prod.mk.inj (Option.some.inj hx)).1
              rw [← this]; simp [hpf]
            · rw [if_neg hq] at hx
              cases hc : cutP (q :: rest) with
              | none => rw [hc] at hx; cases hx
              | some x =>
                rw [hc] at hx
                have := (Prod.mk.inj (Option.some.inj hx)).1
                rw [← this]; simp [hpf]
          rw [if_neg (by rw [this]; simp)]
end Go.Proofs.YtkdplnbabelkoaaDoor
