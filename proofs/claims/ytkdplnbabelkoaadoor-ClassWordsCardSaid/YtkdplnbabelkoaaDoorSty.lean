/-
  Proved here: plain facts: how numbers stand in a word, read character by character.
  Conditions: as each fact says.
-/
import Derived.Test.YtkdplnbabelkoaaDoorNumb
import Derived.Test.YtkdplnbabelkoaaDoorP6
import Derived.Test.YtkdplnbabelkoaaDoorSplit
namespace Go.Proofs.YtkdplnbabelkoaaDoor
open Go.RowKit

/-- How numbers stand in a word. -/
structure Sty where
  mark : UInt8
  base : Nat
  digits : Nat
  most : Nat
  noughts : Bool
  count : Nat
/-- A digit's value. -/
def dg (c : UInt8) : Nat := if 48 ≤ c.toNat ∧ c.toNat ≤ 57 then c.toNat - 48 else if 97 ≤ c.toNat ∧ c.toNat ≤ 102 then c.toNat - 87 else if 65 ≤ c.toNat ∧ c.toNat ≤ 70 then c.toNat - 55 else 16
/-- The pieces of a text. -/
def spL (m : UInt8) : List UInt8 → List (List UInt8)
  | [] => [[]]
  | c :: r => if c = m then [] :: spL m r else match spL m r with
    | [] => [[c]]
    | p :: ps => (c :: p) :: ps
def nxt (w : Sty) (v d : Nat) (c : UInt8) : Option (Nat × Nat) := if w.base ≤ dg c ∨ d = w.digits ∨ (0 < d ∧ v = 0 ∧ w.noughts = false) then none else some (v * w.base + dg c, d + 1)
def whole (w : Sty) (v d : Nat) : Bool := decide (0 < d) && decide (v ≤ w.most)
/-- What is read of a text, behind numbers and a number's beginning. -/
def rd (w : Sty) : List UInt8 → List Nat → Nat → Nat → Option (List Nat)
  | [], ns, v, d => if whole w v d = true then some (ns ++ [v]) else none
  | c :: r, ns, v, d =>
    if c = w.mark then (if whole w v d = true ∧ ns.length + 1 ≠ w.count then rd w r (ns ++ [v]) 0 0 else none)
    else match nxt w v d c with
      | none => none
      | some q => rd w r ns q.1 q.2
/-- What is read of a piece. -/
def one (w : Sty) : List UInt8 → Nat → Nat → Option Nat
  | [], v, d => if whole w v d = true then some v else none
  | c :: r, v, d => match nxt w v d c with
    | none => none
    | some q => one w r q.1 q.2
def rdp (w : Sty) : List (List UInt8) → List Nat → Nat → Nat → Option (List Nat)
  | [], _, _, _ => none
  | [p], ns, v, d => (one w p v d).map fun x => ns ++ [x]
  | p :: q :: ps, ns, v, d => match one w p v d with
    | none => none
    | some x => if ns.length + 1 ≠ w.count then rdp w (q :: ps) (ns ++ [x]) 0 0 else none
theorem spL_ne (m : UInt8) (l : List UInt8) : spL m l ≠ [] := by
  cases l with
  | nil => simp [spL]
  | cons c r => unfold spL; split; simp; split <;> simp
theorem rd_rdp (w : Sty) : ∀ (l : List UInt8) (ns : List Nat) (v d : Nat), rd w l ns v d = rdp w (spL w.mark l) ns v d := by
  intro l
  induction l with
  | nil =>
    intro ns v d
    unfold rd spL rdp one
    split <;> rfl
  | cons c r ih =>
    intro ns v d
    unfold rd spL
    by_cases hc : c = w.mark
    · rw [if_pos hc, if_pos hc]
      have hne := spL_ne w.mark r
      cases hs : spL w.mark r with
      | nil => exact absurd hs hne
      | cons q ps =>
        unfold rdp one
        rw [ih, hs]
        by_cases hw : whole w v d = true
        · rw [if_pos hw]
          by_cases hn : ns.length + 1 ≠ w.count
          · rw [if_pos ⟨hw, hn⟩]; dsimp only; rw [if_pos hn]
          · rw [if_neg (fun h => hn h.2)]; dsimp only; rw [if_neg hn]
        · rw [if_neg (fun h => hw h.1), if_neg hw]
    · rw [if_neg hc, if_neg hc]
      have hne := spL_ne w.mark r
      cases hs : spL w.mark r with
      | nil => exact absurd hs hne
      | cons q ps =>
        dsimp only
        cases hn : nxt w v d c with
        | none =>
          dsimp only
          cases ps with
          | nil => unfold rdp one; rw [hn]; rfl
          | cons q2 ps => unfold rdp one; rw [hn]
        | some x =>
          dsimp only
          rw [ih, hs]
          cases ps with
          | nil => conv => rhs; unfold rdp one; rw [hn]
                   rfl
          | cons q2 ps => conv => rhs; unfold rdp one; rw [hn]
                          rfl
def okP (w : Sty) (p : List UInt8) : Bool := (one w p 0 0).isSome
def vaP (w : Sty) (p : List UInt8) : Nat := (one w p 0 0).getD 0
theorem rdp_all (w : Sty) : ∀ (ps : List (List UInt8)) (ns : List Nat), ps ≠ [] → ns.length < w.count → rdp w ps ns 0 0 = if ns.length + ps.length ≤ w.count ∧ ps.all (okP w) = true then some (ns ++ ps.map (vaP w)) else none := by
  intro ps
  induction ps with
  | nil => intro ns h; exact absurd rfl h
  | cons p ps ih =>
    intro ns _ hn
    cases ps with
    | nil =>
      unfold rdp
      cases ho : one w p 0 0 with
      | none => rw [if_neg]; rfl; rw [List.all_cons]; unfold okP; rw [ho]; simp
      | some x =>
        rw [if_pos]
        · unfold vaP; simp [ho]
        · refine ⟨by simp; omega, ?_⟩
          rw [List.all_cons]; unfold okP; rw [ho]; rfl
    | cons q ps =>
      unfold rdp
      cases ho : one w p 0 0 with
      | none => dsimp only; rw [if_neg]; rw [List.all_cons]; unfold okP; rw [ho]; simp
      | some x =>
        dsimp only
        have hok : okP w p = true := by unfold okP; rw [ho]; rfl
        have hva : vaP w p = x := by unfold vaP; rw [ho]; rfl
        by_cases hc : ns.length + 1 ≠ w.count
        · rw [if_pos hc, ih (ns ++ [x]) (by simp) (by simp; omega)]
          have e : (ns ++ [x]) ++ (q :: ps).map (vaP w) = ns ++ (p :: q :: ps).map (vaP w) := by simp [hva]
          rw [e, List.all_cons (a := p), hok, Bool.true_and]
          have e2 : (ns ++ [x]).length + (q :: ps).length = ns.length + (p :: q :: ps).length := by simp; omega
          rw [e2]
        · rw [if_neg hc, if_neg]
          intro h
          have h1 := h.1
          simp at h1
          omega
theorem rd_all (w : Sty) (l : List UInt8) (h : 0 < w.count) : rd w l [] 0 0 = if (spL w.mark l).length ≤ w.count ∧ (spL w.mark l).all (okP w) = true then some ((spL w.mark l).map (vaP w)) else none := by
  rw [rd_rdp, rdp_all w _ [] (spL_ne _ _) (by simpa using h)]
  simp
/-- The pieces of a text and one byte more. -/
theorem spL_snoc (m : UInt8) (c : UInt8) : ∀ l : List UInt8, spL m (l ++ [c]) = if c = m then spL m l ++ [[]] else (spL m l).dropLast ++ [(spL m l).getLastD [] ++ [c]] := by
  intro l
  induction l with
  | nil =>
    rw [List.nil_append]
    unfold spL
    split <;> rfl
  | cons x r ih =>
    rw [List.cons_append]
    have e1 : spL m (x :: (r ++ [c])) = if x = m then [] :: spL m (r ++ [c]) else match spL m (r ++ [c]) with
      | [] => [[x]]
      | p :: ps => (x :: p) :: ps := rfl
    have e2 : spL m (x :: r) = if x = m then [] :: spL m r else match spL m r with
      | [] => [[x]]
      | p :: ps => (x :: p) :: ps := rfl
    have hne := spL_ne m r
    generalize spL m r = S at *
    cases S with
    | nil => exact absurd rfl hne
    | cons p ps =>
      by_cases hx : x = m
      · rw [if_pos hx] at e1 e2
        rw [e1, ih, e2]
        split
        · rfl
        · simp
      · rw [if_neg hx] at e1 e2
        rw [e2, e1, ih]
        by_cases hc : c = m
        · rw [if_pos hc, if_pos hc]; rfl
        · rw [if_neg hc, if_neg hc]
          cases ps with
          | nil => rfl
          | cons p2 ps => simp
theorem spl_pieces (s : ByteArray) (c : UInt8) : ∀ k, k ≤ s.size → spL c ((bl s).take k) = (spl s c k).1.map bl ++ [bl (s.extract (spl s c k).2 k)] := by
  intro k
  induction k with
  | zero =>
    intro _
    show [[]] = [bl (s.extract 0 0)]
    rw [bl_ext]
    rfl
  | succ k ih =>
    intro hk
    have hlt : k < s.size := hk
    rw [bl_take s k hlt, spL_snoc]
    have hi := ih (by omega)
    have hnx : spl s c (k + 1) = if s[k]? = some c then ((spl s c k).1 ++ [s.extract (spl s c k).2 k], k + 1) else spl s c k := rfl
    have hk0 : s[k]? = some s[k] := getElem?_pos s k hlt
    rw [hk0] at hnx
    have hle := (spl_le s c k).1
    by_cases hc : s[k] = c
    · rw [hc, if_pos rfl] at hnx
      have e : bl (s.extract (k + 1) (k + 1)) = [] := by rw [bl_ext]; exact List.drop_of_length_le (by rw [List.length_take]; omega)
      rw [if_pos hc, hnx, hi, e]
      simp
    · rw [if_neg (by intro h; exact hc (Option.some.inj h))] at hnx
      rw [if_neg hc, hnx, hi, List.getLastD_concat, List.dropLast_concat]
      congr 2
      rw [bl_ext, bl_ext, bl_take s k hlt, List.drop_append_of_le_length (by rw [List.length_take, bl_len]; omega)]
/-- The document's parts are the pieces. -/
theorem parts_spL (s : ByteArray) (c : UInt8) : (parts s c).map bl = spL c (bl s) := by
  have h := spl_pieces s c s.size (Nat.le_refl _)
  rw [bl_all] at h
  rw [h]
  unfold parts
  rw [List.map_append]
  rfl
end Go.Proofs.YtkdplnbabelkoaaDoor
