/-
  Proved here: plain facts: IPv6 words cut at their gap, and the groups put into their places.
  Conditions: as each fact says.
-/
import Derived.Test.YtkdplnbabelkoaaDoorPut
import Derived.Test.YtkdplnbabelkoaaDoorSix
namespace Go.Proofs.YtkdplnbabelkoaaDoor
open Go.RowKit

/-- What the program reads of an address's word, by the cut. -/
theorem six_cut (l : List UInt8) : six l = match grs (Lib.cut l [58, 58]).1, grs (Lib.cut l [58, 58]).2.1 with
    | some f, some b => if (if (Lib.cut l [58, 58]).2.2 = true then decide (f.length + b.length < 8) else decide (f.length + b.length = 8)) = true then some (fill6 f b) else none
    | _, _ => none := by
  have h := cut_R [58, 58] l (by decide)
  unfold six
  cases hc : cutR [58, 58] l with
  | none =>
    rw [hc] at h
    dsimp only at h
    rw [h]
    dsimp only
    have h0 : grs [] = some [] := rfl
    rw [h0]
    cases hg : grs l with
    | none => rfl
    | some f =>
      dsimp only
      by_cases h8 : f.length = 8
      · rw [if_pos h8, if_pos (by simp; exact h8)]
      · rw [if_neg h8, if_neg (by simp; exact h8)]
  | some q =>
    rw [hc] at h
    dsimp only at h
    rw [h]
    dsimp only
    cases grs q.1 with
    | none => rfl
    | some f =>
      cases grs q.2 with
      | none => rfl
      | some b =>
        dsimp only
        by_cases h8 : f.length + b.length < 8
        · rw [if_pos h8, if_pos (by simp; exact h8)]
        · rw [if_neg h8, if_neg (by simp; omega)]
theorem gput_by (fr : Nat) (N : List Int) (G : List Int) : ∀ k, k ≤ N.length → fr + k ≤ G.length → gput (by16 G) fr N k = by16 (G.take fr ++ N.take k ++ G.drop (fr + k)) := by
  intro k
  induction k with
  | zero =>
    intro _ _
    unfold gput
    rw [List.take_zero, List.append_nil, Nat.add_zero, List.take_append_drop]
  | succ k ih =>
    intro hk hf
    unfold gput
    rw [ih (by omega) (by omega), ← by16_set]
    congr 1
    have hlt : fr + k < G.length := by omega
    rw [List.drop_eq_getElem_cons hlt, set_mid _ _ _ _ _ (by simp; omega), List.take_succ_eq_append_getElem (show k < N.length by omega)]
    have e : N.getD k 0 = N[k]'(by omega) := by rw [List.getD_eq_getElem?_getD, List.getElem?_eq_getElem (show k < N.length by omega)]; rfl
    rw [e]
    simp only [List.append_assoc, List.singleton_append]
    rfl
theorem fill_put (f b : List Nat) (h : f.length + b.length ≤ 8) : gput (gput (zs8 16) 0 (ints' f) f.length) (8 - b.length) (ints' b) b.length = fill6 f b := by
  have hf : (ints' f).length = f.length := by simp [ints']
  have hb : (ints' b).length = b.length := by simp [ints']
  have hz : zs8 16 = by16 (zs8 8) := rfl
  have hz8 : (zs8 8).length = 8 := rfl
  rw [hz, gput_by 0 _ _ _ (by omega) (by omega), gput_by _ _ _ _ (by omega) (by simp; omega)]
  unfold fill6
  congr 1
  rw [List.take_zero, List.nil_append, Nat.zero_add, List.take_of_length_le (l := ints' f) (by omega), List.take_of_length_le (l := ints' b) (by omega)]
  have e1 : (ints' f ++ (zs8 8).drop f.length).take (8 - b.length) = ints' f ++ zs8 (8 - (f.length + b.length)) := by
    rw [List.take_append, List.take_of_length_le (by omega)]
    congr 1
    unfold zs8
    rw [List.drop_replicate, List.take_replicate, hf]
    congr 1
    omega
  have e2 : (ints' f ++ (zs8 8).drop f.length).drop (8 - b.length + b.length) = [] := List.drop_of_length_le (by simp; omega)
  rw [e1, e2, List.append_nil]
end Go.Proofs.YtkdplnbabelkoaaDoor
