/-
  Proved here: plain facts: IPv4 words and lengths, as the program reads them.
  Conditions: as each fact says.
-/
import Derived.Test.YtkdplnbabelkoaaDoorParse4
import Derived.Test.YtkdplnbabelkoaaDoorSix
namespace Go.Proofs.YtkdplnbabelkoaaDoor
open Go.RowKit

theorem all_dec (m : UInt8) (most count : Nat) (ps : List ByteArray) : (ps.map bl).all (okP (decS m most count)) = (ps.map fun t => numb (bl t) most).all (fun n => decide (0 ≤ n)) := by
  rw [List.all_map, List.all_map]
  congr 1
  funext t
  exact (ok_dec m most count (bl t)).1
theorem map_dec (m : UInt8) (most count : Nat) (ps : List ByteArray) (h : (ps.map bl).all (okP (decS m most count)) = true) : ints' ((ps.map bl).map (vaP (decS m most count))) = ps.map fun t => numb (bl t) most := by
  unfold ints'
  rw [List.map_map, List.map_map]
  apply List.map_congr_left
  intro t ht
  have h1 := List.all_eq_true.mp h (bl t) (List.mem_map_of_mem ht)
  exact (ok_dec m most count (bl t)).2 h1
def P4 : Sty := decS 46 255 4
/-- What the program reads of an IPv4 word is what the document says. -/
theorem four_doc (s : ByteArray) : match rd P4 (bl s) [] 0 0 with
    | none => ok4 s = false ∧ val4 s = zero4
    | some ns => if ns.length = 4 then ok4 s = true ∧ val4 s = ints' ns else ok4 s = false ∧ val4 s = zero4 := by
  have hp := parts_spL s 46
  have hr : rd P4 (bl s) [] 0 0 = if (spL 46 (bl s)).length ≤ 4 ∧ (spL 46 (bl s)).all (okP P4) = true then some ((spL 46 (bl s)).map (vaP P4)) else none := rd_all P4 (bl s) (by decide)
  have hok : ok4 s = (decide ((parts s 46).length = 4) && ((parts s 46).map fun t => numb (bl t) 255).all (fun n => decide (0 ≤ n))) := rfl
  have hval : val4 s = if ok4 s = true then (parts s 46).map (fun t => numb (bl t) 255) else zero4 := rfl
  have ha := all_dec 46 255 4 (parts s 46)
  have hm := map_dec 46 255 4 (parts s 46)
  have hl : (spL 46 (bl s)).length = (parts s 46).length := by rw [← hp, List.length_map]
  rw [hr, ← hp]
  have e1 : (255 : Int) = ((255 : Nat) : Int) := rfl
  rw [e1] at hok hval
  rw [List.length_map]
  by_cases h1 : (parts s 46).length ≤ 4 ∧ ((parts s 46).map bl).all (okP P4) = true
  · rw [if_pos h1]
    dsimp only
    rw [List.length_map, List.length_map]
    have h2 : ((parts s 46).map fun t => numb (bl t) ((255 : Nat) : Int)).all (fun n => decide (0 ≤ n)) = true := by rw [← ha]; exact h1.2
    rw [h2, Bool.and_true] at hok
    by_cases h4 : (parts s 46).length = 4
    · rw [if_pos h4]
      have h5 : ok4 s = true := by rw [hok]; exact decide_eq_true h4
      refine ⟨h5, ?_⟩
      rw [hval, if_pos h5]
      exact (hm h1.2).symm
    · rw [if_neg h4]
      have h5 : ok4 s = false := by rw [hok]; exact decide_eq_false h4
      exact ⟨h5, by rw [hval, if_neg (by rw [h5]; simp)]⟩
  · rw [if_neg h1]
    dsimp only
    have h5 : ok4 s = false := by
      rw [hok, Bool.and_eq_false_iff]
      by_cases h4 : (parts s 46).length = 4
      · refine .inr ?_
        rw [← ha]
        have h6 : ¬ ((parts s 46).map bl).all (okP P4) = true := fun h => h1 ⟨by omega, h⟩
        exact (Bool.not_eq_true _).mp h6
      · exact .inl (decide_eq_false h4)
    exact ⟨h5, by rw [hval, if_neg (by rw [h5]; simp)]⟩
/-- A length alone. -/
theorem len_doc (l : List UInt8) (most : Nat) : rd (decS 47 most 1) l [] 0 0 = if (spL 47 l).length = 1 ∧ 0 ≤ numb l most then some [(numb l most).toNat] else none := by
  have hr : rd (decS 47 most 1) l [] 0 0 = if (spL 47 l).length ≤ 1 ∧ (spL 47 l).all (okP (decS 47 most 1)) = true then some ((spL 47 l).map (vaP (decS 47 most 1))) else none := rd_all (decS 47 most 1) l (by show 0 < 1; omega)
  rw [hr]
  have hone := cut_one 47 l
  cases hc : cutR [47] l with
  | none =>
    rw [hc] at hone
    dsimp only at hone
    rw [hone]
    have h := ok_dec 47 most 1 l
    by_cases h0 : 0 ≤ numb l most
    · have h1 : okP (decS 47 most 1) l = true := by rw [h.1]; exact decide_eq_true h0
      rw [if_pos (by simp [h1]), if_pos ⟨rfl, h0⟩]
      have := h.2 h1
      simp
      omega
    · have h1 : okP (decS 47 most 1) l = false := by rw [h.1]; exact decide_eq_false h0
      rw [if_neg (by simp [h1]), if_neg (fun x => h0 x.2)]
  | some q =>
    rw [hc] at hone
    dsimp only at hone
    have h2 : 2 ≤ (spL 47 l).length := by
      rw [hone, List.length_cons]
      have := spL_ne 47 q.2
      have : (spL 47 q.2).length ≠ 0 := fun h => this (List.length_eq_zero_iff.mp h)
      omega
    rw [if_neg (fun x => by have := x.1; omega), if_neg (fun x => by have := x.1; omega)]
end Go.Proofs.YtkdplnbabelkoaaDoor
