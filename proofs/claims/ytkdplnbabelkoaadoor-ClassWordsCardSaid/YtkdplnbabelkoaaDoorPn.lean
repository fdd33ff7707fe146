/-
  Proved here: plain facts: a text cut at its first stroke, and the document's parts.
  Conditions: as each fact says.
-/
import Derived.Test.YtkdplnbabelkoaaDoorPw
namespace Go.Proofs.YtkdplnbabelkoaaDoor
open Go.RowKit

def cutA (s : ByteArray) : ByteArray := ⟨(Lib.cut s.data.toList [47]).1.toArray⟩
def cutB (s : ByteArray) : ByteArray := ⟨(Lib.cut s.data.toList [47]).2.1.toArray⟩
theorem bl_inj (a b : ByteArray) (h : bl a = bl b) : a = b := ba_ext h
theorem bl_mk (l : List UInt8) : bl ⟨l.toArray⟩ = l := by unfold bl; simp
theorem numb_nil (most : Int) : numb [] most = -1 := by unfold numb; rw [if_pos (.inl rfl)]
/-- Two parts between strokes are the cut ones. -/
theorem cut_parts (s : ByteArray) : ((parts s 47).length = 2 → parts s 47 = [cutA s, cutB s] ∧ (spL 47 (bl (cutB s))).length = 1) ∧ (∀ most : Int, (spL 47 (bl (cutB s))).length = 1 → 0 ≤ numb (bl (cutB s)) most → (parts s 47).length = 2) := by
  have hp := parts_spL s 47
  have hc := cut_R [47] (bl s) (by decide)
  have ho := cut_one 47 (bl s)
  have hA : bl (cutA s) = (Lib.cut (bl s) [47]).1 := bl_mk _
  have hB : bl (cutB s) = (Lib.cut (bl s) [47]).2.1 := bl_mk _
  cases hx : cutR [47] (bl s) with
  | none =>
    rw [hx] at hc ho
    dsimp only at hc ho
    rw [hc] at hA hB
    have hl : (parts s 47).length = 1 := by rw [← List.length_map (f := bl), hp, ho]; rfl
    refine ⟨fun h => by omega, fun most _ h => ?_⟩
    rw [hB, numb_nil] at h
    omega
  | some q =>
    rw [hx] at hc ho
    dsimp only at hc ho
    rw [hc] at hA hB
    dsimp only at hA hB
    have hl : (parts s 47).length = (spL 47 q.2).length + 1 := by rw [← List.length_map (f := bl), hp, ho]; rfl
    rw [hB]
    refine ⟨fun h => ?_, fun most h _ => by omega⟩
    have h1 : (spL 47 q.2).length = 1 := by omega
    refine ⟨?_, h1⟩
    have h2 : spL 47 q.2 = [q.2] := by
      have ho2 := cut_one 47 q.2
      cases hy : cutR [47] q.2 with
      | none => rw [hy] at ho2; exact ho2
      | some z =>
        rw [hy] at ho2
        dsimp only at ho2
        rw [ho2] at h1
        have := spL_ne 47 z.2
        have h3 : (spL 47 z.2).length = 0 := by simpa using h1
        exact absurd (List.length_eq_zero_iff.mp h3) this
    rw [ho, h2] at hp
    match hq : parts s 47, h with
    | [a, b], _ =>
      rw [hq] at hp
      have h3 : [bl a, bl b] = [q.1, q.2] := hp
      have e1 : bl a = q.1 := (List.cons.inj h3).1
      have e2 : bl b = q.2 := (List.cons.inj (List.cons.inj h3).2).1
      rw [bl_inj a (cutA s) (by rw [e1, hA]), bl_inj b (cutB s) (by rw [e2, hB])]
/-- What length answers, by the document's number. -/
def lenv (s : ByteArray) (most : Nat) : Int := if (spL 47 (bl s)).length = 1 ∧ 0 ≤ numb (bl s) most then numb (bl s) most else 0
def leno (s : ByteArray) (most : Nat) : Bool := decide ((spL 47 (bl s)).length = 1 ∧ 0 ≤ numb (bl s) most)
end Go.Proofs.YtkdplnbabelkoaaDoor
