/-
  Proved here: how a slice of texts among a row's arguments is opened.
  Conditions: none.
-/
import Derived.Test.YtfpmkadlidbboaaOpen
import Derived.Test.YtfpmkadlidbboaaAdded
namespace Go.Proofs.Ytfpmkadlidbboaa
open Go.ChangeShapes Go.WideShapes Go.RowKit Go.ChangeMaps Go.Deep

theorem Try.cellsString : Try.prog.cellsOf 9 = 1 := by kernel_rfl
set_option maxRecDepth 100000 in
theorem open_strs_at {H : Type} {enc : TypeId × Value → H} {W : World} {v : Value} {d : DataW H} {ps : List MemPlace} {base : Nat} (hv : Value.okWide Try.prog W .any base 32 v) (h : DataW.Trod enc Try.prog W 0 (fun _ => true) true 32 v d ps) :
    ∃ ao len cap S, v = .slice ao len cap ∧ Pcs W ao len S ∧ len ≤ maxLen ∧ ∀ i, i < len → (S i).size ≤ maxLen := by
  obtain ⟨ao, len, cap, rfl⟩ := okWide_slice Try.underlying32 hv
  obtain ⟨fuel, hf⟩ := h
  rcases open_strs Try.underlying32 Try.underlying9 Try.cellsString hf with ⟨hc, hx⟩ | ⟨a, len', cap', m, S, hc, _, hl, hm, hmm, hx, hall⟩
  · have hc' : [Value.slice ao len cap] = [Value.slice none 0 0] := hc
    simp only [List.cons.injEq, and_true, Value.slice.injEq] at hc'
    obtain ⟨rfl, rfl, rfl⟩ := hc'
    exact ⟨none, 0, 0, fun _ => ⟨#[]⟩, rfl, fun i hi => absurd hi (Nat.not_lt_zero i), Nat.zero_le _, fun i hi => absurd hi (Nat.not_lt_zero i)⟩
  · have hc' : [Value.slice ao len cap] = [Value.slice (some a) len' cap'] := hc
    simp only [List.cons.injEq, and_true, Value.slice.injEq] at hc'
    obtain ⟨rfl, rfl, rfl⟩ := hc'
    simp only [if_true] at hmm
    subst hmm
    refine ⟨some a, len, m, S, rfl, fun i hi => ?_, by omega, fun i hi => (hall i (by omega)).2⟩
    obtain ⟨ab, o, spot⟩ := a
    have hspot : spot = none := by simpa [Addr.add] using World.cell?_spot (hall 0 (by omega)).1
    subst hspot
    have g0 := (hall i (by omega)).1
    rw [add_plain] at g0
    exact ⟨ab, o, rfl, g0⟩
end Go.Proofs.Ytfpmkadlidbboaa
