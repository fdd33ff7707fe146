/-
  Proved here: how a slice of numbers of 16 bits among a row's arguments is opened.
  Conditions: none.
-/
import Derived.Test.YtfpmkadlidbboaaOpen
import Derived.Test.YtfpmkadlidbboaaPieces
namespace Go.Proofs.Ytfpmkadlidbboaa
open Go.ChangeShapes Go.WideShapes Go.RowKit Go.ChangeMaps Go.Deep

theorem Try.cellsHalf : Try.prog.cellsOf 41 = 1 := by kernel_rfl
set_option maxRecDepth 100000 in
theorem open_halves_at {H : Type} {enc : TypeId × Value → H} {W : World} {v : Value} {d : DataW H} {ps : List MemPlace} {base : Nat} (hv : Value.okWide Try.prog W .any base 40 v) (h : DataW.Trod enc Try.prog W 0 (fun _ => true) true 40 v d ps) :
    ∃ ao len cap D, v = .slice ao len cap ∧ Halves W ao len D := by
  obtain ⟨ao, len, cap, rfl⟩ := okWide_slice Try.underlying40 hv
  obtain ⟨fuel, hf⟩ := h
  rcases open_ints Try.underlying40 Try.underlying41 Try.cellsHalf hf with ⟨hcs, hx⟩ | ⟨a, len', cap', zs, hcs, _, hl, hm, hzl, hx, hall, hw⟩
  · have hc' : [Value.slice ao len cap] = [Value.slice none 0 0] := hcs
    simp only [List.cons.injEq, and_true, Value.slice.injEq] at hc'
    obtain ⟨rfl, rfl, rfl⟩ := hc'
    exact ⟨none, 0, 0, fun _ => 0, rfl, fun i hi => absurd hi (Nat.not_lt_zero i)⟩
  · have hc' : [Value.slice ao len cap] = [Value.slice (some a) len' cap'] := hcs
    simp only [List.cons.injEq, and_true, Value.slice.injEq] at hc'
    obtain ⟨rfl, rfl, rfl⟩ := hc'
    simp only [if_true] at hzl
    refine ⟨some a, len, cap, fun i => (zs.getD i 0).toNat, rfl, fun i hi => ?_⟩
    obtain ⟨ab, o, spot⟩ := a
    have hspot : spot = none := by simpa [Addr.add] using World.cell?_spot (hall 0 (by omega))
    subst hspot
    have g0 := hall i (by omega)
    rw [add_plain] at g0
    have hz : i < zs.length := by omega
    have hwf := hw zs[i] (List.getElem_mem hz)
    have hb : 0 ≤ zs[i] ∧ zs[i] ≤ 65535 := by simpa [Lit.wf, IntKind.min, IntKind.max, IntKind.signed, IntKind.bits] using hwf
    have hg : zs.getD i 0 = zs[i] := by rw [List.getD_eq_getElem?_getD, List.getElem?_eq_getElem hz]; rfl
    refine ⟨ab, o, rfl, ?_, ?_⟩
    · rw [g0]
      simp only [hg]
      rw [Int.toNat_of_nonneg hb.1]
    · simp only [hg]
      omega
end Go.Proofs.Ytfpmkadlidbboaa
