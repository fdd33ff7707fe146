/-
  Proved here: how an array of bytes by value among a row's arguments is opened.
  Conditions: none.
-/
import Derived.Test.YtkihhmnlefekoaaOpen
namespace Go.Proofs.Ytkihhmnlefekoaa
open Go.ChangeShapes Go.WideShapes Go.RowKit Go.ChangeMaps

theorem Try.cellsByte : Try.prog.cellsOf 5 = 1 := by kernel_rfl
set_option maxRecDepth 100000 in
theorem open_bytes {H : Type} {enc : TypeId × Value → H} {W : World} {v : Value} {d : DataW H} {ps : List MemPlace} {base n : Nat} {T : TypeId} (ht : Try.prog.underlying T = some (.array n 5)) (hc : Try.prog.cellsOf T = n) (hv : Value.okWide Try.prog W .any base T v) (h : DataW.Trod enc Try.prog W 0 (fun _ => true) true T v d ps) :
    ∃ L : List Int, v = .agg (L.map (Value.int .u8)).toArray ∧ L.length = n := by
  unfold Value.okWide at hv
  rw [ht] at hv
  obtain ⟨cs, rfl, hs, _⟩ := hv
  obtain ⟨fuel, hf⟩ := h
  obtain ⟨xs, m, _, _, hl, hx, hall⟩ := DataW.trod_array ht hf
  have hcs : (Value.agg cs).cells.toList = cs.toList := rfl
  rw [hcs] at hall
  have hsz : cs.size = n := by rw [hs, hc]
  have each : ∀ i (hi : i < cs.toList.length), ∃ k : Int, cs.toList[i] = .int .u8 k := by
    intro i hi
    have hi' : i < n := by simpa [hsz] using hi
    have h1 := hall i hi'
    rw [Try.cellsByte, Nat.mul_one, List.drop_eq_getElem_cons hi, List.getElem?_eq_getElem (by omega)] at h1
    obtain ⟨k, e, _⟩ := DataW.trod_int Try.underlying5 h1
    exact ⟨k, by simpa using e⟩
  refine ⟨cs.toList.map intOf, ?_, by simpa using hsz⟩
  congr 1
  apply Array.toList_inj.1
  rw [List.toList_toArray, List.map_map]
  apply List.ext_getElem (by simp)
  intro i h1 h2
  obtain ⟨k, hk⟩ := each i h1
  rw [List.getElem_map, hk]
  rfl
set_option maxRecDepth 100000 in
theorem open_four {H : Type} {enc : TypeId × Value → H} {W : World} {v : Value} {d : DataW H} {ps : List MemPlace} {base : Nat} (hv : Value.okWide Try.prog W .any base 23 v) (h : DataW.Trod enc Try.prog W 0 (fun _ => true) true 23 v d ps) :
    ∃ L : List Int, v = .agg (L.map (Value.int .u8)).toArray ∧ L.length = 4 := open_bytes Try.underlying23 (by kernel_rfl) hv h
set_option maxRecDepth 100000 in
theorem open_sixteen {H : Type} {enc : TypeId × Value → H} {W : World} {v : Value} {d : DataW H} {ps : List MemPlace} {base : Nat} (hv : Value.okWide Try.prog W .any base 32 v) (h : DataW.Trod enc Try.prog W 0 (fun _ => true) true 32 v d ps) :
    ∃ L : List Int, v = .agg (L.map (Value.int .u8)).toArray ∧ L.length = 16 := open_bytes Try.underlying32 (by kernel_rfl) hv h
end Go.Proofs.Ytkihhmnlefekoaa
