/-
  Proved here: how a prefix by value among a row's arguments is opened.
  Conditions: none.
-/
import Derived.Test.YtpjcanejenmldaaOpenBytes
import Derived.Test.YtpjcanejenmldaaNet
namespace Go.Proofs.Ytpjcanejenmldaa
open Go.ChangeShapes Go.WideShapes Go.RowKit Go.ChangeMaps Go.Deep

theorem Try.cellsI : Try.prog.cellsOf 3 = 1 := by kernel_rfl
theorem Try.cellsSix : Try.prog.cellsOf 23 = 16 := by kernel_rfl
theorem Try.cellsNet : Try.prog.cellsOf 26 = 17 := by kernel_rfl
section
variable {H : Type} {enc : TypeId × Value → H} {base : Nat}
theorem some_of {X : Type} {a : Option X} {xs : List X} {i : Nat} (h : a = xs[i]?) (hi : i < xs.length) : ∃ y, a = some y := ⟨xs[i], by rw [h, List.getElem?_eq_getElem hi]⟩
theorem six_of {W : World} {n : Nat} {cs : List Value} {y : DataW H × List MemPlace} (hl : cs.length = 16) (h : DataW.trod enc Try.prog W 0 (fun _ => true) true n 23 cs = some y) : ∃ L : List Int, cs = b8 L ∧ L.length = 16 := by
  obtain ⟨xs, m, _, _, _, hx, hall⟩ := DataW.trod_array Try.underlying23 h
  have each : ∀ i (hi : i < cs.length), ∃ k : Int, cs[i] = .int .u8 k := by
    intro i hi
    have h1 := hall i (by omega)
    rw [Try.cellsByte, Nat.mul_one, List.drop_eq_getElem_cons hi, List.getElem?_eq_getElem (by omega)] at h1
    obtain ⟨k, e, _⟩ := DataW.trod_int Try.underlying5 h1
    have e' : cs[i] :: List.take 0 (cs.drop (i + 1)) = [.int .u8 k] := e
    exact ⟨k, (List.cons.inj e').1⟩
  refine ⟨cs.map intOf, ?_, by simpa using hl⟩
  unfold b8
  rw [List.map_map]
  apply List.ext_getElem (by simp)
  intro i h1 h2
  obtain ⟨k, hk⟩ := each i h1
  rw [List.getElem_map, hk]
  rfl
set_option maxRecDepth 100000 in
theorem open_net {W : World} {v : Value} {d : DataW H} {ps : List MemPlace} (hv : Value.okWide Try.prog W .any base 26 v) (h : DataW.Trod enc Try.prog W 0 (fun _ => true) true 26 v d ps) :
    ∃ p : Nt, v = .agg p.vals.toArray ∧ p.ad.length = 16 := by
  obtain ⟨cs, rfl, hsz⟩ := okWide_struct Try.underlying26 hv
  rw [Try.cellsNet] at hsz
  obtain ⟨l⟩ := cs
  have hl : l.length = 17 := hsz
  obtain ⟨fuel, hf⟩ := h
  obtain ⟨xs, n, _, _, _, hlen, hg⟩ := DataW.trod_struct Try.underlying26 hf
  have hlen' : xs.length = 2 := hlen
  have f0 : DataW.trod enc Try.prog W 0 (fun _ => true) true n 23 ((l.drop 0).take (Try.prog.cellsOf 23)) = xs[0]? := hg 0 _ rfl
  have f1 : DataW.trod enc Try.prog W 0 (fun _ => true) true n 3 ((l.drop 16).take (Try.prog.cellsOf 3)) = xs[1]? := hg 1 _ rfl
  rw [Try.cellsSix, List.drop_zero] at f0
  rw [Try.cellsI] at f1
  obtain ⟨y0, g0⟩ := some_of f0 (by omega)
  obtain ⟨y1, g1⟩ := some_of f1 (by omega)
  obtain ⟨L, hL, hL16⟩ := six_of (by simp; omega) g0
  obtain ⟨c, hc⟩ : ∃ c, l.drop 16 = [c] := by
    match hd : l.drop 16, (show (l.drop 16).length = 1 by simp; omega) with
    | [c], _ => exact ⟨c, rfl⟩
  rw [hc] at g1
  obtain ⟨k, e, _⟩ := DataW.trod_int Try.underlying3 g1
  refine ⟨⟨L, k⟩, ?_, hL16⟩
  congr 2
  show l = b8 L ++ [.int .i64 k]
  rw [← hL]
  have e1 : [c] = [.int .i64 k] := by simpa using e
  rw [← e1, ← hc, List.take_append_drop]
end
end Go.Proofs.Ytpjcanejenmldaa
