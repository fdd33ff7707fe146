/-
  Proved here: how an address by value among a row's arguments is opened.
  Conditions: none.
-/
import Derived.Test.YtkihhmnlefekoaaOpen
import Derived.Test.YtkihhmnlefekoaaPk6
import Derived.Deep.Slices
import Derived.SizedLaws
namespace Go.Proofs.Ytkihhmnlefekoaa
open Go.ChangeShapes Go.WideShapes Go.RowKit Go.ChangeMaps Go.Deep

def u8i (x : Int) : UInt8 := UInt8.ofNat x.toNat
theorem u8i_nat {x : Int} (h0 : 0 ≤ x) (h1 : x < 256) : (((u8i x).toNat : Nat) : Int) = x := by
  unfold u8i
  rw [UInt8.toNat_ofNat']
  omega
theorem Try.cellsB : Try.prog.cellsOf 5 = 1 := by kernel_rfl
theorem Try.cellsV6 : Try.prog.cellsOf 32 = 16 := by kernel_rfl
section
variable {H : Type} {enc : TypeId × Value → H} {w : World} {base : Nat} {spare : Nat → Bool} {held : Bool} {n : Nat}
theorem some_of {X : Type} {a : Option X} {xs : List X} {i : Nat} (h : a = xs[i]?) (hi : i < xs.length) : a = some xs[i] := by rw [h, List.getElem?_eq_getElem hi]
set_option maxRecDepth 100000 in
theorem v6_of {cs : List Value} {y : DataW H × List MemPlace} (hl : cs.length = 16) (h : DataW.trod enc Try.prog w base spare held n 32 cs = some y) : ∃ L : List UInt8, cs = bytV L ∧ L.length = 16 := by
  obtain ⟨xs, m, _, _, _, hx, hall⟩ := DataW.trod_array Try.underlying32 h
  have each : ∀ i (hi : i < cs.length), ∃ k : Int, cs[i] = .int .u8 k ∧ 0 ≤ k ∧ k < 256 := by
    intro i hi
    have h1 := hall i (by omega)
    rw [Try.cellsB, Nat.mul_one, List.drop_eq_getElem_cons hi, List.getElem?_eq_getElem (by omega)] at h1
    obtain ⟨k, e, _, hw⟩ := DataW.trod_int Try.underlying5 h1
    have h3 : 0 ≤ k ∧ k ≤ 255 := by simpa [Lit.wf, IntKind.min, IntKind.max, IntKind.signed, IntKind.bits] using hw
    have e' : [cs[i]] = [Value.int .u8 k] := e
    exact ⟨k, (List.cons.inj e').1, h3.1, by omega⟩
  refine ⟨cs.map (fun v => u8i (intOf v)), ?_, by simpa using hl⟩
  unfold bytV
  rw [List.map_map]
  apply List.ext_getElem (by simp)
  intro i h1 h2
  obtain ⟨k, hk, h0, h3⟩ := each i h1
  rw [List.getElem_map, hk]
  show Value.int .u8 k = Value.int .u8 ((u8i k).toNat : Int)
  rw [u8i_nat h0 h3]
end
set_option maxRecDepth 100000 in
theorem open_v6 {H : Type} {enc : TypeId × Value → H} {W : World} {base : Nat} {v : Value} {d : DataW H} {ps : List MemPlace} (hv : Value.okWide Try.prog W .any base 32 v) (h : DataW.Trod enc Try.prog W 0 (fun _ => true) true 32 v d ps) :
    ∃ L : List UInt8, v = .agg (bytV L).toArray ∧ L.length = 16 := by
  unfold Value.okWide at hv
  rw [Try.underlying32] at hv
  obtain ⟨cs, rfl, hs, _⟩ := hv
  obtain ⟨fuel, hf⟩ := h
  rw [Try.cellsV6] at hs
  obtain ⟨L, e, hl⟩ := v6_of (cs := cs.toList) (by simpa using hs) hf
  refine ⟨L, ?_, hl⟩
  congr 1
  apply Array.toList_inj.1
  exact e
end Go.Proofs.Ytkihhmnlefekoaa
