/-
  Proved here: how addresses and prefixes by value among a law's arguments are opened.
  Conditions: none.
-/
import Derived.Test.YtkkgcmfcfacakaaDoorLiftc
import Derived.OpenShut
import Derived.Deep.SlicePairs
namespace Go.Proofs.YtkkgcmfcfacakaaDoor
open Go.ChangeShapes Go.WideShapes Go.RowKit Go.ChangeMaps

theorem Tryd.laidOut : laidOutB Tryd.prog = true := by kernel_rfl
section
variable {H : Type} {enc : TypeId × Value → H} {base : Nat}
theorem some_ofc {X : Type} {a : Option X} {xs : List X} {i : Nat} (h : a = xs[i]?) (hi : i < xs.length) : ∃ y, a = some y := ⟨xs[i], by rw [h, List.getElem?_eq_getElem hi]⟩
theorem u8_of_wf {k : Int} (h : (Lit.int .u8 k).wf = true) : ∃ c : UInt8, k = (c.toNat : Int) := by
  have h2 : 0 ≤ k ∧ k ≤ 255 := by simpa [Lit.wf, IntKind.min, IntKind.max, IntKind.bits, IntKind.signed] using h
  refine ⟨UInt8.ofNat k.toNat, ?_⟩
  rw [UInt8.toNat_ofNat', Nat.mod_eq_of_lt (by omega)]
  omega
theorem bytes_of {W : World} {fuel n : Nat} {T : TypeId} {cs : List Value} {y : DataW H × List MemPlace} (hT : Tryd.prog.underlying T = some (.array n 5)) (hl : cs.length = n) (h : DataW.trod enc Tryd.prog W 0 (fun _ => true) true fuel T cs = some y) : ∃ L : List UInt8, cs = bu L ∧ L.length = n := by
  obtain ⟨xs, m, _, _, _, hx, hall⟩ := DataW.trod_array hT h
  have each : ∀ i (hi : i < cs.length), ∃ c : UInt8, cs[i] = .int .u8 (c.toNat : Int) := by
    intro i hi
    have h1 := hall i (by omega)
    rw [Tryd.cU8, Nat.mul_one, List.drop_eq_getElem_cons hi, List.getElem?_eq_getElem (by omega)] at h1
    obtain ⟨k, e, _, hw⟩ := DataW.trod_int Tryd.underlying5 h1
    have e' : cs[i] :: List.take 0 (cs.drop (i + 1)) = [.int .u8 k] := e
    obtain ⟨c, hc⟩ := u8_of_wf hw
    exact ⟨c, by rw [(List.cons.inj e').1, hc]⟩
  refine ⟨cs.map fun v => UInt8.ofNat (intOf v).toNat, ?_, by simpa using hl⟩
  unfold bu
  rw [List.map_map]
  apply List.ext_getElem (by simp)
  intro i h1 h2
  obtain ⟨c, hc⟩ := each i h1
  rw [List.getElem_map, hc]
  show Value.int .u8 (c.toNat : Int) = .int .u8 (((UInt8.ofNat ((c.toNat : Nat) : Int).toNat).toNat : Nat) : Int)
  simp
set_option maxRecDepth 100000 in
theorem open_vc {W : World} {v : Value} {d : DataW H} {ps : List MemPlace} {n : Nat} {T : TypeId} (ht : Tryd.prog.underlying T = some (.array n 5)) (hc : Tryd.prog.cellsOf T = n) (hv : Value.okWide Tryd.prog W .any base T v) (h : DataW.Trod enc Tryd.prog W 0 (fun _ => true) true T v d ps) :
    ∃ L : List UInt8, v = .agg (bu L).toArray ∧ L.length = n := by
  unfold Value.okWide at hv
  rw [ht] at hv
  obtain ⟨cs, rfl, hs, _⟩ := hv
  obtain ⟨fuel, hf⟩ := h
  obtain ⟨L, hL, hn⟩ := bytes_of ht (show cs.toList.length = n by rw [Array.length_toList, hs, hc]) hf
  refine ⟨L, ?_, hn⟩
  congr 1
  apply Array.toList_inj.1
  rw [List.toList_toArray]
  exact hL
set_option maxRecDepth 100000 in
theorem open_v4 {W : World} {v : Value} {d : DataW H} {ps : List MemPlace} (hv : Value.okWide Tryd.prog W .any base 28 v) (h : DataW.Trod enc Tryd.prog W 0 (fun _ => true) true 28 v d ps) :
    ∃ L : List UInt8, v = .agg (bu L).toArray ∧ L.length = 4 := open_vc Tryd.underlying28 (by kernel_rfl) hv h
set_option maxRecDepth 100000 in
theorem open_n4 {W : World} {v : Value} {d : DataW H} {ps : List MemPlace} (hv : Value.okWide Tryd.prog W .any base 32 v) (h : DataW.Trod enc Tryd.prog W 0 (fun _ => true) true 32 v d ps) :
    ∃ p : Nn, v = .agg p.vals.toArray ∧ p.ad.length = 4 := by
  obtain ⟨cs, rfl, hsz⟩ := okWide_struct Tryd.underlying32 hv
  rw [Tryd.cN4] at hsz
  obtain ⟨l⟩ := cs
  have hl : l.length = 5 := hsz
  obtain ⟨fuel, hf⟩ := h
  obtain ⟨xs, n, _, _, _, hlen, hg⟩ := DataW.trod_struct Tryd.underlying32 hf
  have hlen' : xs.length = 2 := hlen
  have f0 : DataW.trod enc Tryd.prog W 0 (fun _ => true) true n 28 ((l.drop 0).take (Tryd.prog.cellsOf 28)) = xs[0]? := hg 0 _ rfl
  have f1 : DataW.trod enc Tryd.prog W 0 (fun _ => true) true n 3 ((l.drop 4).take (Tryd.prog.cellsOf 3)) = xs[1]? := hg 1 _ rfl
  rw [Tryd.cV4, List.drop_zero] at f0
  rw [Tryd.cInt] at f1
  obtain ⟨y0, g0⟩ := some_ofc f0 (by omega)
  obtain ⟨y1, g1⟩ := some_ofc f1 (by omega)
  obtain ⟨L, hL, hL16⟩ := bytes_of Tryd.underlying28 (by simp; omega) g0
  obtain ⟨c, hc⟩ : ∃ c, l.drop 4 = [c] := by
    match hd : l.drop 4, (show (l.drop 4).length = 1 by simp; omega) with
    | [c], _ => exact ⟨c, rfl⟩
  rw [hc] at g1
  obtain ⟨k, e, _⟩ := DataW.trod_int Tryd.underlying3 g1
  refine ⟨⟨L, k⟩, ?_, hL16⟩
  congr 2
  show l = bu L ++ [.int .i64 k]
  rw [← hL]
  have e1 : [c] = [.int .i64 k] := by simpa using e
  rw [← e1, ← hc, List.take_append_drop]
set_option maxRecDepth 100000 in
theorem open_v6 {W : World} {v : Value} {d : DataW H} {ps : List MemPlace} (hv : Value.okWide Tryd.prog W .any base 24 v) (h : DataW.Trod enc Tryd.prog W 0 (fun _ => true) true 24 v d ps) :
    ∃ L : List UInt8, v = .agg (bu L).toArray ∧ L.length = 16 := open_vc Tryd.underlying24 (by kernel_rfl) hv h
set_option maxRecDepth 100000 in
theorem open_n6 {W : World} {v : Value} {d : DataW H} {ps : List MemPlace} (hv : Value.okWide Tryd.prog W .any base 36 v) (h : DataW.Trod enc Tryd.prog W 0 (fun _ => true) true 36 v d ps) :
    ∃ p : Nn, v = .agg p.vals.toArray ∧ p.ad.length = 16 := by
  obtain ⟨cs, rfl, hsz⟩ := okWide_struct Tryd.underlying36 hv
  rw [Tryd.cN6] at hsz
  obtain ⟨l⟩ := cs
  have hl : l.length = 17 := hsz
  obtain ⟨fuel, hf⟩ := h
  obtain ⟨xs, n, _, _, _, hlen, hg⟩ := DataW.trod_struct Tryd.underlying36 hf
  have hlen' : xs.length = 2 := hlen
  have f0 : DataW.trod enc Tryd.prog W 0 (fun _ => true) true n 24 ((l.drop 0).take (Tryd.prog.cellsOf 24)) = xs[0]? := hg 0 _ rfl
  have f1 : DataW.trod enc Tryd.prog W 0 (fun _ => true) true n 3 ((l.drop 16).take (Tryd.prog.cellsOf 3)) = xs[1]? := hg 1 _ rfl
  rw [Tryd.cV6, List.drop_zero] at f0
  rw [Tryd.cInt] at f1
  obtain ⟨y0, g0⟩ := some_ofc f0 (by omega)
  obtain ⟨y1, g1⟩ := some_ofc f1 (by omega)
  obtain ⟨L, hL, hL16⟩ := bytes_of Tryd.underlying24 (by simp; omega) g0
  obtain ⟨c, hc⟩ : ∃ c, l.drop 16 = [c] := by
    match hd : l.drop 16, (show (l.drop 16).length = 1 by simp; omega) with
    | [c], _ => exact ⟨c, rfl⟩
  rw [hc] at g1
  obtain ⟨k, e, _⟩ := DataW.trod_int Tryd.underlying3 g1
  refine ⟨⟨L, k⟩, ?_, hL16⟩
  congr 2
  show l = bu L ++ [.int .i64 k]
  rw [← hL]
  have e1 : [c] = [.int .i64 k] := by simpa using e
  rw [← e1, ← hc, List.take_append_drop]
end
end Go.Proofs.YtkkgcmfcfacakaaDoor
