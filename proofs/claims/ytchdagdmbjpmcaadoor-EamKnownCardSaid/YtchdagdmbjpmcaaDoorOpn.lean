/-
  Proved here: how pairs, slices of pairs and slices of acts among a law's arguments are opened.
  Conditions: none.
-/
import Derived.Test.YtchdagdmbjpmcaaDoorLift
import Derived.Deep.Slices
import Derived.SizedLaws
import Derived.OpenShut
import Derived.Deep.SlicePairs
namespace Go.Proofs.YtchdagdmbjpmcaaDoor
open Go.ChangeShapes Go.WideShapes Go.RowKit Go.ChangeMaps Go.Deep

theorem Tryd.laidOut : laidOutB Tryd.prog = true := by kernel_rfl
section
variable {H : Type} {enc : TypeId × Value → H} {base : Nat}
theorem some_ofc {X : Type} {a : Option X} {xs : List X} {i : Nat} (h : a = xs[i]?) (hi : i < xs.length) : ∃ y, a = some y := ⟨xs[i], by rw [h, List.getElem?_eq_getElem hi]⟩
theorem u8_of_wf {k : Int} (h : (Lit.int .u8 k).wf = true) : ∃ c : UInt8, k = (c.toNat : Int) := by
  have h2 : 0 ≤ k ∧ k ≤ 255 := by simpa [Lit.wf, IntKind.min, IntKind.max, IntKind.bits, IntKind.signed] using h
  refine ⟨UInt8.ofNat k.toNat, ?_⟩
  rw [UInt8.toNat_ofNat', Nat.mod_eq_of_lt (by omega)]
  omega
theorem bytes_of {W : World} {fuel n : Nat} {T : TypeId} {cs : List Value} {y : DataW H × List MemPlace} (hT : Tryd.prog.underlying T = some (.array n 5)) (hl : cs.length = n) (h : DataW.trod enc Tryd.prog W 0 (fun _ => true) true fuel T cs = some y) : ∃ L : List UInt8, cs = bu L ∧ L.length = n := by
  obtain ⟨xs, m, _, _, _, hx, hall⟩ := DataW.trod_array hT h
  have each : ∀ i (hi : i < cs.length), ∃ c : UInt8, cs[i] = .int .u8 (c.toNat : Int) := by
    intro i hi
    have h1 := hall i (by omega)
    rw [Tryd.cU8, Nat.mul_one, List.drop_eq_getElem_cons hi, List.getElem?_eq_getElem (by omega)] at h1
    obtain ⟨k, e, _, hw⟩ := DataW.trod_int Tryd.underlying5 h1
    have e' : cs[i] :: List.take 0 (cs.drop (i + 1)) = [.int .u8 k] := e
    obtain ⟨c, hc⟩ := u8_of_wf hw
    exact ⟨c, by rw [(List.cons.inj e').1, hc]⟩
  refine ⟨cs.map fun v => UInt8.ofNat (intOf v).toNat, ?_, by simpa using hl⟩
  unfold bu
  rw [List.map_map]
  apply List.ext_getElem (by simp)
  intro i h1 h2
  obtain ⟨c, hc⟩ := each i h1
  rw [List.getElem_map, hc]
  show Value.int .u8 (c.toNat : Int) = .int .u8 (((UInt8.ofNat ((c.toNat : Nat) : Int).toNat).toNat : Nat) : Int)
  simp
set_option maxRecDepth 100000 in
theorem pair_of {W : World} {fuel : Nat} {cs : List Value} {y : DataW H × List MemPlace} (h : DataW.trod enc Tryd.prog W 0 (fun _ => true) true fuel 38 cs = some y) (hl : cs.length = 20) : ∃ p, cs = prv p ∧ okPr p := by
  obtain ⟨xs, n, _, _, _, hlen, hg⟩ := DataW.trod_struct Tryd.underlying38 h
  have hlen' : xs.length = 2 := hlen
  have f0 : DataW.trod enc Tryd.prog W 0 (fun _ => true) true n 36 ((cs.drop 0).take (Tryd.prog.cellsOf 36)) = xs[0]? := hg 0 _ rfl
  have f1 : DataW.trod enc Tryd.prog W 0 (fun _ => true) true n 23 ((cs.drop 4).take (Tryd.prog.cellsOf 23)) = xs[1]? := hg 1 _ rfl
  rw [Tryd.cV4, List.drop_zero] at f0
  rw [Tryd.cV6] at f1
  obtain ⟨y0, g0⟩ := some_ofc f0 (by omega)
  obtain ⟨y1, g1⟩ := some_ofc f1 (by omega)
  obtain ⟨A, hA, hA4⟩ := bytes_of Tryd.underlying36 (by simp; omega) g0
  obtain ⟨B, hB, hB16⟩ := bytes_of Tryd.underlying23 (by simp; omega) g1
  refine ⟨(A, B), ?_, hA4, hB16⟩
  show cs = bu A ++ bu B
  rw [← hA, ← hB, List.take_of_length_le (l := cs.drop 4) (by simp; omega), List.take_append_drop]
theorem Tryd.cPair : Tryd.prog.cellsOf 38 = 20 := by kernel_rfl
theorem Tryd.cAct : Tryd.prog.cellsOf 50 = 21 := by kernel_rfl
set_option maxRecDepth 100000 in
theorem open_pair {W : World} {v : Value} {d : DataW H} {ps : List MemPlace} (hv : Value.okWide Tryd.prog W .any base 38 v) (h : DataW.Trod enc Tryd.prog W 0 (fun _ => true) true 38 v d ps) : ∃ p, v = .agg (prv p).toArray ∧ okPr p := by
  obtain ⟨cs, rfl, hsz⟩ := okWide_struct Tryd.underlying38 hv
  rw [Tryd.cPair] at hsz
  obtain ⟨l⟩ := cs
  obtain ⟨fuel, hf⟩ := h
  obtain ⟨p, hp, hk⟩ := pair_of hf hsz
  have e : l = prv p := hp
  exact ⟨p, by rw [e], hk⟩
theorem choose_list {X : Type} [Inhabited X] {n : Nat} {Q : Nat → X → Prop} (h : ∀ i, i < n → ∃ x, Q i x) : ∃ l : List X, l.length = n ∧ ∀ i (hi : i < l.length), Q i l[i] := by
  induction n with
  | zero => exact ⟨[], rfl, fun i hi => by cases hi⟩
  | succ n ih =>
    obtain ⟨l, hl, hq⟩ := ih (fun i hi => h i (by omega))
    obtain ⟨x, hx⟩ := h n (by omega)
    refine ⟨l ++ [x], by simp [hl], fun i hi => ?_⟩
    by_cases hin : i < l.length
    · rw [List.getElem_append_left hin]
      exact hq i hin
    · have : i = n := by simp at hi; omega
      subst this
      rw [List.getElem_append_right (by omega)]
      simpa [hl] using hx
theorem prV_get {l : Kv} (h : okPs l) : ∀ (j : Nat) (v : Value), (prV l)[j]? = some v → ∃ (k : Nat) (hk : k < l.length) (i : Nat), j = k * 20 + i ∧ (prv l[k])[i]? = some v := by
  induction l with
  | nil => intro j v hv; cases hv
  | cons p r ih =>
    intro j v hv
    have hp := prv_len (h p (by simp))
    have hv' : (prv p ++ prV r)[j]? = some v := hv
    by_cases hj : j < 20
    · rw [List.getElem?_append_left (by omega)] at hv'
      exact ⟨0, by simp, j, by omega, hv'⟩
    · rw [List.getElem?_append_right (by omega), hp] at hv'
      obtain ⟨k, hk, i, e, hi⟩ := ih (fun q hq => h q (by simp [hq])) (j - 20) v hv'
      exact ⟨k + 1, by simpa using hk, i, by omega, by simpa using hi⟩
set_option maxRecDepth 100000 in
/-- A slice of pairs. -/
theorem pairs_of {W : World} {v : Value} {d : DataW H} {ps : List MemPlace} (h : DataW.Trod enc Tryd.prog W 0 (fun _ => true) true 40 v d ps) (hv : Value.okWide Tryd.prog W .any base 40 v) : ∃ l, Rs W v l ∧ okPs l := by
  obtain ⟨fuel, h⟩ := h
  obtain ⟨a0, n0, c0, hv0⟩ := okWide_slice Tryd.underlying40 hv
  rw [show v.cells.toList = [v] by rw [hv0]; rfl] at h
  clear hv0 hv
  rcases open_slice Tryd.underlying40 h with ⟨hc, hx⟩ | ⟨a, len, cap, m, n', Dd, Pl, hc, _, hl, hm, hmm, hx, hall⟩
  · exact ⟨[], .inl ⟨by simpa using hc, rfl⟩, okPs_nil⟩
  · obtain rfl : v = .slice (some a) len cap := by simpa using hc
    simp only [if_true] at hmm
    obtain rfl := hmm.symm
    rw [Tryd.cPair] at hall
    have each : ∀ i, i < len → ∃ p : List UInt8 × List UInt8, okPr p ∧ ∀ j u, (prv p)[j]? = some u → W.cell? (a.add (i * 20 + j)) = some u := by
      intro i hi
      obtain ⟨cs', hcs, ht⟩ := hall i (by omega)
      obtain ⟨hlen, _, hat⟩ := World.cells?_some hcs
      obtain ⟨p, rfl, hk⟩ := pair_of ht (by omega)
      refine ⟨p, hk, fun j u hu => ?_⟩
      have hj : j < (prv p).length := (List.getElem?_eq_some_iff.1 hu).1
      have := hat j (by omega)
      rw [Go.Deep.add_add] at this
      rw [this]
      simpa using hu
    obtain ⟨l, hll, hq⟩ := choose_list each
    have hok : okPs l := fun p hp => by
      obtain ⟨i, hi, rfl⟩ := List.mem_iff_getElem.1 hp
      exact (hq i hi).1
    refine ⟨l, .inr ⟨a, cap, by rw [hll], by omega, ?_⟩, hok⟩
    by_cases h0 : l = []
    · exact .inl h0
    · right
      have hpos : 0 < l.length := List.length_pos_iff.2 h0
      have hc0 : ∃ u, W.cell? (a.add (0 * 20 + 0)) = some u := by
        have hk := (hq 0 hpos).1
        have hlt : 0 < (prv l[0]).length := by rw [prv_len hk]; omega
        exact ⟨(prv l[0])[0], (hq 0 hpos).2 0 _ (by rw [List.getElem?_eq_getElem hlt])⟩
      obtain ⟨u0, hu0⟩ := hc0
      obtain ⟨ab, o, spot⟩ := a
      have hspot : spot = none := by simpa [Addr.add] using World.cell?_spot hu0
      subst hspot
      rw [add_plain] at hu0
      refine ⟨ab, o, rfl, World.block_lt_of_cell? W _ hu0, fun j v hj => ?_⟩
      obtain ⟨k, hk, i, rfl, hi⟩ := prV_get hok j v hj
      have := (hq k hk).2 i v hi
      rwa [add_plain] at this
/-- An act as cells; a slice that reads as these acts. -/
abbrev Acts := List (Int × (List UInt8 × List UInt8))
def As (w : World) (v : Value) (l : Acts) : Prop := ∃ ao cap, v = .slice ao l.length cap ∧ l.length ≤ cap ∧ ∀ k (h : k < l.length), okPr l[k].2 ∧ ∃ b o, ao = some ⟨b, o, none⟩ ∧ b < w.heap.size ∧ w.cell? ⟨b, o + k * 21, none⟩ = some (.int .i64 l[k].1) ∧ w.rangeAt b (o + k * 21 + 1) (prv l[k].2)
theorem As.below {w w' : World} {v : Value} {l : Acts} (h : As w v l) (hb : Below w.heap.size w w') : As w' v l := by
  obtain ⟨ao, cap, rfl, h1, h2⟩ := h
  refine ⟨ao, cap, rfl, h1, fun k hk => ?_⟩
  obtain ⟨h3, b, o, e, h4, h5, h6⟩ := h2 k hk
  exact ⟨h3, b, o, e, Nat.lt_of_lt_of_le h4 hb.size, (hb.cell (show (⟨b, o + k * 21, none⟩ : Addr).block < w.heap.size from h4)).trans h5, range_below h6 h4 hb⟩
set_option maxRecDepth 100000 in
theorem acts_of {W : World} {v : Value} {d : DataW H} {ps : List MemPlace} (h : DataW.Trod enc Tryd.prog W 0 (fun _ => true) true 46 v d ps) (hv : Value.okWide Tryd.prog W .any base 46 v) : ∃ l, As W v l := by
  obtain ⟨fuel, h⟩ := h
  obtain ⟨a0, n0, c0, hv0⟩ := okWide_slice Tryd.underlying46 hv
  rw [show v.cells.toList = [v] by rw [hv0]; rfl] at h
  clear hv0 hv
  rcases open_slice Tryd.underlying46 h with ⟨hc, hx⟩ | ⟨a, len, cap, m, n', Dd, Pl, hc, _, hl, hm, hmm, hx, hall⟩
  · exact ⟨[], none, 0, by simpa using hc, Nat.le_refl _, fun k hk => by cases hk⟩
  · obtain rfl : v = .slice (some a) len cap := by simpa using hc
    simp only [if_true] at hmm
    obtain rfl := hmm.symm
    rw [Tryd.cAct] at hall
    have each : ∀ i, i < len → ∃ x : Int × (List UInt8 × List UInt8), okPr x.2 ∧ W.cell? (a.add (i * 21)) = some (.int .i64 x.1) ∧ ∀ j u, (prv x.2)[j]? = some u → W.cell? (a.add (i * 21 + (1 + j))) = some u := by
      intro i hi
      obtain ⟨cs', hcs, ht⟩ := hall i (by omega)
      obtain ⟨hlen, _, hat⟩ := World.cells?_some hcs
      obtain ⟨xs, n, _, _, _, hxl, hg⟩ := DataW.trod_struct Tryd.underlying50 ht
      have hlen' : xs.length = 2 := hxl
      have f0 : DataW.trod enc Tryd.prog W 0 (fun _ => true) true n 3 ((cs'.drop 0).take (Tryd.prog.cellsOf 3)) = xs[0]? := hg 0 _ rfl
      have f1 : DataW.trod enc Tryd.prog W 0 (fun _ => true) true n 38 ((cs'.drop 1).take (Tryd.prog.cellsOf 38)) = xs[1]? := hg 1 _ rfl
      rw [Tryd.cInt, List.drop_zero] at f0
      rw [Tryd.cPair] at f1
      obtain ⟨y0, g0⟩ := some_ofc f0 (by omega)
      obtain ⟨y1, g1⟩ := some_ofc f1 (by omega)
      obtain ⟨p, hp, hk⟩ := pair_of g1 (by rw [List.length_take, List.length_drop]; omega)
      obtain ⟨k, e, _⟩ := DataW.trod_int Tryd.underlying3 g0
      have hp' : cs'.drop 1 = prv p := by rw [← hp, List.take_of_length_le (by rw [List.length_drop]; omega)]
      match cs', hlen, e, hp', hat with
      | c :: r, hlen, e, hp', hat =>
        obtain rfl : c = .int .i64 k := by simpa using e
        have hr : r = prv p := hp'
        subst hr
        refine ⟨(k, p), hk, ?_, fun j u hu => ?_⟩
        · have := hat 0 (by simp)
          rw [Go.Deep.add_add] at this
          simpa using this
        · have hj : j < (prv p).length := (List.getElem?_eq_some_iff.1 hu).1
          have := hat (1 + j) (by rw [prv_len hk] at hj; omega)
          rw [Go.Deep.add_add] at this
          rw [this, Nat.add_comm 1 j]
          simpa using hu
    obtain ⟨l, hll, hq⟩ := choose_list each
    refine ⟨l, some a, cap, by rw [hll], by omega, fun k hk => ⟨(hq k hk).1, ?_⟩⟩
    have hpos : 0 < l.length := by omega
    obtain ⟨ab, o, spot⟩ := a
    have h1 := (hq k hk).2.1
    have hspot : spot = none := by simpa [Addr.add] using World.cell?_spot (hq 0 hpos).2.1
    subst hspot
    rw [add_plain] at h1
    refine ⟨ab, o, rfl, World.block_lt_of_cell? W _ h1, h1, fun j u hj => ?_⟩
    have := (hq k hk).2.2 j u hj
    rw [add_plain] at this
    rwa [show o + k * 21 + 1 + j = o + (k * 21 + (1 + j)) by omega]
end
end Go.Proofs.YtchdagdmbjpmcaaDoor
