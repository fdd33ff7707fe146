/-
  Proved here: what the program's keep leaves.
  Conditions: a table's block; a slice of one's own with pairs that a table may have.
  Proved here: plain facts on what Add answers and leaves; a slice of one pair, a slice of two slices.
  Conditions: none.
  Proved here: what the program's Add answers and leaves.
  Conditions: a table that stands for pairs; a pair of addresses of their lengths; the program's lists of martian addresses stand.
  Proved here: plain facts on what Drop leaves; parts of a slice.
  Conditions: none.
  Proved here: what the program's Drop answers and leaves.
  Conditions: a table that stands for pairs; an address of 4 bytes.
-/
import Derived.Test.YtchdagdmbjpmcaaDoorEa
namespace Go.Proofs.YtchdagdmbjpmcaaDoor
open Go.RowKit
open Go.ChangeMaps (setBlock)


section
variable {w w' : World} {b : Nat}
theorem grown_cell (h : w.grownBy w' (some b)) (i : Nat) (v : Value) : w.grownBy (w'.setCell ⟨b, i, none⟩ v) (some b) :=
  ⟨h.os, h.tape, h.output, by simpa [World.setCell] using h.size, fun k hk hne => (Below.heap_setCell _ _ _ _ (fun e => hne (by rw [e]))).trans (h.block k hk hne)⟩
theorem grown_drew {row : Option Nat} (h : w.grownBy w' row) : w.grownBy w'.drew row := ⟨h.os, h.tape, h.output, h.size, h.block⟩
theorem grown_alloc {row : Option Nat} (h : w.grownBy w' row) (o : Obj) : w.grownBy (w'.alloc o) row := h.trans (World.grownBy_alloc _ _ _)
theorem grown_sets {row : Option Nat} (h : w.grownBy w' row) {g : Nat} (hg : w.heap.size ≤ g) (o : Nat) (vs : List Value) : w.grownBy (w'.setCells g o vs) row := by
  refine ⟨?_, ?_, ?_, by rw [size_sets]; exact h.size, fun k hk hne => (heap_sets vs (by omega) o _).trans (h.block k hk hne)⟩
  all_goals
    have hb := below_sets (B := 0) (w := w') vs (Nat.zero_le g) o w' (Below.refl _ _)
  · exact hb.os.trans h.os
  · exact hb.tape.trans h.tape
  · exact hb.output.trans h.output
theorem grown_block {row : Option Nat} (h : w.grownBy w' row) {r : Nat} (hr : w.heap.size ≤ r) (o : Obj) : w.grownBy (setBlock w' r o) row :=
  ⟨h.os, h.tape, h.output, by simpa [setBlock] using h.size, fun k hk hne => by
    have : (setBlock w' r o).heap[k]? = w'.heap[k]? := by
      unfold setBlock
      exact Array.getElem?_setIfInBounds_ne (by omega)
    exact this.trans (h.block k hk hne)⟩
theorem block_other {r k : Nat} (h : k ≠ r) (o : Obj) : (setBlock w r o).heap[k]? = w.heap[k]? := by
  unfold setBlock
  exact Array.getElem?_setIfInBounds_ne (fun e => h e.symm)
theorem block_same {r : Nat} {o o' : Obj} (h : w.heap[r]? = some o') : (setBlock w r o).heap[r]? = some o := by
  unfold setBlock
  exact Array.getElem?_setIfInBounds_self_of_lt (Array.getElem?_eq_some_iff.1 h).1
end
theorem bk_sb {w : World} {b r : Nat} {T : TypeId} {A : Array Value} (h : Bk w b T A) (hne : b ≠ r) (o : Obj) : Bk (setBlock w.drew r o) b T A := (block_other (w := w.drew) hne o).trans h
theorem lk_none {l : Kv} {k : List UInt8} : lk l k = none ↔ ∀ x ∈ l, x.1 ≠ k := by
  induction l with
  | nil => simp [lk]
  | cons x r ih =>
    unfold lk
    split
    · rename_i h
      simp [h]
    · rename_i h
      rw [ih]
      simp [h]
theorem ds_none {l : Kv} (h : Ds l) (k : Nat) (hk : k < l.length) : lk (l.take k) l[k].1 = none ∧ lk (sw (l.take k)) l[k].2 = none := by
  have hp := List.pairwise_iff_getElem.1 h
  have key : ∀ x ∈ l.take k, x.1 ≠ l[k].1 ∧ x.2 ≠ l[k].2 := by
    intro x hx
    obtain ⟨i, hi, rfl⟩ := List.mem_iff_getElem.1 hx
    have hi2 : i < k := by rw [List.length_take] at hi; omega
    have := hp i k (by omega) hk hi2
    rw [List.getElem_take]
    exact this
  refine ⟨lk_none.2 fun x hx => (key x hx).1, lk_none.2 fun x hx => ?_⟩
  obtain ⟨p, hp, rfl⟩ := List.mem_map.1 hx
  exact (key p hp).2
theorem take_snoc' {l : Kv} (k : Nat) (h : k < l.length) : l.take (k + 1) = l.take k ++ [l[k]] := List.take_succ_eq_append_getElem h
/-- A table's block, while its maps are filled. -/
def KS (w wr : World) (b : Nat) (v : Value) (l : Kv) (k : Nat) : Prop :=
  Bk wr b 62 #[v, .map (some w.heap.size), .map (some (w.heap.size + 1))] ∧ wr.heap[w.heap.size]? = some (.map (ents 0 (sw (l.take k))).toArray k) ∧ wr.heap[w.heap.size + 1]? = some (.map (ents 0 (l.take k)).toArray k) ∧ w.grownBy wr (some b)
theorem KS.drew {w wr : World} {b : Nat} {v : Value} {l : Kv} {k : Nat} (h : KS w wr b v l k) : KS w wr.drew b v l k := ⟨h.1, h.2.1, h.2.2.1, grown_drew h.2.2.2⟩
theorem KS.put {w wr : World} {b : Nat} {v : Value} {l : Kv} {k : Nat} (h : KS w wr b v l k) (Z : Array Value) (T : TypeId) (V : List Value) : KS w ((wr.alloc (.cells Z T)).setCells wr.heap.size 0 V) b v l k := by
  obtain ⟨h1, h2, h3, h4⟩ := h
  have n1 : w.heap.size < wr.heap.size := (Array.getElem?_eq_some_iff.1 h2).1
  have n2 : w.heap.size + 1 < wr.heap.size := (Array.getElem?_eq_some_iff.1 h3).1
  refine ⟨(h1.alloc _).sets_other (Nat.ne_of_lt h1.lt) 0 V, ?_, ?_, grown_sets (grown_alloc h4 _) (by omega) 0 V⟩
  · rw [heap_sets V (by omega), Below.heap_alloc _ _ _ n1]; exact h2
  · rw [heap_sets V (by omega), Below.heap_alloc _ _ _ n2]; exact h3
theorem KS.store4 {w w5 : World} {b : Nat} {v : Value} {l : Kv} {k : Nat} (h : KS w w5 b v l k) (hn : Nl l) (hk : k < l.length) :
    (Instr.mapUpdate 59 (.map (some w.heap.size)) (.agg (bu l[k].2).toArray) (.agg (bu l[k].1).toArray)).run Tryd.prog w5.drew = .ok () (setBlock w5.drew w.heap.size (.map (ents 0 (sw (l.take (k + 1)))).toArray (k + 1))) := by
  have hl : (sw (l.take k)).length = k := by rw [sw_len, List.length_take, Nat.min_eq_left (by omega)]
  have := mp_store 59 23 36 16 Tryd.underlying59 Tryd.underlying23 w5.drew w.heap.size (sw (l.take k)) (by rw [hl]; exact h.2.1) (fun x hx => sw_keys (okPs_take hn.ok k) x hx) l[k].2 l[k].1 (okPs_at hn.ok k hk).2 (ds_none hn.ds k hk).2
  rw [List.length_append, hl] at this
  rw [take_snoc' k hk, sw_app]
  exact this
theorem KS.step {w w5 : World} {b : Nat} {v : Value} {l : Kv} {k : Nat} (h : KS w w5 b v l k) (hb : b < w.heap.size) (hn : Nl l) (hk : k < l.length) :
    (Instr.mapUpdate 60 (.map (some (w.heap.size + 1))) (.agg (bu l[k].1).toArray) (.agg (bu l[k].2).toArray)).run Tryd.prog (setBlock w5.drew w.heap.size (.map (ents 0 (sw (l.take (k + 1)))).toArray (k + 1))).drew = .ok () (setBlock (setBlock w5.drew w.heap.size (.map (ents 0 (sw (l.take (k + 1)))).toArray (k + 1))).drew (w.heap.size + 1) (.map (ents 0 (l.take (k + 1))).toArray (k + 1))) ∧ KS w (setBlock (setBlock w5.drew w.heap.size (.map (ents 0 (sw (l.take (k + 1)))).toArray (k + 1))).drew (w.heap.size + 1) (.map (ents 0 (l.take (k + 1))).toArray (k + 1))) b v l (k + 1) := by
  obtain ⟨h1, h2, h3, h4⟩ := h
  have hl : (l.take k).length = k := by rw [List.length_take, Nat.min_eq_left (by omega)]
  have e3 : (setBlock w5.drew w.heap.size (.map (ents 0 (sw (l.take (k + 1)))).toArray (k + 1))).heap[w.heap.size + 1]? = some (.map (ents 0 (l.take k)).toArray k) := by
    rw [block_other (by omega)]
    exact h3
  refine ⟨?_, ?_, ?_, ?_, grown_block (grown_drew (grown_block (grown_drew h4) (Nat.le_refl _) _)) (by omega) _⟩
  · have := mp_store 60 36 23 4 Tryd.underlying60 Tryd.underlying36 (setBlock w5.drew w.heap.size (.map (ents 0 (sw (l.take (k + 1)))).toArray (k + 1))).drew (w.heap.size + 1) (l.take k) (by rw [hl]; exact e3) (fun x hx => (okPs_take hn.ok k x hx).1) l[k].1 l[k].2 (okPs_at hn.ok k hk).1 (ds_none hn.ds k hk).1
    rw [List.length_append, hl] at this
    rw [take_snoc' k hk]
    rw [take_snoc' k hk] at this
    exact this
  · show (setBlock _ _ _).heap[b]? = _
    rw [block_other (by omega)]
    show (setBlock _ _ _).heap[b]? = _
    rw [block_other (by omega)]
    exact h1
  · rw [block_other (by omega)]
    exact block_same (w := w5.drew) h2
  · exact block_same (w := (setBlock w5.drew w.heap.size (.map (ents 0 (sw (l.take (k + 1)))).toArray (k + 1))).drew) e3
set_option maxRecDepth 100000 in
set_option maxHeartbeats 8000000 in
theorem keep_any (b : Nat) (A : Array Value) (v : Value) (l : Kv) (w : World) (hB : Bk w b 62 A) (hA : A.size = 3) (hv : w.ownsRow 0 38 20 v l.length (prV l)) (hn : Nl l) :
    Calls Tryd.prog 40 #[.pointer (some ⟨b, 0, none⟩), v] w fun e w' => e = .returned (.tuple #[]) ∧ Tb w' b l ∧ w.grownBy w' (some b) := by
  have hm4 : ∀ W n, (Instr.makeMap 59 (some (.int .i64 n))).run Tryd.prog W = .ok (.map (some W.heap.size)) (W.alloc (.map #[] 0)) := by intro W n; kernel_rfl
  have hm6 : ∀ W n, (Instr.makeMap 60 (some (.int .i64 n))).run Tryd.prog W = .ok (.map (some W.heap.size)) (W.alloc (.map #[] 0)) := by intro W n; kernel_rfl
  have HN := Lib.hid hn
  have HBL := Lib.hid hB.lt
  have HV := Lib.hid hv
  have HVB := Lib.hid hB
  have hlen := hn.len
  obtain ⟨ao, cap, rfl, _⟩ := own_shape hv
  obtain ⟨a0, a1, a2, rfl⟩ : ∃ a0 a1 a2, A = #[a0, a1, a2] := by
    match A, hA with
    | ⟨[x, y, z]⟩, _ => exact ⟨x, y, z, rfl⟩
  have c0 := hB.c 0 _ rfl
  have z0 := hB.z 0
  have HK1 : Hid (Bk (w.setCell ⟨b, 0, none⟩ (.slice ao l.length cap)) b 62 #[.slice ao l.length cap, a1, a2] ∧ w.grownBy (w.setCell ⟨b, 0, none⟩ (.slice ao l.length cap)) (some b)) := Lib.hid ⟨hB.set 0 _, grown_cell (World.grownBy.refl _ _) 0 _⟩
  have HE1 : Hid ((w.setCell ⟨b, 0, none⟩ (.slice ao l.length cap)).heap.size = w.heap.size) := Lib.hid (by simp [World.setCell])
  clear hv hn hB hA
  go_enter Tryd.func40, Tryd.ntmps40
  go_upto_region 1 with (fail)
  generalize w.setCell ⟨b, 0, none⟩ (.slice ao l.length cap) = w1 at *
  have HM1 := Lib.hid (heap_alloc_new w1 (.map #[] 0))
  have hB1 := HK1.out.1.alloc (.map #[] 0)
  have c1 := hB1.c 1 _ rfl
  have z1 := hB1.z 1
  have HK2 : Hid (Bk ((w1.alloc (.map #[] 0)).setCell ⟨b, 1, none⟩ (.map (some w1.heap.size))) b 62 #[.slice ao l.length cap, .map (some w1.heap.size), a2] ∧ ((w1.alloc (.map #[] 0)).setCell ⟨b, 1, none⟩ (.map (some w1.heap.size))).heap[w1.heap.size]? = some (.map #[] 0) ∧ w.grownBy ((w1.alloc (.map #[] 0)).setCell ⟨b, 1, none⟩ (.map (some w1.heap.size))) (some b)) := Lib.hid ⟨hB1.set 1 _, (Below.heap_setCell _ _ _ _ (by have := HK1.out.1.lt; show w1.heap.size ≠ b; omega)).trans HM1.out, grown_cell (grown_alloc HK1.out.2 _) 1 _⟩
  have HE2 : Hid (((w1.alloc (.map #[] 0)).setCell ⟨b, 1, none⟩ (.map (some w1.heap.size))).heap.size = w1.heap.size + 1) := Lib.hid (by simp [World.setCell])
  clear hB1 c0 z0 HK1 HM1
  go_upto_region 2 with (fail)
  clear c1 z1
  generalize (w1.alloc (.map #[] 0)).setCell ⟨b, 1, none⟩ (.map (some w1.heap.size)) = w2 at *
  have HM2 := Lib.hid (heap_alloc_new w2 (.map #[] 0))
  have hB2 := HK2.out.1.alloc (.map #[] 0)
  have c2 := hB2.c 2 _ rfl
  have z2 := hB2.z 2
  have HK3 : Hid (Bk ((w2.alloc (.map #[] 0)).setCell ⟨b, 2, none⟩ (.map (some w2.heap.size))) b 62 #[.slice ao l.length cap, .map (some w1.heap.size), .map (some w2.heap.size)] ∧ ((w2.alloc (.map #[] 0)).setCell ⟨b, 2, none⟩ (.map (some w2.heap.size))).heap[w1.heap.size]? = some (.map #[] 0) ∧ ((w2.alloc (.map #[] 0)).setCell ⟨b, 2, none⟩ (.map (some w2.heap.size))).heap[w2.heap.size]? = some (.map #[] 0) ∧ w.grownBy ((w2.alloc (.map #[] 0)).setCell ⟨b, 2, none⟩ (.map (some w2.heap.size))) (some b)) := Lib.hid ⟨hB2.set 2 _, ((Below.heap_setCell _ _ _ _ (by have := HBL.out; have := HE1.out; show w1.heap.size ≠ b; omega)).trans (Below.heap_alloc _ _ _ (by rw [HE2.out]; omega))).trans HK2.out.2.1, (Below.heap_setCell _ _ _ _ (by have := HK2.out.1.lt; show w2.heap.size ≠ b; omega)).trans HM2.out, grown_cell (grown_alloc HK2.out.2.2 _) 2 _⟩
  clear hB2 HK2 HM2
  go_upto_region 3 with (fail)
  clear c2 z2
  generalize (w2.alloc (.map #[] 0)).setCell ⟨b, 2, none⟩ (.map (some w2.heap.size)) = w3 at *
  have HK : Hid (KS w w3 b (.slice ao l.length cap) l 0) := Lib.hid (by
    have h := HK3.out
    rw [HE2.out, HE1.out] at h
    exact h)
  clear HK3 HE1 HE2
  go_wp2_with fail
  go_loopw [24] (fun i wr => ∃ k : Nat, k ≤ l.length ∧ i = .int .i64 k ∧ KS w wr b (.slice ao l.length cap) l k) (fun i _ => l.length - (intOf i).toNat)
  case atStart => exact ⟨0, Nat.zero_le _, rfl, HK.out⟩
  case round =>
    obtain ⟨k, hk, rfl, hks⟩ := hrel
    have HKk := Lib.hid hks
    clear hks HK
    by_cases hlt : k < l.length
    · obtain ⟨_, _, hsh, _, hS⟩ := (own_rs (ow_other HV.out HVB.out HKk.out.2.2.2)).shape
      obtain ⟨b2, o2, e2, hbl, hr⟩ := hS k hlt
      obtain rfl : ao = some ⟨b2, o2, none⟩ := by
        cases hsh
        exact e2
      have hq1 := range_el hr HN.out.ok k hlt
      have HOk := Lib.hid (okPs_at HN.out.ok k hlt)
      have HI_VF : Hid ((Tryd.prog.info? 36).map (·.size) = some (bu l[k].1).length) := Lib.hid (Tryd.infoU4 _ (HOk.out.1))
      have HO_VF : Hid ((bu l[k].1).toArray.all (·.oneCell') = true) := Lib.hid (bu_one _)
      have HL_VF : Hid ((bu l[k].1).length = 4) := Lib.hid (by rw [bu_len]; exact HOk.out.1)
      have HI_VX : Hid ((Tryd.prog.info? 23).map (·.size) = some (bu l[k].2).length) := Lib.hid (Tryd.infoU6 _ (HOk.out.2))
      have HO_VX : Hid ((bu l[k].2).toArray.all (·.oneCell') = true) := Lib.hid (bu_one _)
      have HL_VX : Hid ((bu l[k].2).length = 16) := Lib.hid (by rw [bu_len]; exact HOk.out.2)
      have HI_PV : Hid ((Tryd.prog.info? 38).map (·.size) = some (prv l[k]).length) := Lib.hid (Tryd.infoP _ (HOk.out))
      have HO_PV : Hid ((prv l[k]).toArray.all (·.oneCell') = true) := Lib.hid (prv_ones _)
      have HL_PV : Hid ((prv l[k]).length = 20) := Lib.hid (prv_len (HOk.out))
      have HSt4 := Lib.hid (fun w5 (h : KS w w5 b (.slice (some ⟨b2, o2, none⟩) l.length cap) l k) => KS.store4 h HN.out hlt)
      have HSt6 := Lib.hid (fun w5 (h : KS w w5 b (.slice (some ⟨b2, o2, none⟩) l.length cap) l k) => KS.step h HBL.out HN.out hlt)
      have HXr : Hid (∀ W g, Bk W g 38 (prv l[k]).toArray → W.rangeAt g (0 + 4) (bu l[k].2)) := Lib.hid (fun W g h => range_x h.range HOk.out)
      have HFr : Hid (∀ W g, Bk W g 38 (prv l[k]).toArray → W.rangeAt g 0 (bu l[k].1)) := Lib.hid (fun W g h => range_f h.range)
      have hk2 : (k : Int) < (l.length : Int) := by omega
      clear hr hsh hS hbl HOk e2
      generalize bu l[k].1 = VF at *
      generalize bu l[k].2 = VX at *
      generalize prv l[k] = PV at *
      have ht := (bk_new wr 38 ([.int .u8 0, .int .u8 0, .int .u8 0, .int .u8 0, .int .u8 0, .int .u8 0, .int .u8 0, .int .u8 0, .int .u8 0, .int .u8 0, .int .u8 0, .int .u8 0, .int .u8 0, .int .u8 0, .int .u8 0, .int .u8 0, .int .u8 0, .int .u8 0, .int .u8 0, .int .u8 0] : List Value).toArray).there PV.toArray.size (by have := HL_PV.out; simp; omega)
      go_upto_region 6 with (first | (refine wpList_load_mid rfl 38 _ rfl b2 (o2 + k * 20) rfl PV _ hq1 Tryd.underlying38 rfl HI_PV.out ?_) | (refine wpList_store_mid rfl 38 _ _ rfl wr.heap.size 0 PV.toArray rfl rfl ht (by simpa using HI_PV.out) HO_PV.out ?_))
      have HK5 := Lib.hid (HKk.out.put ([.int .u8 0, .int .u8 0, .int .u8 0, .int .u8 0, .int .u8 0, .int .u8 0, .int .u8 0, .int .u8 0, .int .u8 0, .int .u8 0, .int .u8 0, .int .u8 0, .int .u8 0, .int .u8 0, .int .u8 0, .int .u8 0, .int .u8 0, .int .u8 0, .int .u8 0, .int .u8 0] : List Value).toArray 38 PV)
      have HB5 : Hid (Bk ((wr.alloc (.cells ([.int .u8 0, .int .u8 0, .int .u8 0, .int .u8 0, .int .u8 0, .int .u8 0, .int .u8 0, .int .u8 0, .int .u8 0, .int .u8 0, .int .u8 0, .int .u8 0, .int .u8 0, .int .u8 0, .int .u8 0, .int .u8 0, .int .u8 0, .int .u8 0, .int .u8 0, .int .u8 0] : List Value).toArray 38)).setCells wr.heap.size 0 PV) wr.heap.size 38 PV.toArray) := Lib.hid (by
        have hE := Bk.sets PV 0 _ _ (bk_new wr 38 ([.int .u8 0, .int .u8 0, .int .u8 0, .int .u8 0, .int .u8 0, .int .u8 0, .int .u8 0, .int .u8 0, .int .u8 0, .int .u8 0, .int .u8 0, .int .u8 0, .int .u8 0, .int .u8 0, .int .u8 0, .int .u8 0, .int .u8 0, .int .u8 0, .int .u8 0, .int .u8 0] : List Value).toArray)
        rw [puts_whole ([.int .u8 0, .int .u8 0, .int .u8 0, .int .u8 0, .int .u8 0, .int .u8 0, .int .u8 0, .int .u8 0, .int .u8 0, .int .u8 0, .int .u8 0, .int .u8 0, .int .u8 0, .int .u8 0, .int .u8 0, .int .u8 0, .int .u8 0, .int .u8 0, .int .u8 0, .int .u8 0] : List Value).toArray PV (by have := HL_PV.out; simp; omega)] at hE
        exact hE)
      have HNg := Lib.hid (Array.getElem?_eq_some_iff.1 HKk.out.2.2.1).1
      have HNb := Lib.hid HKk.out.1.lt
      clear ht hq1 HKk
      generalize (wr.alloc (.cells ([.int .u8 0, .int .u8 0, .int .u8 0, .int .u8 0, .int .u8 0, .int .u8 0, .int .u8 0, .int .u8 0, .int .u8 0, .int .u8 0, .int .u8 0, .int .u8 0, .int .u8 0, .int .u8 0, .int .u8 0, .int .u8 0, .int .u8 0, .int .u8 0, .int .u8 0, .int .u8 0] : List Value).toArray 38)).setCells wr.heap.size 0 PV = w5 at *
      have HG : Hid (w.heap.size + 1 < wr.heap.size ∧ b < wr.heap.size) := Lib.hid ⟨HNg.out, HNb.out⟩
      generalize wr.heap.size = g at *
      have hst := HSt4.out _ HK5.out
      have HT := Lib.hid (HSt6.out _ HK5.out)
      clear HSt4 HSt6
      generalize Obj.map (ents 0 (sw (l.take (k + 1)))).toArray (k + 1) = O4 at *
      generalize Obj.map (ents 0 (l.take (k + 1))).toArray (k + 1) = O6 at *
      have HB6 := Lib.hid (bk_sb HB5.out (r := w.heap.size) (by have := HG.out.1; omega) O4)
      have HC6 := Lib.hid (bk_sb HK5.out.1 (r := w.heap.size) (by have := HBL.out; omega) O4)
      have HB7 := Lib.hid (bk_sb HB6.out (r := w.heap.size + 1) (by have := HG.out.1; omega) O6)
      have HC7 := Lib.hid (bk_sb HC6.out (r := w.heap.size + 1) (by have := HBL.out; omega) O6)
      refine wp_region_noPanic ?_
      refine wp_region_held_drew (S := fun w' => Bk w' g 38 PV.toArray ∧ w'.cell? ⟨b, 1, none⟩ = some (.map (some w.heap.size))) (by kernel_rfl) (⟨HB5.out, HK5.out.1.c 1 _ rfl⟩) (fun hHeld => ?_)
      refine wpAnyH_take (i := 0) (oi := { dst := some 28, op := Op.move (Operand.tmp 0), type := 31, pos := "eam.go:73", after := #[], guard := none }) (v := ?_) rfl (by kernel_rfl) (by kernel_rfl) (by kernel_rfl) (fun _ _ _ h => h) (Or.inl ⟨by rfl, ?_⟩) (by assumption) ?_
      rotate_left
      · (intro ww hSw; (try dsimp only at hSw); go_simp; try with_reducible rfl)
      (try simp only [Act.put, List.setIfInBounds_toArray, List.set_cons_zero, List.set_cons_succ])
      refine wpAnyH_take (i := 1) (oi := { dst := some 29, op := Op.nilCheck (Operand.tmp 28), type := 0, pos := "eam.go:73", after := #[{ on := 0, ground := Ground.data }], guard := none }) (v := ?_) rfl (by kernel_rfl) (by kernel_rfl) (by kernel_rfl) (fun _ _ _ h => h) (Or.inl ⟨by rfl, ?_⟩) (by assumption) ?_
      rotate_left
      · (intro ww hSw; (try dsimp only at hSw); go_simp; try with_reducible rfl)
      (try simp only [Act.put, List.setIfInBounds_toArray, List.set_cons_zero, List.set_cons_succ])
      refine wpAnyH_take (i := 2) (oi := { dst := some 30, op := Op.fieldAddr 62 (Operand.tmp 29) 1, type := 0, pos := "eam.go:73", after := #[{ on := 1, ground := Ground.data }], guard := none }) (v := ?_) rfl (by kernel_rfl) (by kernel_rfl) (by kernel_rfl) (fun _ _ _ h => h) (Or.inl ⟨by rfl, ?_⟩) (by assumption) ?_
      rotate_left
      · (intro ww hSw; (try dsimp only at hSw); go_simp; try with_reducible rfl)
      (try simp only [Act.put, List.setIfInBounds_toArray, List.set_cons_zero, List.set_cons_succ])
      refine wpAnyH_take (i := 3) (oi := { dst := some 31, op := Op.load 59 (Operand.tmp 30), type := 59, pos := "eam.go:73", after := #[{ on := 2, ground := Ground.data }], guard := none }) (v := ?_) rfl (by kernel_rfl) (by kernel_rfl) (by kernel_rfl) (fun _ _ _ h => h) (Or.inl ⟨by rfl, ?_⟩) (by assumption) ?_
      rotate_left
      · (intro ww hSw; (try dsimp only at hSw); go_simp; try with_reducible rfl)
      (try simp only [Act.put, List.setIfInBounds_toArray, List.set_cons_zero, List.set_cons_succ])
      refine wpAnyH_take (i := 4) (oi := { dst := some 32, op := Op.fieldAddr 38 (Operand.tmp 5) 1, type := 0, pos := "eam.go:73", after := #[], guard := none }) (v := ?_) rfl (by kernel_rfl) (by kernel_rfl) (by kernel_rfl) (fun _ _ _ h => h) (Or.inl ⟨by rfl, ?_⟩) (by assumption) ?_
      rotate_left
      · (intro ww hSw; (try dsimp only at hSw); go_simp; try with_reducible rfl)
      (try simp only [Act.put, List.setIfInBounds_toArray, List.set_cons_zero, List.set_cons_succ])
      refine wpAnyH_take (i := 5) (oi := { dst := some 33, op := Op.load 23 (Operand.tmp 32), type := 23, pos := "eam.go:73", after := #[{ on := 4, ground := Ground.data }], guard := none }) (v := .agg (VX).toArray) rfl (by kernel_rfl) (by kernel_rfl) (by kernel_rfl) (fun _ _ _ h => h) (yieldsIf_load_mid (by rfl) _ _ rfl (g) (0 + 4) rfl (VX) _ (fun ww hSw => HXr.out _ _ hSw.1) Tryd.underlying23 rfl HI_VX.out) (by assumption) ?_
      (try simp only [Act.put, List.setIfInBounds_toArray, List.set_cons_zero, List.set_cons_succ])
      refine wpAnyH_take (i := 6) (oi := { dst := some 34, op := Op.fieldAddr 38 (Operand.tmp 5) 0, type := 0, pos := "eam.go:73", after := #[], guard := none }) (v := ?_) rfl (by kernel_rfl) (by kernel_rfl) (by kernel_rfl) (fun _ _ _ h => h) (Or.inl ⟨by rfl, ?_⟩) (by assumption) ?_
      rotate_left
      · (intro ww hSw; (try dsimp only at hSw); go_simp; try with_reducible rfl)
      (try simp only [Act.put, List.setIfInBounds_toArray, List.set_cons_zero, List.set_cons_succ])
      refine wpAnyH_take (i := 7) (oi := { dst := some 35, op := Op.load 36 (Operand.tmp 34), type := 36, pos := "eam.go:73", after := #[{ on := 6, ground := Ground.data }], guard := none }) (v := .agg (VF).toArray) rfl (by kernel_rfl) (by kernel_rfl) (by kernel_rfl) (fun _ _ _ h => h) (yieldsIf_load_mid (by rfl) _ _ rfl (g) 0 rfl (VF) _ (fun ww hSw => HFr.out _ _ hSw.1) Tryd.underlying36 rfl HI_VF.out) (by assumption) ?_
      (try simp only [Act.put, List.setIfInBounds_toArray, List.set_cons_zero, List.set_cons_succ])
      refine wpAnyH_ready (rs := [8]) (by kernel_rfl) (by simp) ?_
      refine AllReadyH.cons (o := { dst := none, op := Op.mapUpdate 59 (Operand.tmp 31) (Operand.tmp 33) (Operand.tmp 35), type := 0, pos := "eam.go:73", after := #[{ on := 3, ground := Ground.data }, { on := 5, ground := Ground.data }, { on := 7, ground := Ground.data }, { on := 0, ground := Ground.phase }, { on := 1, ground := Ground.phase }, { on := 2, ground := Ground.phase }, { on := 3, ground := Ground.phase }, { on := 4, ground := Ground.phase }, { on := 5, ground := Ground.phase }, { on := 6, ground := Ground.phase }, { on := 7, ground := Ground.phase }], guard := none }) rfl (fun K hK => ?_) AllReadyH.nil
      go_simp
      refine hK.out _ _ (⟨HB6.out, HC6.out.c 1 _ rfl⟩) (fun hHeld => ?_)
      clear hK K
      (try simp only [Act.put])
      refine wpAnyH_done (by kernel_rfl) ?_ _
      refine NoPanic.normal ?_
      clear hst hHeld
      have hst := HT.out.1
      go_upto_region 7 with (fail)
      refine wp_region_noPanic ?_
      refine wp_region_held_drew (S := fun w' => Bk w' g 38 PV.toArray ∧ w'.cell? ⟨b, 2, none⟩ = some (.map (some (w.heap.size + 1)))) (by kernel_rfl) (⟨HB6.out, HC6.out.c 2 _ rfl⟩) (fun hHeld => ?_)
      refine wpAnyH_take (i := 0) (oi := { dst := some 36, op := Op.move (Operand.tmp 0), type := 31, pos := "eam.go:74", after := #[], guard := none }) (v := ?_) rfl (by kernel_rfl) (by kernel_rfl) (by kernel_rfl) (fun _ _ _ h => h) (Or.inl ⟨by rfl, ?_⟩) (by assumption) ?_
      rotate_left
      · (intro ww hSw; (try dsimp only at hSw); go_simp; try with_reducible rfl)
      (try simp only [Act.put, List.setIfInBounds_toArray, List.set_cons_zero, List.set_cons_succ])
      refine wpAnyH_take (i := 1) (oi := { dst := some 37, op := Op.nilCheck (Operand.tmp 36), type := 0, pos := "eam.go:74", after := #[{ on := 0, ground := Ground.data }], guard := none }) (v := ?_) rfl (by kernel_rfl) (by kernel_rfl) (by kernel_rfl) (fun _ _ _ h => h) (Or.inl ⟨by rfl, ?_⟩) (by assumption) ?_
      rotate_left
      · (intro ww hSw; (try dsimp only at hSw); go_simp; try with_reducible rfl)
      (try simp only [Act.put, List.setIfInBounds_toArray, List.set_cons_zero, List.set_cons_succ])
      refine wpAnyH_take (i := 2) (oi := { dst := some 38, op := Op.fieldAddr 62 (Operand.tmp 37) 2, type := 0, pos := "eam.go:74", after := #[{ on := 1, ground := Ground.data }], guard := none }) (v := ?_) rfl (by kernel_rfl) (by kernel_rfl) (by kernel_rfl) (fun _ _ _ h => h) (Or.inl ⟨by rfl, ?_⟩) (by assumption) ?_
      rotate_left
      · (intro ww hSw; (try dsimp only at hSw); go_simp; try with_reducible rfl)
      (try simp only [Act.put, List.setIfInBounds_toArray, List.set_cons_zero, List.set_cons_succ])
      refine wpAnyH_take (i := 3) (oi := { dst := some 39, op := Op.load 60 (Operand.tmp 38), type := 60, pos := "eam.go:74", after := #[{ on := 2, ground := Ground.data }], guard := none }) (v := ?_) rfl (by kernel_rfl) (by kernel_rfl) (by kernel_rfl) (fun _ _ _ h => h) (Or.inl ⟨by rfl, ?_⟩) (by assumption) ?_
      rotate_left
      · (intro ww hSw; (try dsimp only at hSw); go_simp; try with_reducible rfl)
      (try simp only [Act.put, List.setIfInBounds_toArray, List.set_cons_zero, List.set_cons_succ])
      refine wpAnyH_take (i := 4) (oi := { dst := some 40, op := Op.fieldAddr 38 (Operand.tmp 5) 0, type := 0, pos := "eam.go:74", after := #[], guard := none }) (v := ?_) rfl (by kernel_rfl) (by kernel_rfl) (by kernel_rfl) (fun _ _ _ h => h) (Or.inl ⟨by rfl, ?_⟩) (by assumption) ?_
      rotate_left
      · (intro ww hSw; (try dsimp only at hSw); go_simp; try with_reducible rfl)
      (try simp only [Act.put, List.setIfInBounds_toArray, List.set_cons_zero, List.set_cons_succ])
      refine wpAnyH_take (i := 5) (oi := { dst := some 41, op := Op.load 36 (Operand.tmp 40), type := 36, pos := "eam.go:74", after := #[{ on := 4, ground := Ground.data }], guard := none }) (v := .agg (VF).toArray) rfl (by kernel_rfl) (by kernel_rfl) (by kernel_rfl) (fun _ _ _ h => h) (yieldsIf_load_mid (by rfl) _ _ rfl (g) 0 rfl (VF) _ (fun ww hSw => HFr.out _ _ hSw.1) Tryd.underlying36 rfl HI_VF.out) (by assumption) ?_
      (try simp only [Act.put, List.setIfInBounds_toArray, List.set_cons_zero, List.set_cons_succ])
      refine wpAnyH_take (i := 6) (oi := { dst := some 42, op := Op.fieldAddr 38 (Operand.tmp 5) 1, type := 0, pos := "eam.go:74", after := #[], guard := none }) (v := ?_) rfl (by kernel_rfl) (by kernel_rfl) (by kernel_rfl) (fun _ _ _ h => h) (Or.inl ⟨by rfl, ?_⟩) (by assumption) ?_
      rotate_left
      · (intro ww hSw; (try dsimp only at hSw); go_simp; try with_reducible rfl)
      (try simp only [Act.put, List.setIfInBounds_toArray, List.set_cons_zero, List.set_cons_succ])
      refine wpAnyH_take (i := 7) (oi := { dst := some 43, op := Op.load 23 (Operand.tmp 42), type := 23, pos := "eam.go:74", after := #[{ on := 6, ground := Ground.data }], guard := none }) (v := .agg (VX).toArray) rfl (by kernel_rfl) (by kernel_rfl) (by kernel_rfl) (fun _ _ _ h => h) (yieldsIf_load_mid (by rfl) _ _ rfl (g) (0 + 4) rfl (VX) _ (fun ww hSw => HXr.out _ _ hSw.1) Tryd.underlying23 rfl HI_VX.out) (by assumption) ?_
      (try simp only [Act.put, List.setIfInBounds_toArray, List.set_cons_zero, List.set_cons_succ])
      refine wpAnyH_ready (rs := [8]) (by kernel_rfl) (by simp) ?_
      refine AllReadyH.cons (o := { dst := none, op := Op.mapUpdate 60 (Operand.tmp 39) (Operand.tmp 41) (Operand.tmp 43), type := 0, pos := "eam.go:74", after := #[{ on := 3, ground := Ground.data }, { on := 5, ground := Ground.data }, { on := 7, ground := Ground.data }, { on := 0, ground := Ground.phase }, { on := 1, ground := Ground.phase }, { on := 2, ground := Ground.phase }, { on := 3, ground := Ground.phase }, { on := 4, ground := Ground.phase }, { on := 5, ground := Ground.phase }, { on := 6, ground := Ground.phase }, { on := 7, ground := Ground.phase }], guard := none }) rfl (fun K hK => ?_) AllReadyH.nil
      go_simp
      refine hK.out _ _ (⟨HB7.out, HC7.out.c 2 _ rfl⟩) (fun hHeld => ?_)
      clear hK K
      (try simp only [Act.put])
      refine wpAnyH_done (by kernel_rfl) ?_ _
      refine NoPanic.normal ?_
      have HF := Lib.hid HT.out.2
      clear hst hHeld HT HB6 HC6 HB7 HC7 HB5 HK5
      go_wp2_with fail
      go_roundw
      case rel => exact ⟨k + 1, hlt, by go_num, HF.out⟩
      case measure => simp [intOf]; omega
    · obtain rfl : k = l.length := by omega
      have HE : Hid (Tb wr b l) := Lib.hid ⟨HN.out, _, _, _, HKk.out.1, ow_other HV.out HVB.out HKk.out.2.2.2, .inr ⟨_, rfl, by have := HKk.out.2.1; rw [List.take_length] at this; rw [sw_len]; exact this⟩, .inr ⟨_, rfl, by have := HKk.out.2.2.1; rw [List.take_length] at this; exact this⟩⟩
      go_wp2_with fail
      go_end0
      exact ⟨rfl, HE.out, HKk.out.2.2.2⟩

/-- May a pair not be in a table, whatever stands there? -/
def mart (p : List UInt8 × List UInt8) : Bool := mart4 p.1 || mart6 p.2
def shr (l : Kv) (p : List UInt8 × List UInt8) : Bool := sixI l p.1 || fourI l p.2
/-- What Add answers. -/
def addE (l : Kv) (p : List UInt8 × List UInt8) : Int := if mart p = true then 13 else if shr l p = true then 5 else if 16 ≤ l.length then 6 else 0
/-- What Add leaves. -/
def addL (l : Kv) (p : List UInt8 × List UInt8) : Kv := if addE l p = 0 then l ++ [p] else l
theorem lk_some {l : Kv} {k : List UInt8} : (lk l k).isSome = true ↔ ∃ x ∈ l, x.1 = k := by
  cases h : lk l k with
  | none =>
    have h2 := lk_none.1 h
    simp only [Option.isSome_none, Bool.false_eq_true, false_iff]
    rintro ⟨x, hx, he⟩
    exact h2 x hx he
  | some v =>
    simp only [Option.isSome_some, true_iff]
    refine Classical.byContradiction fun hn => ?_
    have : lk l k = none := lk_none.2 (fun x hx he => hn ⟨x, hx, he⟩)
    rw [h] at this
    cases this
theorem shr_no {l : Kv} {p : List UInt8 × List UInt8} (h : shr l p = false) : ∀ x ∈ l, x.1 ≠ p.1 ∧ x.2 ≠ p.2 := by
  unfold shr sixI fourI at h
  rw [Bool.or_eq_false_iff] at h
  have h1 : lk l p.1 = none := by simpa using h.1
  have h2 : lk (sw l) p.2 = none := by simpa using h.2
  intro x hx
  exact ⟨lk_none.1 h1 x hx, lk_none.1 h2 (x.2, x.1) (List.mem_map.2 ⟨x, hx, rfl⟩)⟩
theorem addE_zero {l : Kv} {p : List UInt8 × List UInt8} : addE l p = 0 ↔ mart p = false ∧ shr l p = false ∧ l.length < 16 := by
  unfold addE
  cases mart p <;> cases shr l p <;> by_cases h : 16 ≤ l.length <;> simp [h] <;> omega
theorem Nl.snoc {l : Kv} {p : List UInt8 × List UInt8} (h : Nl l) (hp : okPr p) (he : addE l p = 0) : Nl (l ++ [p]) := by
  obtain ⟨_, h2, h3⟩ := addE_zero.1 he
  refine ⟨okPs_snoc h.ok hp, List.pairwise_append.2 ⟨h.ds, by simp, fun x hx y hy => ?_⟩, by rw [List.length_append]; show l.length + 1 ≤ 16; omega⟩
  rw [List.mem_singleton.1 hy]
  exact shr_no h2 x hx
theorem Nl.add {l : Kv} {p : List UInt8 × List UInt8} (h : Nl l) (hp : okPr p) : Nl (addL l p) := by
  unfold addL
  split
  · exact h.snoc hp (by assumption)
  · exact h
theorem Nl.nil : Nl [] := ⟨okPs_nil, List.Pairwise.nil, Nat.zero_le _⟩
theorem run_execS {P : Program} {op : Oper} {a : Act} {w w' : World} {v : Value} {T : TypeId} {n : Nat} {l : Array (Nat × Operand)} {m : Array (Nat × Value)} (ho : op.op = .buildSlice T n l) (hm : l.map (fun p => (p.1, a.eval p.2)) = m) (h : (Instr.buildSlice T n m).run P w = .ok v w') : (execOp a.eval op).run P w = .ok (.value v) w' := by
  unfold execOp
  simp only [ho, Sem.run_bind]
  rw [← hm] at h
  have e : (l.map fun x => match x with | (i, x) => (i, a.eval x)) = l.map (fun p => (p.1, a.eval p.2)) := rfl
  rw [e, h]
  rfl
/-- A slice literal, by its run. -/
theorem wp_bslice {P : Program} {o : Oper} {a : Act} {w w' : World} {K : Act → World → Prop} {Q : Exit → Act → World → Prop} {v : Value} {T : TypeId} {n : Nat} {l : Array (Nat × Operand)} {m : Array (Nat × Value)} (ho : o.op = .buildSlice T n l) (hm : l.map (fun p => (p.1, a.eval p.2)) = m) (h : (Instr.buildSlice T n m).run P w = .ok v w') (hk : K (a.put o.dst v) w') : o.wp P a w K Q := by
  unfold Oper.wp
  rw [run_execS ho hm h]
  exact hk
theorem wpList_bslice {P : Program} {ops : Array Oper} {rest : List Oper} {o : Oper} {a : Act} {w w' : World} {Q : Exit → Act → World → Prop} {v : Value} {T : TypeId} {n : Nat} {l : Array (Nat × Operand)} {m : Array (Nat × Value)} (hg : o.guard = none) (ho : o.op = .buildSlice T n l) (hm : l.map (fun p => (p.1, a.eval p.2)) = m) (h : (Instr.buildSlice T n m).run P w = .ok v w') (hk : wpList P ops Q rest (a.put o.dst v) w') : wpList P ops Q (o :: rest) a w :=
  wpList_plain hg fun _ hK => wp_bslice ho hm h (hK _ _ hk)
theorem Tryd.bs20 (a0 a1 a2 a3 a4 a5 a6 a7 a8 a9 a10 a11 a12 a13 a14 a15 a16 a17 a18 a19 : Int) (W : World) : (Instr.buildSlice 40 1 #[(0, .agg #[.int .u8 a0, .int .u8 a1, .int .u8 a2, .int .u8 a3, .int .u8 a4, .int .u8 a5, .int .u8 a6, .int .u8 a7, .int .u8 a8, .int .u8 a9, .int .u8 a10, .int .u8 a11, .int .u8 a12, .int .u8 a13, .int .u8 a14, .int .u8 a15, .int .u8 a16, .int .u8 a17, .int .u8 a18, .int .u8 a19])]).run Tryd.prog W = .ok (.slice (some ⟨W.heap.size, 0, none⟩) 1 1) (W.alloc (.cells #[.int .u8 a0, .int .u8 a1, .int .u8 a2, .int .u8 a3, .int .u8 a4, .int .u8 a5, .int .u8 a6, .int .u8 a7, .int .u8 a8, .int .u8 a9, .int .u8 a10, .int .u8 a11, .int .u8 a12, .int .u8 a13, .int .u8 a14, .int .u8 a15, .int .u8 a16, .int .u8 a17, .int .u8 a18, .int .u8 a19] 38)) := by kernel_rfl
theorem bslice_one (p : List UInt8 × List UInt8) (h : okPr p) (W : World) : (Instr.buildSlice 40 1 #[(0, .agg (prv p).toArray)]).run Tryd.prog W = .ok (.slice (some ⟨W.heap.size, 0, none⟩) 1 1) (W.alloc (.cells (prv p).toArray 38)) := by
  obtain ⟨x, y⟩ := p
  match x, y, h with
  | [b0, b1, b2, b3], [c0, c1, c2, c3, c4, c5, c6, c7, c8, c9, ca, cb, cc, cd, ce, cf], _ => exact Tryd.bs20 _ _ _ _ _ _ _ _ _ _ _ _ _ _ _ _ _ _ _ _ W
theorem Tryd.bsTwo (o0 o1 : Option Addr) (n0 n1 c0 c1 : Nat) (W : World) : (Instr.buildSlice 109 2 #[(0, .slice o0 n0 c0), (1, .slice o1 n1 c1)]).run Tryd.prog W = .ok (.slice (some ⟨W.heap.size, 0, none⟩) 2 2) (W.alloc (.cells #[.slice o0 n0 c0, .slice o1 n1 c1] 40)) := by kernel_rfl
/-- The program's lists of martian addresses stand. -/
def Hm (w : World) : Prop := w.rangeAt 0 0 (flatN mL4) ∧ w.rangeAt 1 0 (flatN mL6)
theorem Hm.below {w w' : World} (h : Hm w) (hb : Below w.heap.size w w') : Hm w' := ⟨rangeAt_below h.1 hb, rangeAt_below h.2 hb⟩
theorem Hm.under {w w' : World} {B : Nat} (h : Hm w) (hb : Below B w w') (hB : w.heap.size ≤ B) : Hm w' := h.below (hb.mono hB)
theorem below_grown {a w w' : World} {b : Nat} (h : Below a.heap.size a w) (g : w.grownBy w' (some b)) : a.grownBy w' (some b) :=
  ⟨g.os.trans h.os, g.tape.trans h.tape, g.output.trans h.output, Nat.le_trans h.size g.size, fun k hk hne => (g.block k (Nat.lt_of_lt_of_le hk h.size) hne).trans (h.block k hk)⟩
theorem below_row {w w' : World} (h : Below w.heap.size w w') (row : Option Nat) : w.grownBy w' row := ⟨h.os, h.tape, h.output, h.size, fun k hk _ => h.block k hk⟩
theorem ow_base {w : World} {base base' : Nat} {v : Value} {n : Nat} {xs : List Value} (h : w.ownsRow base 38 20 v n xs) (hb : base' ≤ base) : w.ownsRow base' 38 20 v n xs := by
  obtain ⟨h0, h | ⟨g, cap, cur, rfl, h1, h2⟩⟩ := h
  · exact ⟨h0, .inl h⟩
  · exact ⟨h0, .inr ⟨g, cap, cur, rfl, Nat.le_trans hb h1, h2⟩⟩

set_option maxRecDepth 100000 in
set_option maxHeartbeats 8000000 in
theorem add_any (b : Nat) (l : Kv) (p : List UInt8 × List UInt8) (w : World) (hT : Tb w b l) (hp : okPr p) (hm : Hm w) :
    Calls Tryd.prog 17 #[.pointer (some ⟨b, 0, none⟩), .agg (prv p).toArray] w fun e w' => e = .returned (.int .i64 (addE l p)) ∧ Tb w' b (addL l p) ∧ w.grownBy w' (some b) := by
  have HT := Lib.hid hT
  have HP := Lib.hid hp
  have HTB : Hid (∀ W, Below w.heap.size w W → Tb W b l) := Lib.hid (fun W hW => hT.below hW)
  have CM4 : Hid (∀ W, Below w.heap.size w W → Calls Tryd.prog 37 #[.agg (bu p.1).toArray] W fun e w' => e = .returned (.bool (mart4 p.1)) ∧ Below W.heap.size W w') := Lib.hid (fun W hW => mart4_any p.1 W hp.1 (hm.below hW).1)
  have CM6 : Hid (∀ W, Below w.heap.size w W → Calls Tryd.prog 38 #[.agg (bu p.2).toArray] W fun e w' => e = .returned (.bool (mart6 p.2)) ∧ Below W.heap.size W w') := Lib.hid (fun W hW => mart6_any p.2 W hp.2 (hm.below hW).2)
  have CS : Hid (∀ W, Below w.heap.size w W → Calls Tryd.prog 39 #[.pointer (some ⟨b, 0, none⟩), .agg (prv p).toArray] W fun e w' => e = .returned (.bool (shr l p)) ∧ Below W.heap.size W w') := Lib.hid (fun W hW => shares_any b l p W (hT.below hW) hp)
  have CL : Hid (∀ W, Below w.heap.size w W → Calls Tryd.prog 19 #[.pointer (some ⟨b, 0, none⟩)] W fun e w' => e = .returned (.int .i64 l.length) ∧ W = w') := Lib.hid (fun W hW => len_any b l W (hT.below hW))
  have hlen := hT.nl.len
  have HI_VF : Hid ((Tryd.prog.info? 36).map (·.size) = some (bu p.1).length) := Lib.hid (Tryd.infoU4 _ (hp.1))
  have HO_VF : Hid ((bu p.1).toArray.all (·.oneCell') = true) := Lib.hid (bu_one _)
  have HL_VF : Hid ((bu p.1).length = 4) := Lib.hid (by rw [bu_len]; exact hp.1)
  have HI_VX : Hid ((Tryd.prog.info? 23).map (·.size) = some (bu p.2).length) := Lib.hid (Tryd.infoU6 _ (hp.2))
  have HO_VX : Hid ((bu p.2).toArray.all (·.oneCell') = true) := Lib.hid (bu_one _)
  have HL_VX : Hid ((bu p.2).length = 16) := Lib.hid (by rw [bu_len]; exact hp.2)
  have HI_PV : Hid ((Tryd.prog.info? 38).map (·.size) = some (prv p).length) := Lib.hid (Tryd.infoP _ (hp))
  have HO_PV : Hid ((prv p).toArray.all (·.oneCell') = true) := Lib.hid (prv_ones _)
  have HL_PV : Hid ((prv p).length = 20) := Lib.hid (prv_len (hp))
  have HK1 := Lib.hid ((Kp.start w).new 38 (prv p))
  have HFr : Hid (∀ W, Kp w w.heap.size [(w.heap.size, 38, prv p)] W → W.rangeAt w.heap.size 0 (bu p.1)) := Lib.hid (fun W k => range_f k.hd.range)
  have HXr : Hid (∀ W, Kp w w.heap.size [(w.heap.size, 38, prv p)] W → W.rangeAt w.heap.size (0 + 4) (bu p.2)) := Lib.hid (fun W k => range_x k.hd.range HP.out)
  have HBS := Lib.hid (bslice_one p hp)
  have hE : addE l p = if (mart4 p.1 || mart6 p.2) = true then 13 else if shr l p = true then 5 else if 16 ≤ l.length then 6 else 0 := rfl
  have HE := Lib.hid hE
  have HL13 : Hid (addE l p ≠ 0 → addL l p = l) := Lib.hid (fun h => by unfold addL; rw [if_neg h])
  have HL0 : Hid (addE l p = 0 → addL l p = l ++ [p] ∧ Nl (l ++ [p])) := Lib.hid (fun h => ⟨by unfold addL; rw [if_pos h], hT.nl.snoc hp h⟩)
  have HR1 : Hid (∀ W, (prv p).toArray = (prv p).toArray → Bk W (w.heap.size + 1000) 38 (prv p).toArray → True) := Lib.hid (fun _ _ _ => trivial)
  clear HR1 hE hT hp hm
  generalize addE l p = E at *
  generalize addL l p = L2 at *
  generalize mart4 p.1 = M4 at *
  generalize mart6 p.2 = M6 at *
  generalize shr l p = SH at *
  generalize bu p.1 = VF at *
  generalize bu p.2 = VX at *
  generalize hPV : prv p = PV at *
  have HPV := Lib.hid hPV
  clear hPV
  generalize hw1 : w.alloc (.cells PV.toArray 38) = w1 at *
  have hr0 := HFr.out _ HK1.out
  go_enter Tryd.func17, Tryd.ntmps17
  go_upto_region 3 with (fail)
  clear hw1
  go_wp2_with (((with_reducible (change wpList _ _ _ _ _ _)); ((refine wpList_load_mid rfl 36 _ rfl (w.heap.size) (0) rfl (VF) _ hr0 Tryd.underlying36 rfl HI_VF.out ?_))))
  clear hr0
  refine (CM4.out _ HK1.out.2.1).mono ?_
  rintro e w2 ⟨rfl, bb⟩
  have HK2 := Lib.hid (HK1.out.below bb (Nat.le_refl _))
  clear bb HK1
  cases M4
  rotate_left
  · have hE := HE.out
    simp only [Bool.true_or, if_true] at hE
    subst hE
    have HF : Hid (L2 = l) := Lib.hid (HL13.out (by decide))
    go_wp2_with fail
    go_ret
    exact ⟨rfl, by rw [HF.out]; exact HTB.out _ HK2.out.2.1, below_row HK2.out.2.1 _⟩
  have hr0 := HXr.out _ HK2.out
  go_wp2_with (((with_reducible (change wpList _ _ _ _ _ _)); ((refine wpList_load_if (by rfl) 23 _ rfl (w.heap.size) (0 + 4) rfl (VX) _ hr0 Tryd.underlying23 rfl HI_VX.out ?_))))
  clear hr0
  refine (CM6.out _ HK2.out.2.1).mono ?_
  rintro e w3 ⟨rfl, bb⟩
  have HK3 := Lib.hid (HK2.out.below bb (Nat.le_refl _))
  clear bb HK2
  cases M6
  rotate_left
  · have hE := HE.out
    simp only [Bool.false_or, if_true] at hE
    subst hE
    have HF : Hid (L2 = l) := Lib.hid (HL13.out (by decide))
    go_wp2_with fail
    go_ret
    exact ⟨rfl, by rw [HF.out]; exact HTB.out _ HK3.out.2.1, below_row HK3.out.2.1 _⟩
  have hr0 := HK3.out.hd.range
  go_wp2_with (((with_reducible (change wpList _ _ _ _ _ _)); ((refine wpList_load_mid rfl 38 _ rfl (w.heap.size) (0) rfl (PV) _ hr0 Tryd.underlying38 rfl HI_PV.out ?_))))
  clear hr0
  refine (CS.out _ HK3.out.2.1).mono ?_
  rintro e w4 ⟨rfl, bb⟩
  have HK4 := Lib.hid (HK3.out.below bb (Nat.le_refl _))
  clear bb HK3
  cases SH
  rotate_left
  · have hE := HE.out
    simp only [Bool.false_or, Bool.false_eq_true, if_false, if_true] at hE
    subst hE
    have HF : Hid (L2 = l) := Lib.hid (HL13.out (by decide))
    go_wp2_with fail
    go_ret
    exact ⟨rfl, by rw [HF.out]; exact HTB.out _ HK4.out.2.1, below_row HK4.out.2.1 _⟩
  go_wp2_with (fail)
  refine (CL.out _ HK4.out.2.1).mono ?_
  rintro e w9 ⟨rfl, rfl⟩
  by_cases h16 : 16 ≤ l.length
  · have hE := HE.out
    simp only [Bool.false_or, Bool.false_eq_true, if_false, if_pos h16] at hE
    subst hE
    have HF : Hid (L2 = l) := Lib.hid (HL13.out (by decide))
    have h17 : (16 : Int) ≤ (l.length : Int) := by omega
    clear h16
    go_wp2_with fail
    go_ret
    exact ⟨rfl, by rw [HF.out]; exact HTB.out _ HK4.out.2.1, below_row HK4.out.2.1 _⟩
  have hE := HE.out
  simp only [Bool.false_or, Bool.false_eq_true, if_false, if_neg h16] at hE
  subst hE
  have HF := Lib.hid (HL0.out rfl)
  have h17 : ¬ (16 : Int) ≤ (l.length : Int) := by omega
  clear h16
  go_upto_region 9 with (fail)
  have HK4' := HK4
  obtain ⟨hn5, s5, m4, m6, hb5, hs5, _, _⟩ := HTB.out _ HK4.out.2.1
  have HN := Lib.hid hn5
  have HB5 := Lib.hid hb5
  have HS5 := Lib.hid hs5
  obtain ⟨ao, cap, rfl, _⟩ := own_shape hs5
  clear hn5 hb5 hs5
  have HB2 := Lib.hid Tryd.bsTwo
  have HLT := Lib.hid HT.out.lt
  have hb1 : Below w4.drew.heap.size w4.drew (w4.drew.alloc (.cells PV.toArray 38)) := (Below.refl _ _).alloc (Nat.le_refl _) _
  have hb2 : Below w4.drew.heap.size w4.drew ((w4.drew.alloc (.cells PV.toArray 38)).alloc (.cells #[(.slice ao l.length cap), (.slice (some ⟨w4.drew.heap.size, 0, none⟩) 1 1)] 40)) := hb1.alloc hb1.size _
  have HBW : Hid (Below w.heap.size w ((w4.drew.alloc (.cells PV.toArray 38)).alloc (.cells #[(.slice ao l.length cap), (.slice (some ⟨w4.drew.heap.size, 0, none⟩) 1 1)] 40))) := Lib.hid ((HK4.out.2.1.drew).trans (hb2.mono HK4.out.2.2))
  have hR0 : Rs ((w4.drew.alloc (.cells PV.toArray 38)).alloc (.cells #[(.slice ao l.length cap), (.slice (some ⟨w4.drew.heap.size, 0, none⟩) 1 1)] 40)) (.slice ao l.length cap) l := ((own_rs HS5.out).below ((Below.refl _ w4).drew)).below hb2
  have hR1 : Rs ((w4.drew.alloc (.cells PV.toArray 38)).alloc (.cells #[(.slice ao l.length cap), (.slice (some ⟨w4.drew.heap.size, 0, none⟩) 1 1)] 40)) (.slice (some ⟨w4.drew.heap.size, 0, none⟩) 1 1) [p] := .inr ⟨_, 1, rfl, Nat.le_refl _, .inr ⟨_, 0, rfl, Nat.lt_of_lt_of_le (bk_new w4.drew 38 PV.toArray).lt (by simp), by rw [prV_one, HPV.out]; exact ((bk_new w4.drew 38 PV.toArray).alloc _).range⟩⟩
  have HC8 : Hid (∀ c, c = (w4.drew.alloc (.cells PV.toArray 38)).heap.size → Calls Tryd.prog 41 #[.slice (some ⟨c, 0, none⟩) 2 2] ((w4.alloc (.cells PV.toArray 38)).alloc (.cells #[(.slice ao l.length cap), .slice (some ⟨w4.heap.size, 0, none⟩) 1 1] 40)).drew fun e w' => ∃ u, e = .returned u ∧ w'.ownsRow ((w4.drew.alloc (.cells PV.toArray 38)).alloc (.cells #[(.slice ao l.length cap), (.slice (some ⟨w4.drew.heap.size, 0, none⟩) 1 1)] 40)).heap.size 38 20 u (l ++ [p]).length (prV (l ++ [p])) ∧ Below ((w4.drew.alloc (.cells PV.toArray 38)).alloc (.cells #[(.slice ao l.length cap), (.slice (some ⟨w4.drew.heap.size, 0, none⟩) 1 1)] 40)).heap.size ((w4.drew.alloc (.cells PV.toArray 38)).alloc (.cells #[(.slice ao l.length cap), (.slice (some ⟨w4.drew.heap.size, 0, none⟩) 1 1)] 40)) w') := Lib.hid (fun c hc => by rw [hc]; exact concat_any _ _ _ l [p] ((w4.drew.alloc (.cells PV.toArray 38)).alloc (.cells #[(.slice ao l.length cap), (.slice (some ⟨w4.drew.heap.size, 0, none⟩) 1 1)] 40)) (bk_new (w4.drew.alloc (.cells PV.toArray 38)) _ _) hR0 hR1 HN.out.ok (by intro q hq; rw [List.mem_singleton.1 hq]; exact HP.out) (by omega) (by simp))
  have HBB : Hid (Bk ((w4.drew.alloc (.cells PV.toArray 38)).alloc (.cells #[(.slice ao l.length cap), (.slice (some ⟨w4.drew.heap.size, 0, none⟩) 1 1)] 40)) b 62 #[(.slice ao l.length cap), m4, m6]) := Lib.hid ((HB5.out.alloc (w := w4.drew) _).alloc _)
  clear hb1 hb2 hR0 hR1 HK4'
  refine wp_region_noPanic ?_
  refine wp_region_held_drew (S := fun w' => Bk w' w.heap.size 38 PV.toArray) (by kernel_rfl) (HK4.out.hd) (fun hHeld => ?_)
  refine wpAnyH_take (i := 0) (oi := { dst := some 25, op := Op.move (Operand.tmp 0), type := 31, pos := "eam.go:44", after := #[], guard := none }) (v := ?_) rfl (by kernel_rfl) (by kernel_rfl) (by kernel_rfl) (fun _ _ _ h => h) (Or.inl ⟨by rfl, ?_⟩) (by assumption) ?_
  rotate_left
  · (intro ww hSw; (try dsimp only at hSw); go_simp; try with_reducible rfl)
  (try simp only [Act.put, List.setIfInBounds_toArray, List.set_cons_zero, List.set_cons_succ])
  refine wpAnyH_take (i := 1) (oi := { dst := some 26, op := Op.move (Operand.tmp 0), type := 31, pos := "eam.go:44", after := #[], guard := none }) (v := ?_) rfl (by kernel_rfl) (by kernel_rfl) (by kernel_rfl) (fun _ _ _ h => h) (Or.inl ⟨by rfl, ?_⟩) (by assumption) ?_
  rotate_left
  · (intro ww hSw; (try dsimp only at hSw); go_simp; try with_reducible rfl)
  (try simp only [Act.put, List.setIfInBounds_toArray, List.set_cons_zero, List.set_cons_succ])
  refine wpAnyH_take (i := 2) (oi := { dst := some 27, op := Op.nilCheck (Operand.tmp 26), type := 0, pos := "eam.go:44", after := #[{ on := 1, ground := Ground.data }], guard := none }) (v := ?_) rfl (by kernel_rfl) (by kernel_rfl) (by kernel_rfl) (fun _ _ _ h => h) (Or.inl ⟨by rfl, ?_⟩) (by assumption) ?_
  rotate_left
  · (intro ww hSw; (try dsimp only at hSw); go_simp; try with_reducible rfl)
  (try simp only [Act.put, List.setIfInBounds_toArray, List.set_cons_zero, List.set_cons_succ])
  refine wpAnyH_take (i := 3) (oi := { dst := some 28, op := Op.fieldAddr 62 (Operand.tmp 27) 0, type := 0, pos := "eam.go:44", after := #[{ on := 2, ground := Ground.data }], guard := none }) (v := ?_) rfl (by kernel_rfl) (by kernel_rfl) (by kernel_rfl) (fun _ _ _ h => h) (Or.inl ⟨by rfl, ?_⟩) (by assumption) ?_
  rotate_left
  · (intro ww hSw; (try dsimp only at hSw); go_simp; try with_reducible rfl)
  (try simp only [Act.put, List.setIfInBounds_toArray, List.set_cons_zero, List.set_cons_succ])
  refine wpAnyH_take (i := 5) (oi := { dst := some 30, op := Op.load 38 (Operand.tmp 3), type := 38, pos := "eam.go:44", after := #[], guard := none }) (v := .agg (PV).toArray) rfl (by kernel_rfl) (by kernel_rfl) (by kernel_rfl) (fun _ _ _ h => h) (yieldsIf_load_mid (by rfl) _ _ rfl (w.heap.size) 0 rfl (PV) _ (fun ww hSw => Bk.range hSw) Tryd.underlying38 rfl HI_PV.out) (by assumption) ?_
  (try simp only [Act.put, List.setIfInBounds_toArray, List.set_cons_zero, List.set_cons_succ])
  refine wpAnyH_ready (rs := [4, 6]) (by kernel_rfl) (by simp) ?_
  refine AllReadyH.cons (o := { dst := some 29, op := Op.load 40 (Operand.tmp 28), type := 40, pos := "eam.go:44", after := #[{ on := 3, ground := Ground.data }], guard := none }) rfl (fun K hK => ?_) (AllReadyH.cons (o := { dst := some 31, op := Op.buildSlice 40 1 #[(0, Operand.tmp 30)], type := 40, pos := "eam.go:44", after := #[{ on := 5, ground := Ground.data }], guard := none }) rfl (fun K hK => ?_) AllReadyH.nil)
  · have c0 := HB5.out.c 0 _ rfl
    go_simp
    refine hK.out _ _ (hHeld) (fun hHeld => ?_)
    clear hK K
    (try simp only [Act.put, List.setIfInBounds_toArray, List.set_cons_zero, List.set_cons_succ])
    refine wpAnyH_ready (rs := [6]) (by kernel_rfl) (by simp) ?_
    refine AllReadyH.cons (o := { dst := some 31, op := Op.buildSlice 40 1 #[(0, Operand.tmp 30)], type := 40, pos := "eam.go:44", after := #[{ on := 5, ground := Ground.data }], guard := none }) rfl (fun K hK => ?_) AllReadyH.nil
    rw [if_pos (by rfl)]
    refine wp_bslice rfl (by simp only [List.map_toArray]; rfl) (HBS.out _) ?_
    refine hK.out _ _ (Bk.alloc hHeld _) (fun hHeld => ?_)
    clear hK K
    (try simp only [Act.put, List.setIfInBounds_toArray, List.set_cons_zero, List.set_cons_succ])
    refine wpAnyH_ready (rs := [7]) (by kernel_rfl) (by simp) ?_
    refine AllReadyH.cons (o := { dst := some 32, op := Op.buildSlice 109 2 #[(0, Operand.tmp 29), (1, Operand.tmp 31)], type := 109, pos := "eam.go:44", after := #[{ on := 4, ground := Ground.data }, { on := 6, ground := Ground.data }], guard := none }) rfl (fun K hK => ?_) AllReadyH.nil
    rw [if_pos (by rfl)]
    refine wp_bslice rfl (by simp only [List.map_toArray]; rfl) (HB2.out _ _ _ _ _ _ _) ?_
    refine hK.out _ _ (Bk.alloc hHeld _) (fun hHeld => ?_)
    clear hK K
    (try simp only [Act.put, List.setIfInBounds_toArray, List.set_cons_zero, List.set_cons_succ])
    refine wpAnyH_ready (rs := [8]) (by kernel_rfl) (by simp) ?_
    refine AllReadyH.cons (o := { dst := some 33, op := Op.call { callee := Callee.value (Operand.func 41), args := #[Operand.tmp 32], argTypes := #[109] }, type := 40, pos := "eam.go:44", after := #[{ on := 7, ground := Ground.data }], guard := none }) rfl (fun K hK => ?_) AllReadyH.nil
    go_simp
    ((with_reducible refine (HC8.out (w4.heap.size + 1) (by simp)).mono ?_); rintro e wA ⟨u, rfl, huA, hbA⟩)
    refine hK.out _ _ (Bk.below hHeld hbA (Bk.lt hHeld)) (fun hHeld => ?_)
    clear hK K
    (try simp only [Act.put, List.setIfInBounds_toArray, List.set_cons_zero, List.set_cons_succ])
    refine wpAnyH_ready (rs := [9]) (by kernel_rfl) (by simp) ?_
    refine AllReadyH.cons (o := { dst := some 34, op := Op.call { callee := Callee.value (Operand.func 40), args := #[Operand.tmp 25, Operand.tmp 33], argTypes := #[31, 40] }, type := 0, pos := "eam.go:44", after := #[{ on := 0, ground := Ground.data }, { on := 8, ground := Ground.data }, { on := 8, ground := Ground.chain }], guard := none }) rfl (fun K hK => ?_) AllReadyH.nil
    go_simp
    ((with_reducible refine (keep_any b _ u (l ++ [p]) wA (HBB.out.below hbA HBB.out.lt) rfl (ow_base huA (Nat.zero_le _)) HF.out.2).mono ?_); rintro e wB ⟨rfl, hTB, hgB⟩)
    refine hK.out _ _ (Bk.grown hHeld hgB (fun e => absurd HLT.out (by rw [← Option.some.inj e]; exact Nat.lt_irrefl _))) (fun hHeld => ?_)
    clear hK K
    (try simp only [Act.put, List.setIfInBounds_toArray, List.set_cons_zero, List.set_cons_succ])
    refine wpAnyH_done (by kernel_rfl) ?_ _
    refine NoPanic.normal ?_
    have hEnd : w.grownBy wB (some b) := below_grown (HBW.out.trans (hbA.mono HBW.out.size)) hgB
    have HEnd := Lib.hid hEnd
    have HTE := Lib.hid hTB
    clear hEnd hTB hgB hbA huA hHeld HBB HC8 HBW
    go_wp2_with fail
    go_ret
    exact ⟨rfl, by rw [HF.out.1]; exact HTE.out, HEnd.out⟩
  · rw [if_pos (by rfl)]
    refine wp_bslice rfl (by simp only [List.map_toArray]; rfl) (HBS.out _) ?_
    refine hK.out _ _ (Bk.alloc hHeld _) (fun hHeld => ?_)
    clear hK K
    (try simp only [Act.put, List.setIfInBounds_toArray, List.set_cons_zero, List.set_cons_succ])
    refine wpAnyH_ready (rs := [4]) (by kernel_rfl) (by simp) ?_
    refine AllReadyH.cons (o := { dst := some 29, op := Op.load 40 (Operand.tmp 28), type := 40, pos := "eam.go:44", after := #[{ on := 3, ground := Ground.data }], guard := none }) rfl (fun K hK => ?_) AllReadyH.nil
    have c0 := (HB5.out.alloc (w := w4) (.cells PV.toArray 38)).c 0 _ rfl
    go_simp
    refine hK.out _ _ (hHeld) (fun hHeld => ?_)
    clear hK K
    (try simp only [Act.put, List.setIfInBounds_toArray, List.set_cons_zero, List.set_cons_succ])
    refine wpAnyH_ready (rs := [7]) (by kernel_rfl) (by simp) ?_
    refine AllReadyH.cons (o := { dst := some 32, op := Op.buildSlice 109 2 #[(0, Operand.tmp 29), (1, Operand.tmp 31)], type := 109, pos := "eam.go:44", after := #[{ on := 4, ground := Ground.data }, { on := 6, ground := Ground.data }], guard := none }) rfl (fun K hK => ?_) AllReadyH.nil
    rw [if_pos (by rfl)]
    refine wp_bslice rfl (by simp only [List.map_toArray]; rfl) (HB2.out _ _ _ _ _ _ _) ?_
    refine hK.out _ _ (Bk.alloc hHeld _) (fun hHeld => ?_)
    clear hK K
    (try simp only [Act.put, List.setIfInBounds_toArray, List.set_cons_zero, List.set_cons_succ])
    refine wpAnyH_ready (rs := [8]) (by kernel_rfl) (by simp) ?_
    refine AllReadyH.cons (o := { dst := some 33, op := Op.call { callee := Callee.value (Operand.func 41), args := #[Operand.tmp 32], argTypes := #[109] }, type := 40, pos := "eam.go:44", after := #[{ on := 7, ground := Ground.data }], guard := none }) rfl (fun K hK => ?_) AllReadyH.nil
    go_simp
    ((with_reducible refine (HC8.out (w4.heap.size + 1) (by simp)).mono ?_); rintro e wA ⟨u, rfl, huA, hbA⟩)
    refine hK.out _ _ (Bk.below hHeld hbA (Bk.lt hHeld)) (fun hHeld => ?_)
    clear hK K
    (try simp only [Act.put, List.setIfInBounds_toArray, List.set_cons_zero, List.set_cons_succ])
    refine wpAnyH_ready (rs := [9]) (by kernel_rfl) (by simp) ?_
    refine AllReadyH.cons (o := { dst := some 34, op := Op.call { callee := Callee.value (Operand.func 40), args := #[Operand.tmp 25, Operand.tmp 33], argTypes := #[31, 40] }, type := 0, pos := "eam.go:44", after := #[{ on := 0, ground := Ground.data }, { on := 8, ground := Ground.data }, { on := 8, ground := Ground.chain }], guard := none }) rfl (fun K hK => ?_) AllReadyH.nil
    go_simp
    ((with_reducible refine (keep_any b _ u (l ++ [p]) wA (HBB.out.below hbA HBB.out.lt) rfl (ow_base huA (Nat.zero_le _)) HF.out.2).mono ?_); rintro e wB ⟨rfl, hTB, hgB⟩)
    refine hK.out _ _ (Bk.grown hHeld hgB (fun e => absurd HLT.out (by rw [← Option.some.inj e]; exact Nat.lt_irrefl _))) (fun hHeld => ?_)
    clear hK K
    (try simp only [Act.put, List.setIfInBounds_toArray, List.set_cons_zero, List.set_cons_succ])
    refine wpAnyH_done (by kernel_rfl) ?_ _
    refine NoPanic.normal ?_
    have hEnd : w.grownBy wB (some b) := below_grown (HBW.out.trans (hbA.mono HBW.out.size)) hgB
    have HEnd := Lib.hid hEnd
    have HTE := Lib.hid hTB
    clear hEnd hTB hgB hbA huA hHeld HBB HC8 HBW
    go_wp2_with fail
    go_ret
    exact ⟨rfl, by rw [HF.out.1]; exact HTE.out, HEnd.out⟩

/-- What Drop answers, and leaves. -/
def dropE (l : Kv) (a : List UInt8) : Int := if sixI l a = true then 0 else 4
def dropL (l : Kv) (a : List UInt8) : Kv := l.filter fun p => decide (p.1 ≠ a)
theorem lk_mem {l : Kv} {a v : List UInt8} (h : lk l a = some v) : (a, v) ∈ l := by
  induction l with
  | nil => simp [lk] at h
  | cons x r ih =>
    unfold lk at h
    split at h
    · rename_i hx
      have : x = (a, v) := Prod.ext hx (Option.some.inj h)
      rw [this]
      simp
    · exact List.mem_cons_of_mem _ (ih h)
theorem six_mem {l : Kv} {a : List UInt8} (h : sixI l a = true) : (a, sixA l a) ∈ l := by
  unfold sixI at h
  obtain ⟨v, hv⟩ := Option.isSome_iff_exists.1 h
  have e : sixA l a = v := by unfold sixA lkv; rw [hv]; rfl
  rw [e]
  exact lk_mem hv
theorem Nl.drop {l : Kv} (h : Nl l) (a : List UInt8) : Nl (dropL l a) :=
  ⟨fun p hp => h.ok p (List.mem_filter.1 hp).1, h.ds.filter _, Nat.le_trans (List.length_filter_le _ _) h.len⟩
theorem drop_none {l : Kv} {a : List UInt8} (h : sixI l a = false) : dropL l a = l := by
  unfold sixI at h
  have h1 : lk l a = none := by simpa using h
  exact List.filter_eq_self.2 (fun p hp => by simpa using lk_none.1 h1 p hp)
/-- What stands ahead of a pair and behind it is all but it. -/
theorem drop_cut {l : Kv} {p : List UInt8 × List UInt8} (hd : Ds l) (h : p ∈ l) : l.take (ix l p) ++ l.drop (ix l p + 1) = dropL l p.1 := by
  induction l with
  | nil => cases h
  | cons x r ih =>
    have hp := List.pairwise_cons.1 hd
    rw [ix_cons]
    split
    · rename_i hx
      rw [List.take_zero, List.nil_append, Nat.zero_add, List.drop_succ_cons, List.drop_zero]
      unfold dropL
      rw [List.filter_cons, if_neg (by rw [hx]; simp)]
      refine (List.filter_eq_self.2 (fun q hq => ?_)).symm
      have := (hp.1 q hq).1
      rw [hx] at this
      simpa using fun e => this e.symm
    · rename_i hx
      have hm : p ∈ r := by
        rcases List.mem_cons.1 h with h | h
        · exact absurd h.symm hx
        · exact h
      rw [List.take_succ_cons, List.drop_succ_cons, List.cons_append, ih hp.2 hm]
      unfold dropL
      rw [List.filter_cons, if_pos (by simpa using (hp.1 p hm).1)]
theorem exec_slice {P : Program} {op : Oper} {a : Act} {W : World} {v : Value} {T : TypeId} {x : Operand} {lo hi : Option Operand} (ho : op.op = .slice T x lo hi none) (h : (Instr.sliceAt T (a.eval x) (lo.map a.eval) (hi.map a.eval) none).run P W = .ok v W) : (execOp a.eval op).run P W = .ok (.value v) W := by
  unfold execOp
  simp only [ho, Sem.run_bind]
  rw [show (Option.map a.eval none : Option Value) = none from rfl, h]
  rfl
theorem Tryd.sizePair (W : World) : (Go.sizeOf 38).run Tryd.prog W = .ok 20 W := by kernel_rfl
theorem Tryd.sliceElem : Tryd.prog.underlying 40 = some (.slice (Tryd.prog.elem 40)) := by kernel_rfl
/-- A slice's beginning. -/
theorem slice_to (g n cap i : Nat) (hi : i ≤ cap) (W : World) : (Instr.sliceAt 40 (.slice (some ⟨g, 0, none⟩) n cap) none (some (.int .i64 (i : Int))) none).run Tryd.prog W = .ok (.slice (some ⟨g, 0, none⟩) i cap) W := by
  have hb := run_sliceBound (P := Tryd.prog) (w := W) .i64 (i : Int) cap .sliceAcap (by omega) (by omega)
  rw [run_sliceAt_slice _ _ _ _ _ _ Tryd.sliceElem]
  unfold Instr.slice Instr.sliceBounds
  simp only [Sem.run_bind, run_underlying Tryd.underlying40, Result.andThen_ok, Sem.run_pure, if_true, hb, Tryd.sizePair]
  simp [Addr.add_mid]
/-- A slice's end. -/
theorem slice_from (g n cap j : Nat) (hj : j ≤ n) (hn : n ≤ cap) : ∃ o, (n - j ≠ 0 → o = j * 20) ∧ ∀ W, (Instr.sliceAt 40 (.slice (some ⟨g, 0, none⟩) n cap) (some (.int .i64 (j : Int))) none none).run Tryd.prog W = .ok (.slice (some ⟨g, o, none⟩) (n - j) (cap - j)) W := by
  have hb := fun W => run_sliceBound (P := Tryd.prog) (w := W) .i64 (j : Int) n .sliceB (by omega) (by omega)
  by_cases hcj : cap = j
  · refine ⟨0, fun h => absurd (by omega) h, fun W => ?_⟩
    rw [run_sliceAt_slice _ _ _ _ _ _ Tryd.sliceElem]
    unfold Instr.slice Instr.sliceBounds
    simp only [Sem.run_bind, run_underlying Tryd.underlying40, Result.andThen_ok, Sem.run_pure, Tryd.sizePair]
    simp [hcj, hb]
  · refine ⟨j * 20, fun _ => rfl, fun W => ?_⟩
    rw [run_sliceAt_slice _ _ _ _ _ _ Tryd.sliceElem]
    unfold Instr.slice Instr.sliceBounds
    simp only [Sem.run_bind, run_underlying Tryd.underlying40, Result.andThen_ok, Sem.run_pure, Tryd.sizePair]
    simp [hcj, hb, Addr.add_mid]
theorem Tryd.bPair (a0 a1 a2 a3 x0 x1 x2 x3 x4 x5 x6 x7 x8 x9 x10 x11 x12 x13 x14 x15 : Int) (W : World) : (Instr.build 38 #[(0, .agg #[.int .u8 a0, .int .u8 a1, .int .u8 a2, .int .u8 a3]), (1, .agg #[.int .u8 x0, .int .u8 x1, .int .u8 x2, .int .u8 x3, .int .u8 x4, .int .u8 x5, .int .u8 x6, .int .u8 x7, .int .u8 x8, .int .u8 x9, .int .u8 x10, .int .u8 x11, .int .u8 x12, .int .u8 x13, .int .u8 x14, .int .u8 x15])]).run Tryd.prog W = .ok (.agg #[.int .u8 a0, .int .u8 a1, .int .u8 a2, .int .u8 a3, .int .u8 x0, .int .u8 x1, .int .u8 x2, .int .u8 x3, .int .u8 x4, .int .u8 x5, .int .u8 x6, .int .u8 x7, .int .u8 x8, .int .u8 x9, .int .u8 x10, .int .u8 x11, .int .u8 x12, .int .u8 x13, .int .u8 x14, .int .u8 x15]) W := by kernel_rfl
theorem build_pair (p : List UInt8 × List UInt8) (h : okPr p) (W : World) : (Instr.build 38 #[(0, .agg (bu p.1).toArray), (1, .agg (bu p.2).toArray)]).run Tryd.prog W = .ok (.agg (prv p).toArray) W := by
  obtain ⟨x, y⟩ := p
  match x, y, h with
  | [b0, b1, b2, b3], [c0, c1, c2, c3, c4, c5, c6, c7, c8, c9, ca, cb, cc, cd, ce, cf], _ => exact Tryd.bPair _ _ _ _ _ _ _ _ _ _ _ _ _ _ _ _ _ _ _ _ W

set_option maxRecDepth 100000 in
set_option maxHeartbeats 8000000 in
theorem drop_any (b : Nat) (l : Kv) (a : List UInt8) (w : World) (hT : Tb w b l) (ha : a.length = 4) :
    Calls Tryd.prog 18 #[.pointer (some ⟨b, 0, none⟩), .agg (bu a).toArray] w fun e w' => e = .returned (.int .i64 (dropE l a)) ∧ Tb w' b (dropL l a) ∧ w.grownBy w' (some b) := by
  have HT := Lib.hid hT
  have HTB : Hid (∀ W, Below w.heap.size w W → Tb W b l) := Lib.hid (fun W hW => hT.below hW)
  have CX : Hid (∀ W, Below w.heap.size w W → Calls Tryd.prog 16 #[.pointer (some ⟨b, 0, none⟩), .agg (bu a).toArray] W fun e w' => e = .returned (.tuple #[.agg (bu (sixA l a)).toArray, .bool (sixI l a)]) ∧ Below W.heap.size W w') := Lib.hid (fun W hW => six_any b l a W (hT.below hW) ha)
  have hlen := hT.nl.len
  have HI_VA : Hid ((Tryd.prog.info? 36).map (·.size) = some (bu a).length) := Lib.hid (Tryd.infoU4 _ (ha))
  have HO_VA : Hid ((bu a).toArray.all (·.oneCell') = true) := Lib.hid (bu_one _)
  have HL_VA : Hid ((bu a).length = 4) := Lib.hid (by rw [bu_len]; exact ha)
  have HI_VX : Hid ((Tryd.prog.info? 23).map (·.size) = some (bu (sixA l a)).length) := Lib.hid (Tryd.infoU6 _ (sixA_len hT.nl a))
  have HO_VX : Hid ((bu (sixA l a)).toArray.all (·.oneCell') = true) := Lib.hid (bu_one _)
  have HL_VX : Hid ((bu (sixA l a)).length = 16) := Lib.hid (by rw [bu_len]; exact sixA_len hT.nl a)
  have HK1 := Lib.hid ((Kp.start w).new 36 (bu a))
  have hbp : ∀ W, (Instr.build 38 #[(0, .agg (bu a).toArray), (1, .agg (bu (sixA l a)).toArray)]).run Tryd.prog W = .ok (.agg (prv (a, sixA l a)).toArray) W := fun W => build_pair (a, sixA l a) ⟨ha, sixA_len hT.nl a⟩ W
  have HBP := Lib.hid hbp
  have HE : Hid (dropE l a = if sixI l a = true then 0 else 4) := Lib.hid rfl
  have HNo : Hid (sixI l a = false → dropL l a = l) := Lib.hid drop_none
  have HYes : Hid (sixI l a = true → (a, sixA l a) ∈ l ∧ l.take (ix l (a, sixA l a)) ++ l.drop (ix l (a, sixA l a) + 1) = dropL l a) := Lib.hid (fun h => ⟨six_mem h, drop_cut hT.nl.ds (six_mem h)⟩)
  have HND := Lib.hid (hT.nl.drop a)
  clear hbp hT ha
  have HIdx0 : Hid (∀ v W, Rs W v l → (a, sixA l a) ∈ l → Calls Tryd.prog 42 #[v, .agg (prv (a, sixA l a)).toArray] W fun e w' => e = .returned (.int .i64 (ix l (a, sixA l a))) ∧ Below W.heap.size W w') := Lib.hid (fun v W hR hm => index_any v l _ W hR HT.out.nl.ok (by omega) hm)
  generalize dropE l a = E at *
  generalize dropL l a = L2 at *
  generalize sixI l a = ok at *
  generalize (a, sixA l a) = p at *
  generalize bu (sixA l a) = VX at *
  generalize bu a = VA at *
  generalize prv p = PV at *
  generalize hw1 : w.alloc (.cells VA.toArray 36) = w1 at *
  have hr0 := HK1.out.hd.range
  go_enter Tryd.func18, Tryd.ntmps18
  go_upto_region 1 with (fail)
  clear hw1
  go_wp2_with (((with_reducible (change wpList _ _ _ _ _ _)); ((refine wpList_load_mid rfl 36 _ rfl (w.heap.size) (0) rfl (VA) _ hr0 Tryd.underlying36 rfl HI_VA.out ?_))))
  clear hr0
  refine (CX.out _ HK1.out.2.1).mono ?_
  rintro e w2 ⟨rfl, bb⟩
  have HK2 := Lib.hid (HK1.out.below bb (Nat.le_refl _))
  clear bb HK1
  have ht := (bk_new w2 23 ([.int .u8 0, .int .u8 0, .int .u8 0, .int .u8 0, .int .u8 0, .int .u8 0, .int .u8 0, .int .u8 0, .int .u8 0, .int .u8 0, .int .u8 0, .int .u8 0, .int .u8 0, .int .u8 0, .int .u8 0, .int .u8 0] : List Value).toArray).there VX.toArray.size (by have := HL_VX.out; simp; omega)
  go_upto_region 2 with (((with_reducible (change wpList _ _ _ _ _ _)); ((refine wpList_store_mid rfl 23 _ _ rfl w2.heap.size 0 VX.toArray rfl rfl ht (by simpa using HI_VX.out) HO_VX.out ?_))))
  have HK3 := Lib.hid (HK2.out.put 23 ([.int .u8 0, .int .u8 0, .int .u8 0, .int .u8 0, .int .u8 0, .int .u8 0, .int .u8 0, .int .u8 0, .int .u8 0, .int .u8 0, .int .u8 0, .int .u8 0, .int .u8 0, .int .u8 0, .int .u8 0, .int .u8 0] : List Value).toArray VX (by have := HL_VX.out; simp; omega))
  clear ht HK2
  generalize (w2.alloc (.cells ([.int .u8 0, .int .u8 0, .int .u8 0, .int .u8 0, .int .u8 0, .int .u8 0, .int .u8 0, .int .u8 0, .int .u8 0, .int .u8 0, .int .u8 0, .int .u8 0, .int .u8 0, .int .u8 0, .int .u8 0, .int .u8 0] : List Value).toArray 23)).setCells w2.heap.size 0 VX = w3 at *
  generalize w2.heap.size = g5 at *
  cases ok
  · have hE := HE.out
    simp only [Bool.false_eq_true, if_false] at hE
    subst hE
    have HF := Lib.hid (HNo.out rfl)
    go_wp2_with fail
    go_ret
    exact ⟨rfl, by rw [HF.out]; exact HTB.out _ HK3.out.2.1, below_row HK3.out.2.1 _⟩
  have hE := HE.out
  simp only [if_true] at hE
  subst hE
  obtain ⟨hm, hcut⟩ := HYes.out rfl
  have HM := Lib.hid hm
  have HCut := Lib.hid hcut
  have HI := Lib.hid (ix_lt hm)
  clear hm hcut
  have HCs : Hid (∀ W, Below w.heap.size w W → ∃ g n m4 m6, Bk W b 62 #[.slice (some ⟨g, 0, none⟩) l.length n, m4, m6] ∧ W.ownsRow 0 38 20 (.slice (some ⟨g, 0, none⟩) l.length n) l.length (prV l) ∧ l.length ≤ n) := Lib.hid (fun W hW => by
    obtain ⟨_, s, m4, m6, h1, h2, _⟩ := HTB.out W hW
    obtain ⟨_, ⟨rfl, h0⟩ | ⟨g, cap, cur, rfl, h3⟩⟩ := id h2
    · exact absurd HI.out (by omega)
    · exact ⟨g, cap, m4, m6, h1, h2, h3.2.2.1⟩)
  obtain ⟨g, cap, m4, m6, hb5, hs5, hcap⟩ := HCs.out _ HK3.out.2.1
  have HB5 := Lib.hid hb5
  have HS5 := Lib.hid hs5
  clear hb5 hs5 HCs
  have HKR : Hid (∀ W, Kp w w.heap.size [(g5, 23, VX), (w.heap.size, 36, VA)] W → Below w3.heap.size w3 W → Kp w w.heap.size [(g5, 23, VX), (w.heap.size, 36, VA)] W ∧ Below w3.heap.size w3 W ∧ W.cell? ⟨b, 0, none⟩ = some (.slice (some ⟨g, 0, none⟩) l.length cap) ∧ W.rangeAt w.heap.size 0 VA ∧ W.rangeAt g5 0 VX) := Lib.hid (fun W k hW => ⟨k, hW, (HB5.out.below hW HB5.out.lt).c 0 _ rfl, k.tl.hd.range, k.hd.range⟩)
  have CI : Hid (∀ W, Below w3.heap.size w3 W → Calls Tryd.prog 42 #[(.slice (some ⟨g, 0, none⟩) l.length cap), .agg PV.toArray] W fun e w' => e = .returned (.int .i64 (ix l p)) ∧ Below W.heap.size W w') := Lib.hid (fun W hW => HIdx0.out _ W ((own_rs HS5.out).below hW) HM.out)
  have HNX : Hid (okPs l) := Lib.hid HT.out.nl.ok
  generalize ix l p = i at *
  go_upto_region 4 with (fail)
  refine wp_region_noPanic ?_
  refine wp_region_held_drew (S := fun W => Kp w w.heap.size [(g5, 23, VX), (w.heap.size, 36, VA)] W ∧ Below w3.heap.size w3 W ∧ W.cell? ⟨b, 0, none⟩ = some (.slice (some ⟨g, 0, none⟩) l.length cap) ∧ W.rangeAt w.heap.size 0 VA ∧ W.rangeAt g5 0 VX) (by kernel_rfl) (HKR.out _ HK3.out.drew (Below.refl _ w3).drew) (fun hHeld => ?_)
  refine wpAnyH_take (i := 0) (oi := { dst := some 16, op := Op.move (Operand.tmp 0), type := 31, pos := "eam.go:61", after := #[], guard := none }) (v := ?_) rfl (by kernel_rfl) (by kernel_rfl) (by kernel_rfl) (fun _ _ _ h => h) (Or.inl ⟨by rfl, ?_⟩) (by assumption) ?_
  rotate_left
  · (intro ww hSw; (try dsimp only at hSw); go_simp; try with_reducible rfl)
  (try simp only [Act.put, List.setIfInBounds_toArray, List.set_cons_zero, List.set_cons_succ])
  refine wpAnyH_take (i := 1) (oi := { dst := some 17, op := Op.nilCheck (Operand.tmp 16), type := 0, pos := "eam.go:61", after := #[{ on := 0, ground := Ground.data }], guard := none }) (v := ?_) rfl (by kernel_rfl) (by kernel_rfl) (by kernel_rfl) (fun _ _ _ h => h) (Or.inl ⟨by rfl, ?_⟩) (by assumption) ?_
  rotate_left
  · (intro ww hSw; (try dsimp only at hSw); go_simp; try with_reducible rfl)
  (try simp only [Act.put, List.setIfInBounds_toArray, List.set_cons_zero, List.set_cons_succ])
  refine wpAnyH_take (i := 2) (oi := { dst := some 18, op := Op.fieldAddr 62 (Operand.tmp 17) 0, type := 0, pos := "eam.go:61", after := #[{ on := 1, ground := Ground.data }], guard := none }) (v := ?_) rfl (by kernel_rfl) (by kernel_rfl) (by kernel_rfl) (fun _ _ _ h => h) (Or.inl ⟨by rfl, ?_⟩) (by assumption) ?_
  rotate_left
  · (intro ww hSw; (try dsimp only at hSw); go_simp; try with_reducible rfl)
  (try simp only [Act.put, List.setIfInBounds_toArray, List.set_cons_zero, List.set_cons_succ])
  refine wpAnyH_take (i := 3) (oi := { dst := some 19, op := Op.load 40 (Operand.tmp 18), type := 40, pos := "eam.go:61", after := #[{ on := 2, ground := Ground.data }], guard := none }) (v := ?_) rfl (by kernel_rfl) (by kernel_rfl) (by kernel_rfl) (fun _ _ _ h => h) (Or.inl ⟨by rfl, ?_⟩) (by assumption) ?_
  rotate_left
  · (intro ww hSw; (try dsimp only at hSw); go_simp; try with_reducible rfl)
  (try simp only [Act.put, List.setIfInBounds_toArray, List.set_cons_zero, List.set_cons_succ])
  refine wpAnyH_take (i := 4) (oi := { dst := some 20, op := Op.load 36 (Operand.tmp 3), type := 36, pos := "eam.go:61", after := #[], guard := none }) (v := .agg (VA).toArray) rfl (by kernel_rfl) (by kernel_rfl) (by kernel_rfl) (fun _ _ _ h => h) (yieldsIf_load_mid (by rfl) _ _ rfl (w.heap.size) 0 rfl (VA) _ (fun ww hSw => hSw.2.2.2.1) Tryd.underlying36 rfl HI_VA.out) (by assumption) ?_
  (try simp only [Act.put, List.setIfInBounds_toArray, List.set_cons_zero, List.set_cons_succ])
  refine wpAnyH_take (i := 5) (oi := { dst := some 21, op := Op.load 23 (Operand.tmp 5), type := 23, pos := "eam.go:61", after := #[], guard := none }) (v := .agg (VX).toArray) rfl (by kernel_rfl) (by kernel_rfl) (by kernel_rfl) (fun _ _ _ h => h) (yieldsIf_load_mid (by rfl) _ _ rfl (g5) 0 rfl (VX) _ (fun ww hSw => hSw.2.2.2.2) Tryd.underlying23 rfl HI_VX.out) (by assumption) ?_
  (try simp only [Act.put, List.setIfInBounds_toArray, List.set_cons_zero, List.set_cons_succ])
  refine wpAnyH_take (i := 6) (oi := { dst := some 22, op := Op.build 38 #[(0, Operand.tmp 20), (1, Operand.tmp 21)], type := 38, pos := "eam.go:61", after := #[{ on := 4, ground := Ground.data }, { on := 5, ground := Ground.data }], guard := none }) (v := (.agg PV.toArray)) rfl (by kernel_rfl) (by kernel_rfl) (by kernel_rfl) (fun _ _ _ h => h) (Or.inl ⟨by rfl, fun ww _ => run_exec rfl (by simp only [List.map_toArray]; rfl) (HBP.out ww)⟩) (by assumption) ?_
  (try simp only [Act.put, List.setIfInBounds_toArray, List.set_cons_zero, List.set_cons_succ])
  refine wpAnyH_ready (rs := [7]) (by kernel_rfl) (by simp) ?_
  refine AllReadyH.cons (o := { dst := some 23, op := Op.call { callee := Callee.value (Operand.func 42), args := #[Operand.tmp 19, Operand.tmp 22], argTypes := #[40, 38] }, type := 3, pos := "eam.go:61", after := #[{ on := 3, ground := Ground.data }, { on := 6, ground := Ground.data }], guard := none }) rfl (fun K hK => ?_) AllReadyH.nil
  go_simp
  ((with_reducible refine (CI.out _ hHeld.2.1).mono ?_); rintro e w9 ⟨rfl, hb9⟩)
  refine hK.out _ _ (HKR.out _ (hHeld.1.below hb9 (Nat.le_refl _)) (hHeld.2.1.trans (hb9.mono hHeld.2.1.size))) (fun hHeld => ?_)
  clear hK K
  (try simp only [Act.put, List.setIfInBounds_toArray, List.set_cons_zero, List.set_cons_succ])
  refine wpAnyH_take (i := 8) (oi := { dst := some 7, op := Op.assign (Operand.tmp 23), type := 3, pos := "eam.go:61", after := #[{ on := 7, ground := Ground.data }, { on := 7, ground := Ground.chain }, { on := 0, ground := Ground.phase }, { on := 1, ground := Ground.phase }, { on := 2, ground := Ground.phase }, { on := 3, ground := Ground.phase }, { on := 4, ground := Ground.phase }, { on := 5, ground := Ground.phase }, { on := 6, ground := Ground.phase }, { on := 7, ground := Ground.phase }], guard := none }) (v := ?_) rfl (by kernel_rfl) (by kernel_rfl) (by kernel_rfl) (fun _ _ _ h => h) (Or.inl ⟨by rfl, ?_⟩) (by assumption) ?_
  rotate_left
  · (intro ww hSw; (try dsimp only at hSw); go_simp; try with_reducible rfl)
  (try simp only [Act.put, List.setIfInBounds_toArray, List.set_cons_zero, List.set_cons_succ])
  refine wpAnyH_done (by kernel_rfl) ?_ _
  refine NoPanic.normal ?_
  have HK9 := Lib.hid hHeld.1
  have HW9 := Lib.hid hHeld.2.1
  clear hHeld CI
  go_upto_region 5 with (fail)
  have HI2 := HI.out
  have hi9 : (i : Int) < 17 := by omega
  obtain ⟨o, ho, hsf0⟩ := slice_from g l.length cap (i + 1) (by omega) hcap
  have HSF : Hid (∀ W, (Instr.sliceAt 40 (.slice (some ⟨g, 0, none⟩) l.length cap) (some (.int .i64 (IntKind.i64.wrap ((i : Int) + 1)))) none none).run Tryd.prog W = .ok (.slice (some ⟨g, o, none⟩) (l.length - (i + 1)) (cap - (i + 1))) W) := Lib.hid (fun W => by have := hsf0 W; rw [IntKind.wrap_i64, show ((i : Int) + 1 + 9223372036854775808) % 18446744073709551616 - 9223372036854775808 = ((i + 1 : Nat) : Int) by omega]; exact this)
  have HST := Lib.hid (slice_to g l.length cap i (by omega))
  have HB9 := Lib.hid (HB5.out.below HW9.out HB5.out.lt)
  have HS9 := ow_below HS5.out HW9.out
  have hR := own_rs HS9
  have hb1 : Below w9.drew.heap.size w9.drew (w9.drew.alloc (.cells #[.slice (some ⟨g, 0, none⟩) i cap, .slice (some ⟨g, o, none⟩) (l.length - (i + 1)) (cap - (i + 1))] 40)) := (Below.refl _ _).alloc (Nat.le_refl _) _
  have hR1 := (hR.below ((Below.refl _ w9).drew)).below hb1
  obtain ⟨hg1, hrg⟩ : g < (w9.drew.alloc (.cells #[.slice (some ⟨g, 0, none⟩) i cap, .slice (some ⟨g, o, none⟩) (l.length - (i + 1)) (cap - (i + 1))] 40)).heap.size ∧ (w9.drew.alloc (.cells #[.slice (some ⟨g, 0, none⟩) i cap, .slice (some ⟨g, o, none⟩) (l.length - (i + 1)) (cap - (i + 1))] 40)).rangeAt g 0 (prV l) := by
    rcases hR1 with ⟨h, _⟩ | ⟨a', c', h, _, h0 | ⟨g', o', e', h2, h3⟩⟩
    · cases h
    · rw [h0] at HI2; cases HI2
    · subst e'; cases h; exact ⟨h2, h3⟩
  have hRa : Rs (w9.drew.alloc (.cells #[.slice (some ⟨g, 0, none⟩) i cap, .slice (some ⟨g, o, none⟩) (l.length - (i + 1)) (cap - (i + 1))] 40)) (.slice (some ⟨g, 0, none⟩) i cap) (l.take i) := .inr ⟨_, cap, by rw [List.length_take, Nat.min_eq_left (by omega)], by rw [List.length_take]; omega, .inr ⟨g, 0, rfl, hg1, fun j v hj => hrg j v (by rw [prV_take HNX.out i (by omega)] at hj; rw [List.getElem?_take] at hj; split at hj; exact hj; cases hj)⟩⟩
  have hRb : Rs (w9.drew.alloc (.cells #[.slice (some ⟨g, 0, none⟩) i cap, .slice (some ⟨g, o, none⟩) (l.length - (i + 1)) (cap - (i + 1))] 40)) (.slice (some ⟨g, o, none⟩) (l.length - (i + 1)) (cap - (i + 1))) (l.drop (i + 1)) := .inr ⟨_, cap - (i + 1), by rw [List.length_drop], by rw [List.length_drop]; omega, .inr ⟨g, o, rfl, hg1, fun j v hj => by
    rw [prV_drop HNX.out (i + 1) (by omega), List.getElem?_drop] at hj
    have hne : l.length - (i + 1) ≠ 0 := fun h0 => by
      have := (List.getElem?_eq_some_iff.1 hj).1
      rw [prV_len HNX.out] at this
      omega
    have := hrg _ v hj
    rw [Nat.zero_add] at this
    have e : o + j = (i + 1) * 20 + j := by rw [ho hne]
    rw [e]
    exact this⟩⟩
  have HB2 := Lib.hid Tryd.bsTwo
  have HBW : Hid (Below w.heap.size w (w9.drew.alloc (.cells #[.slice (some ⟨g, 0, none⟩) i cap, .slice (some ⟨g, o, none⟩) (l.length - (i + 1)) (cap - (i + 1))] 40))) := Lib.hid ((HK9.out.2.1.drew).trans (hb1.mono HK9.out.2.2))
  have HC8 : Hid (∀ c, c = w9.heap.size → Calls Tryd.prog 41 #[.slice (some ⟨c, 0, none⟩) 2 2] (w9.alloc (.cells #[.slice (some ⟨g, 0, none⟩) i cap, .slice (some ⟨g, o, none⟩) (l.length - (i + 1)) (cap - (i + 1))] 40)).drew fun e w' => ∃ u, e = .returned u ∧ w'.ownsRow (w9.drew.alloc (.cells #[.slice (some ⟨g, 0, none⟩) i cap, .slice (some ⟨g, o, none⟩) (l.length - (i + 1)) (cap - (i + 1))] 40)).heap.size 38 20 u L2.length (prV L2) ∧ Below (w9.drew.alloc (.cells #[.slice (some ⟨g, 0, none⟩) i cap, .slice (some ⟨g, o, none⟩) (l.length - (i + 1)) (cap - (i + 1))] 40)).heap.size (w9.drew.alloc (.cells #[.slice (some ⟨g, 0, none⟩) i cap, .slice (some ⟨g, o, none⟩) (l.length - (i + 1)) (cap - (i + 1))] 40)) w') := Lib.hid (fun c hc => by rw [hc, ← HCut.out]; exact concat_any _ _ _ (l.take i) (l.drop (i + 1)) (w9.drew.alloc (.cells #[.slice (some ⟨g, 0, none⟩) i cap, .slice (some ⟨g, o, none⟩) (l.length - (i + 1)) (cap - (i + 1))] 40)) (bk_new w9.drew _ _) hRa hRb (okPs_take HNX.out _) (okPs_drop HNX.out _) (by rw [List.length_take]; omega) (by rw [List.length_drop]; omega))
  have HBB : Hid (Bk (w9.drew.alloc (.cells #[.slice (some ⟨g, 0, none⟩) i cap, .slice (some ⟨g, o, none⟩) (l.length - (i + 1)) (cap - (i + 1))] 40)) b 62 #[(.slice (some ⟨g, 0, none⟩) l.length cap), m4, m6]) := Lib.hid (HB9.out.alloc (w := w9.drew) _)
  clear hb1 hR hR1 hg1 hrg hRa hRb ho hsf0 HS9 HI2 hcap
  refine wp_region_noPanic ?_
  refine wp_region_held_drew (S := fun _ => True) (by kernel_rfl) (trivial) (fun hHeld => ?_)
  refine wpAnyH_take (i := 0) (oi := { dst := some 24, op := Op.move (Operand.tmp 0), type := 31, pos := "eam.go:62", after := #[], guard := none }) (v := ?_) rfl (by kernel_rfl) (by kernel_rfl) (by kernel_rfl) (fun _ _ _ h => h) (Or.inl ⟨by rfl, ?_⟩) (by assumption) ?_
  rotate_left
  · (intro ww hSw; (try dsimp only at hSw); go_simp; try with_reducible rfl)
  (try simp only [Act.put, List.setIfInBounds_toArray, List.set_cons_zero, List.set_cons_succ])
  refine wpAnyH_take (i := 1) (oi := { dst := some 25, op := Op.move (Operand.tmp 0), type := 31, pos := "eam.go:62", after := #[], guard := none }) (v := ?_) rfl (by kernel_rfl) (by kernel_rfl) (by kernel_rfl) (fun _ _ _ h => h) (Or.inl ⟨by rfl, ?_⟩) (by assumption) ?_
  rotate_left
  · (intro ww hSw; (try dsimp only at hSw); go_simp; try with_reducible rfl)
  (try simp only [Act.put, List.setIfInBounds_toArray, List.set_cons_zero, List.set_cons_succ])
  refine wpAnyH_take (i := 2) (oi := { dst := some 26, op := Op.nilCheck (Operand.tmp 25), type := 0, pos := "eam.go:62", after := #[{ on := 1, ground := Ground.data }], guard := none }) (v := ?_) rfl (by kernel_rfl) (by kernel_rfl) (by kernel_rfl) (fun _ _ _ h => h) (Or.inl ⟨by rfl, ?_⟩) (by assumption) ?_
  rotate_left
  · (intro ww hSw; (try dsimp only at hSw); go_simp; try with_reducible rfl)
  (try simp only [Act.put, List.setIfInBounds_toArray, List.set_cons_zero, List.set_cons_succ])
  refine wpAnyH_take (i := 3) (oi := { dst := some 27, op := Op.fieldAddr 62 (Operand.tmp 26) 0, type := 0, pos := "eam.go:62", after := #[{ on := 2, ground := Ground.data }], guard := none }) (v := ?_) rfl (by kernel_rfl) (by kernel_rfl) (by kernel_rfl) (fun _ _ _ h => h) (Or.inl ⟨by rfl, ?_⟩) (by assumption) ?_
  rotate_left
  · (intro ww hSw; (try dsimp only at hSw); go_simp; try with_reducible rfl)
  (try simp only [Act.put, List.setIfInBounds_toArray, List.set_cons_zero, List.set_cons_succ])
  refine wpAnyH_take (i := 5) (oi := { dst := some 29, op := Op.move (Operand.tmp 7), type := 3, pos := "eam.go:62", after := #[], guard := none }) (v := ?_) rfl (by kernel_rfl) (by kernel_rfl) (by kernel_rfl) (fun _ _ _ h => h) (Or.inl ⟨by rfl, ?_⟩) (by assumption) ?_
  rotate_left
  · (intro ww hSw; (try dsimp only at hSw); go_simp; try with_reducible rfl)
  (try simp only [Act.put, List.setIfInBounds_toArray, List.set_cons_zero, List.set_cons_succ])
  refine wpAnyH_take (i := 7) (oi := { dst := some 31, op := Op.move (Operand.tmp 0), type := 31, pos := "eam.go:62", after := #[], guard := none }) (v := ?_) rfl (by kernel_rfl) (by kernel_rfl) (by kernel_rfl) (fun _ _ _ h => h) (Or.inl ⟨by rfl, ?_⟩) (by assumption) ?_
  rotate_left
  · (intro ww hSw; (try dsimp only at hSw); go_simp; try with_reducible rfl)
  (try simp only [Act.put, List.setIfInBounds_toArray, List.set_cons_zero, List.set_cons_succ])
  refine wpAnyH_take (i := 8) (oi := { dst := some 32, op := Op.nilCheck (Operand.tmp 31), type := 0, pos := "eam.go:62", after := #[{ on := 7, ground := Ground.data }], guard := none }) (v := ?_) rfl (by kernel_rfl) (by kernel_rfl) (by kernel_rfl) (fun _ _ _ h => h) (Or.inl ⟨by rfl, ?_⟩) (by assumption) ?_
  rotate_left
  · (intro ww hSw; (try dsimp only at hSw); go_simp; try with_reducible rfl)
  (try simp only [Act.put, List.setIfInBounds_toArray, List.set_cons_zero, List.set_cons_succ])
  refine wpAnyH_take (i := 9) (oi := { dst := some 33, op := Op.fieldAddr 62 (Operand.tmp 32) 0, type := 0, pos := "eam.go:62", after := #[{ on := 8, ground := Ground.data }], guard := none }) (v := ?_) rfl (by kernel_rfl) (by kernel_rfl) (by kernel_rfl) (fun _ _ _ h => h) (Or.inl ⟨by rfl, ?_⟩) (by assumption) ?_
  rotate_left
  · (intro ww hSw; (try dsimp only at hSw); go_simp; try with_reducible rfl)
  (try simp only [Act.put, List.setIfInBounds_toArray, List.set_cons_zero, List.set_cons_succ])
  refine wpAnyH_take (i := 11) (oi := { dst := some 35, op := Op.move (Operand.tmp 7), type := 3, pos := "eam.go:62", after := #[], guard := none }) (v := ?_) rfl (by kernel_rfl) (by kernel_rfl) (by kernel_rfl) (fun _ _ _ h => h) (Or.inl ⟨by rfl, ?_⟩) (by assumption) ?_
  rotate_left
  · (intro ww hSw; (try dsimp only at hSw); go_simp; try with_reducible rfl)
  (try simp only [Act.put, List.setIfInBounds_toArray, List.set_cons_zero, List.set_cons_succ])
  refine wpAnyH_take (i := 12) (oi := { dst := some 36, op := Op.binOp BinOp.add 3 (Operand.tmp 35) (Operand.const (Value.int IntKind.i64 1)) 3, type := 3, pos := "eam.go:62", after := #[{ on := 11, ground := Ground.data }], guard := none }) (v := ?_) rfl (by kernel_rfl) (by kernel_rfl) (by kernel_rfl) (fun _ _ _ h => h) (Or.inl ⟨by rfl, ?_⟩) (by assumption) ?_
  rotate_left
  · (intro ww hSw; (try dsimp only at hSw); go_simp; try with_reducible rfl)
  (try simp only [Act.put, List.setIfInBounds_toArray, List.set_cons_zero, List.set_cons_succ])
  refine wpAnyH_ready (rs := [4, 10]) (by kernel_rfl) (by simp) ?_
  refine AllReadyH.cons (o := { dst := some 28, op := Op.load 40 (Operand.tmp 27), type := 40, pos := "eam.go:62", after := #[{ on := 3, ground := Ground.data }], guard := none }) rfl (fun K hK => ?_) (AllReadyH.cons (o := { dst := some 34, op := Op.load 40 (Operand.tmp 33), type := 40, pos := "eam.go:62", after := #[{ on := 9, ground := Ground.data }], guard := none }) rfl (fun K hK => ?_) AllReadyH.nil)
  · have c0 := HB9.out.c 0 _ rfl
    go_simp
    refine hK.out _ _ (trivial) (fun hHeld => ?_)
    clear hK K
    (try simp only [Act.put, List.setIfInBounds_toArray, List.set_cons_zero, List.set_cons_succ])
    refine wpAnyH_take (i := 6) (oi := { dst := some 30, op := Op.slice 40 (Operand.tmp 28) none (some (Operand.tmp 29)) none, type := 40, pos := "eam.go:62", after := #[{ on := 4, ground := Ground.data }, { on := 5, ground := Ground.data }], guard := none }) (v := .slice (some ⟨g, 0, none⟩) i cap) rfl (by kernel_rfl) (by kernel_rfl) (by kernel_rfl) (fun _ _ _ h => h) (Or.inl ⟨by rfl, fun ww _ => exec_slice rfl (HST.out ww)⟩) (by assumption) ?_
    (try simp only [Act.put, List.setIfInBounds_toArray, List.set_cons_zero, List.set_cons_succ])
    refine wpAnyH_ready (rs := [10]) (by kernel_rfl) (by simp) ?_
    refine AllReadyH.cons (o := { dst := some 34, op := Op.load 40 (Operand.tmp 33), type := 40, pos := "eam.go:62", after := #[{ on := 9, ground := Ground.data }], guard := none }) rfl (fun K hK => ?_) AllReadyH.nil
    have c0 := HB9.out.c 0 _ rfl
    go_simp
    refine hK.out _ _ (trivial) (fun hHeld => ?_)
    clear hK K
    (try simp only [Act.put, List.setIfInBounds_toArray, List.set_cons_zero, List.set_cons_succ])
    refine wpAnyH_take (i := 13) (oi := { dst := some 37, op := Op.slice 40 (Operand.tmp 34) (some (Operand.tmp 36)) none none, type := 40, pos := "eam.go:62", after := #[{ on := 10, ground := Ground.data }, { on := 12, ground := Ground.data }], guard := none }) (v := .slice (some ⟨g, o, none⟩) (l.length - (i + 1)) (cap - (i + 1))) rfl (by kernel_rfl) (by kernel_rfl) (by kernel_rfl) (fun _ _ _ h => h) (Or.inl ⟨by rfl, fun ww _ => exec_slice rfl (HSF.out ww)⟩) (by assumption) ?_
    (try simp only [Act.put, List.setIfInBounds_toArray, List.set_cons_zero, List.set_cons_succ])
    refine wpAnyH_ready (rs := [14]) (by kernel_rfl) (by simp) ?_
    refine AllReadyH.cons (o := { dst := some 38, op := Op.buildSlice 109 2 #[(0, Operand.tmp 30), (1, Operand.tmp 37)], type := 109, pos := "eam.go:62", after := #[{ on := 6, ground := Ground.data }, { on := 13, ground := Ground.data }], guard := none }) rfl (fun K hK => ?_) AllReadyH.nil
    rw [if_pos (by rfl)]
    refine wp_bslice rfl (by simp only [List.map_toArray]; rfl) (HB2.out _ _ _ _ _ _ _) ?_
    refine hK.out _ _ (trivial) (fun hHeld => ?_)
    clear hK K
    (try simp only [Act.put, List.setIfInBounds_toArray, List.set_cons_zero, List.set_cons_succ])
    refine wpAnyH_ready (rs := [15]) (by kernel_rfl) (by simp) ?_
    refine AllReadyH.cons (o := { dst := some 39, op := Op.call { callee := Callee.value (Operand.func 41), args := #[Operand.tmp 38], argTypes := #[109] }, type := 40, pos := "eam.go:62", after := #[{ on := 14, ground := Ground.data }], guard := none }) rfl (fun K hK => ?_) AllReadyH.nil
    go_simp
    ((with_reducible refine (HC8.out w9.heap.size rfl).mono ?_); rintro e wA ⟨u, rfl, huA, hbA⟩)
    refine hK.out _ _ (trivial) (fun hHeld => ?_)
    clear hK K
    (try simp only [Act.put, List.setIfInBounds_toArray, List.set_cons_zero, List.set_cons_succ])
    refine wpAnyH_ready (rs := [16]) (by kernel_rfl) (by simp) ?_
    refine AllReadyH.cons (o := { dst := some 40, op := Op.call { callee := Callee.value (Operand.func 40), args := #[Operand.tmp 24, Operand.tmp 39], argTypes := #[31, 40] }, type := 0, pos := "eam.go:62", after := #[{ on := 0, ground := Ground.data }, { on := 15, ground := Ground.data }, { on := 15, ground := Ground.chain }], guard := none }) rfl (fun K hK => ?_) AllReadyH.nil
    go_simp
    ((with_reducible refine (keep_any b _ u L2 wA (HBB.out.below hbA HBB.out.lt) rfl (ow_base huA (Nat.zero_le _)) HND.out).mono ?_); rintro e wB ⟨rfl, hTB, hgB⟩)
    refine hK.out _ _ (trivial) (fun hHeld => ?_)
    clear hK K
    (try simp only [Act.put, List.setIfInBounds_toArray, List.set_cons_zero, List.set_cons_succ])
    refine wpAnyH_done (by kernel_rfl) ?_ _
    refine NoPanic.normal ?_
    have hEnd : w.grownBy wB (some b) := below_grown (HBW.out.trans (hbA.mono HBW.out.size)) hgB
    have HEnd := Lib.hid hEnd
    have HTE := Lib.hid hTB
    clear hEnd hTB hgB hbA huA hHeld HBB HC8 HBW
    go_wp2_with fail
    go_ret
    exact ⟨rfl, HTE.out, HEnd.out⟩
  · have c0 := HB9.out.c 0 _ rfl
    go_simp
    refine hK.out _ _ (trivial) (fun hHeld => ?_)
    clear hK K
    (try simp only [Act.put, List.setIfInBounds_toArray, List.set_cons_zero, List.set_cons_succ])
    refine wpAnyH_take (i := 13) (oi := { dst := some 37, op := Op.slice 40 (Operand.tmp 34) (some (Operand.tmp 36)) none none, type := 40, pos := "eam.go:62", after := #[{ on := 10, ground := Ground.data }, { on := 12, ground := Ground.data }], guard := none }) (v := .slice (some ⟨g, o, none⟩) (l.length - (i + 1)) (cap - (i + 1))) rfl (by kernel_rfl) (by kernel_rfl) (by kernel_rfl) (fun _ _ _ h => h) (Or.inl ⟨by rfl, fun ww _ => exec_slice rfl (HSF.out ww)⟩) (by assumption) ?_
    (try simp only [Act.put, List.setIfInBounds_toArray, List.set_cons_zero, List.set_cons_succ])
    refine wpAnyH_ready (rs := [4]) (by kernel_rfl) (by simp) ?_
    refine AllReadyH.cons (o := { dst := some 28, op := Op.load 40 (Operand.tmp 27), type := 40, pos := "eam.go:62", after := #[{ on := 3, ground := Ground.data }], guard := none }) rfl (fun K hK => ?_) AllReadyH.nil
    have c0 := HB9.out.c 0 _ rfl
    go_simp
    refine hK.out _ _ (trivial) (fun hHeld => ?_)
    clear hK K
    (try simp only [Act.put, List.setIfInBounds_toArray, List.set_cons_zero, List.set_cons_succ])
    refine wpAnyH_take (i := 6) (oi := { dst := some 30, op := Op.slice 40 (Operand.tmp 28) none (some (Operand.tmp 29)) none, type := 40, pos := "eam.go:62", after := #[{ on := 4, ground := Ground.data }, { on := 5, ground := Ground.data }], guard := none }) (v := .slice (some ⟨g, 0, none⟩) i cap) rfl (by kernel_rfl) (by kernel_rfl) (by kernel_rfl) (fun _ _ _ h => h) (Or.inl ⟨by rfl, fun ww _ => exec_slice rfl (HST.out ww)⟩) (by assumption) ?_
    (try simp only [Act.put, List.setIfInBounds_toArray, List.set_cons_zero, List.set_cons_succ])
    refine wpAnyH_ready (rs := [14]) (by kernel_rfl) (by simp) ?_
    refine AllReadyH.cons (o := { dst := some 38, op := Op.buildSlice 109 2 #[(0, Operand.tmp 30), (1, Operand.tmp 37)], type := 109, pos := "eam.go:62", after := #[{ on := 6, ground := Ground.data }, { on := 13, ground := Ground.data }], guard := none }) rfl (fun K hK => ?_) AllReadyH.nil
    rw [if_pos (by rfl)]
    refine wp_bslice rfl (by simp only [List.map_toArray]; rfl) (HB2.out _ _ _ _ _ _ _) ?_
    refine hK.out _ _ (trivial) (fun hHeld => ?_)
    clear hK K
    (try simp only [Act.put, List.setIfInBounds_toArray, List.set_cons_zero, List.set_cons_succ])
    refine wpAnyH_ready (rs := [15]) (by kernel_rfl) (by simp) ?_
    refine AllReadyH.cons (o := { dst := some 39, op := Op.call { callee := Callee.value (Operand.func 41), args := #[Operand.tmp 38], argTypes := #[109] }, type := 40, pos := "eam.go:62", after := #[{ on := 14, ground := Ground.data }], guard := none }) rfl (fun K hK => ?_) AllReadyH.nil
    go_simp
    ((with_reducible refine (HC8.out w9.heap.size rfl).mono ?_); rintro e wA ⟨u, rfl, huA, hbA⟩)
    refine hK.out _ _ (trivial) (fun hHeld => ?_)
    clear hK K
    (try simp only [Act.put, List.setIfInBounds_toArray, List.set_cons_zero, List.set_cons_succ])
    refine wpAnyH_ready (rs := [16]) (by kernel_rfl) (by simp) ?_
    refine AllReadyH.cons (o := { dst := some 40, op := Op.call { callee := Callee.value (Operand.func 40), args := #[Operand.tmp 24, Operand.tmp 39], argTypes := #[31, 40] }, type := 0, pos := "eam.go:62", after := #[{ on := 0, ground := Ground.data }, { on := 15, ground := Ground.data }, { on := 15, ground := Ground.chain }], guard := none }) rfl (fun K hK => ?_) AllReadyH.nil
    go_simp
    ((with_reducible refine (keep_any b _ u L2 wA (HBB.out.below hbA HBB.out.lt) rfl (ow_base huA (Nat.zero_le _)) HND.out).mono ?_); rintro e wB ⟨rfl, hTB, hgB⟩)
    refine hK.out _ _ (trivial) (fun hHeld => ?_)
    clear hK K
    (try simp only [Act.put, List.setIfInBounds_toArray, List.set_cons_zero, List.set_cons_succ])
    refine wpAnyH_done (by kernel_rfl) ?_ _
    refine NoPanic.normal ?_
    have hEnd : w.grownBy wB (some b) := below_grown (HBW.out.trans (hbA.mono HBW.out.size)) hgB
    have HEnd := Lib.hid hEnd
    have HTE := Lib.hid hTB
    clear hEnd hTB hgB hbA huA hHeld HBB HC8 HBW
    go_wp2_with fail
    go_ret
    exact ⟨rfl, HTE.out, HEnd.out⟩
end Go.Proofs.YtchdagdmbjpmcaaDoor
