/-
  Proved here: the law EamBack answers true.
  Conditions: a slice that reads as acts; the program's lists of martian addresses stand.
-/
import Derived.Test.YtchdagdmbjpmcaaDoorGd
import Derived.Test.YtchdagdmbjpmcaaDoorOpn
import Derived.Deep.CutRange
namespace Go.Proofs.YtchdagdmbjpmcaaDoor
open Go.RowKit

theorem new_nil2 (w : World) (hm : Hm w) : Calls Tryd.prog 14 #[.slice none 0 0] w fun e w' => Below w.heap.size w w' ∧ e = .returned (.tuple #[.pointer (some ⟨w.heap.size, 0, none⟩), .int .i64 0]) ∧ Tb w' w.heap.size [] := by
  refine (new_any (.slice none 0 0) [] w (.inl ⟨rfl, rfl⟩) okPs_nil (Nat.zero_le _) hm).mono ?_
  rintro e w' ⟨h1, ⟨_, h2, h3⟩ | ⟨h2, _⟩⟩
  · exact ⟨h1, h2, h3⟩
  · exact absurd rfl h2
theorem add_ways (L : Kv) (p : List UInt8 × List UInt8) : (addE L p = 13 ∧ addL L p = L ∧ sixI L p.1 = true) ∨ (addE L p = 13 ∧ addL L p = L ∧ sixI L p.1 = false ∧ fourI L p.2 = true) ∨ (addE L p = 13 ∧ addL L p = L ∧ sixI L p.1 = false ∧ fourI L p.2 = false) ∨ (addE L p = 5 ∧ addL L p = L ∧ sixI L p.1 = true) ∨ (addE L p = 5 ∧ addL L p = L ∧ sixI L p.1 = false ∧ fourI L p.2 = true) ∨ (addE L p = 6 ∧ addL L p = L ∧ sixI L p.1 = false ∧ fourI L p.2 = false) ∨ (addE L p = 0 ∧ (addL L p).length = L.length + 1 ∧ sixI L p.1 = false ∧ fourI L p.2 = false) := by
  have h0 : addE L p ≠ 0 → addL L p = L := fun h => by unfold addL; rw [if_neg h]
  have h1 : addE L p = 0 → (addL L p).length = L.length + 1 := fun h => by rw [addL_ok h, List.length_append]; rfl
  have hE : addE L p = if mart p = true then 13 else if (sixI L p.1 || fourI L p.2) = true then 5 else if 16 ≤ L.length then 6 else 0 := rfl
  cases hm : mart p <;> cases h6 : sixI L p.1 <;> cases h4 : fourI L p.2 <;> rw [hm, h6, h4] at hE <;> by_cases hl : 16 ≤ L.length <;> simp [hl] at hE <;> rw [hE] at h0 h1 <;> simp_all
theorem drop_len_one {L : Kv} {a : List UInt8} (hd : Ds L) (h : sixI L a = true) : (dropL L a).length + 1 = L.length := by
  induction L with
  | nil => cases h
  | cons x r ih =>
    have hc := List.pairwise_cons.1 hd
    by_cases hx : x.1 = a
    · have hr : sixI r a = false := by
        unfold sixI
        have : lk r a = none := lk_none.2 fun y hy e => (hc.1 y hy).1 (hx.trans e.symm)
        rw [this]; rfl
      have e : dropL (x :: r) a = dropL r a := by unfold dropL; rw [List.filter_cons_of_neg (by simpa using hx)]
      rw [e, drop_none hr]; rfl
    · have hr : sixI r a = true := by
        unfold sixI at h ⊢
        have e : lk (x :: r) a = lk r a := by show (if x.1 = a then some x.2 else lk r a) = _; rw [if_neg hx]
        rwa [e] at h
      have e : dropL (x :: r) a = x :: dropL r a := by unfold dropL; rw [List.filter_cons_of_pos (by simpa using hx)]
      rw [e]
      show (dropL r a).length + 1 + 1 = r.length + 1
      rw [ih hc.2 hr]
theorem drop_gone (L : Kv) (a : List UInt8) : sixI (dropL L a) a = false := by
  unfold sixI
  have : lk (dropL L a) a = none := lk_none.2 fun y hy e => by
    have := (List.mem_filter.1 hy).2
    simp [e] at this
  rw [this]; rfl
theorem ds_at {L : Kv} (h : Ds L) {m k : Nat} (hm : m < k) (hk : k < L.length) : (L[m]'(by omega)).1 ≠ L[k].1 ∧ (L[m]'(by omega)).2 ≠ L[k].2 := List.pairwise_iff_getElem.1 h m k (by omega) hk hm
set_option maxRecDepth 100000 in
set_option maxHeartbeats 8000000 in
theorem eamBack_any (v : Value) (ac : Acts) (w : World) (hA : As w v ac) (hm : Hm w) :
    Calls Tryd.prog 7 #[v] w fun e w' => e = .returned (.bool true) ∧ Below w.heap.size w w' := by
  have HAs : Hid (∀ W, Below w.heap.size w W → As W v ac) := Lib.hid (fun W hW => hA.below hW)
  have HM : Hid (∀ W, Below w.heap.size w W → Hm W) := Lib.hid (fun W hW => hm.below hW)
  have CA : Hid (∀ W, Below w.heap.size w W → Calls Tryd.prog 21 #[] W fun e w' => e = .returned (.bool true) ∧ Below W.heap.size W w') := Lib.hid (fun W hW => awake_true W (hm.below hW))
  obtain ⟨xo, xc, rfl, _, _⟩ := hA
  clear hm
  go_enter Tryd.func7, Tryd.ntmps7
  go_wp2_with fail
  refine (CA.out _ (Below.refl _ _)).mono ?_
  rintro e w1 ⟨rfl, hb1⟩
  have HB1 := Lib.hid hb1
  clear hb1 CA
  by_cases h200 : 200 < ac.length
  · have h2 : (200 : Int) < (ac.length : Int) := by omega
    clear h200
    go_wp2_with fail
    go_ret
    exact ⟨rfl, HB1.out⟩
  have h2 : ¬ (200 : Int) < (ac.length : Int) := by omega
  have hna : ac.length ≤ 200 := by omega
  clear h200
  have CN0 := Lib.hid (new_nil2 w1 (HM.out _ HB1.out))
  go_wp2_with fail
  refine (CN0.out).mono ?_
  rintro e w2 ⟨hb2, rfl, hT⟩
  have HB2 := Lib.hid (HB1.out.trans (hb2.mono HB1.out.size))
  have HT2 := Lib.hid hT
  have HZ4 : Hid (w.heap.size ≤ w1.heap.size) := Lib.hid HB1.out.size
  clear hb2 hT CN0 h2
  generalize w1.heap.size = tb at *
  go_wp2_with fail
  go_loopw [5] (fun i wr => ∃ (k : Nat) (L : Kv), k ≤ ac.length ∧ i = .int .i64 k ∧ Tb wr tb L ∧ Kp w w.heap.size [] wr) (fun i _ => ac.length - (intOf i).toNat)
  case atStart => exact ⟨0, [], Nat.zero_le _, rfl, HT2.out, ⟨fun y hy => (by cases hy), HB2.out, HB2.out.size⟩⟩
  case round =>
    obtain ⟨k, L, hk, rfl, ht, hkp⟩ := hrel
    have HK4 := Lib.hid hkp
    have HTk := Lib.hid ht
    clear ht hkp HT2
    by_cases hlt : k < ac.length
    · obtain ⟨_, _, hsh, _, hS⟩ := HAs.out _ HK4.out.2.1
      obtain ⟨hok, b2, o2, e2, hbl, hcd, hpr⟩ := hS k hlt
      obtain rfl : xo = some ⟨b2, o2, none⟩ := by
        cases hsh
        exact e2
      have HPo := Lib.hid hok
      generalize hda : ac[k].1 = d at *
      generalize hpa : ac[k].2 = p at *
      clear hda hpa hS hsh e2
      have HI_VF : Hid ((Tryd.prog.info? 36).map (·.size) = some (bu p.1).length) := Lib.hid (Tryd.infoU4 _ (HPo.out.1))
      have HO_VF : Hid ((bu p.1).toArray.all (·.oneCell') = true) := Lib.hid (bu_one _)
      have HL_VF : Hid ((bu p.1).length = 4) := Lib.hid (by rw [bu_len]; exact HPo.out.1)
      have HI_VX : Hid ((Tryd.prog.info? 23).map (·.size) = some (bu p.2).length) := Lib.hid (Tryd.infoU6 _ (HPo.out.2))
      have HO_VX : Hid ((bu p.2).toArray.all (·.oneCell') = true) := Lib.hid (bu_one _)
      have HL_VX : Hid ((bu p.2).length = 16) := Lib.hid (by rw [bu_len]; exact HPo.out.2)
      have HI_PV : Hid ((Tryd.prog.info? 38).map (·.size) = some (prv p).length) := Lib.hid (Tryd.infoP _ (HPo.out))
      have HO_PV : Hid ((prv p).toArray.all (·.oneCell') = true) := Lib.hid (prv_ones _)
      have HL_PV : Hid ((prv p).length = 20) := Lib.hid (prv_len (HPo.out))
      have HRp : Hid (∀ W g, Bk W g 38 (prv p).toArray → W.rangeAt g 0 (bu p.1) ∧ W.rangeAt g (0 + 4) (bu p.2)) := Lib.hid (fun W g h => ⟨range_f h.range, range_x h.range HPo.out⟩)
      have HCd : Hid (∀ W, Below wr.heap.size wr W → W.cell? ⟨b2, o2 + k * 21, none⟩ = some (.int .i64 d)) := Lib.hid (fun W hW => (hW.cell (show (⟨b2, o2 + k * 21, none⟩ : Addr).block < wr.heap.size from hbl)).trans hcd)
      have hk2 : (k : Int) < (ac.length : Int) := by omega
      have HNl := Lib.hid HTk.out.nl
      have hle := HNl.out.len
      have HWy := Lib.hid (add_ways L p)
      have HDr : Hid ((sixI L p.1 = true ∧ dropE L p.1 = 0 ∧ (dropL L p.1).length + 1 = L.length) ∨ (sixI L p.1 = false ∧ dropE L p.1 = 4 ∧ dropL L p.1 = L)) := Lib.hid (by
        cases h : sixI L p.1
        · exact .inr ⟨rfl, by unfold dropE; rw [h]; rfl, drop_none h⟩
        · exact .inl ⟨rfl, by unfold dropE; rw [h]; rfl, drop_len_one HNl.out.ds h⟩)
      have HGo := Lib.hid (drop_gone L p.1)
      have C2 : Hid (∀ W, Tb W tb L → Hm W → Calls Tryd.prog 17 #[.pointer (some ⟨tb, 0, none⟩), .agg (prv p).toArray] W fun e w' => e = .returned (.int .i64 (addE L p)) ∧ Tb w' tb (addL L p) ∧ W.grownBy w' (some tb)) := Lib.hid (fun W h hm => add_any tb L p W h HPo.out hm)
      have C4 : Hid (∀ W, Tb W tb L → Calls Tryd.prog 18 #[.pointer (some ⟨tb, 0, none⟩), .agg (bu p.1).toArray] W fun e w' => e = .returned (.int .i64 (dropE L p.1)) ∧ Tb w' tb (dropL L p.1) ∧ W.grownBy w' (some tb)) := Lib.hid (fun W h => drop_any tb L p.1 W h HPo.out.1)
      have CF := Lib.hid (fun W (h : Tb W tb L) => four_any tb L p.2 W h HPo.out.2)
      have CS := Lib.hid (fun W (h : Tb W tb L) => six_any tb L p.1 W h HPo.out.1)
      have CSD := Lib.hid (fun W (h : Tb W tb (dropL L p.1)) => six_any tb (dropL L p.1) p.1 W h HPo.out.1)
      rw [HGo.out] at CSD
      have CJ := Lib.hid (fun W N (h : Tb W tb N) => len_any tb N W h)
      have HND := Lib.hid (HNl.out.drop p.1)
      have HI_FA : Hid ((Tryd.prog.info? 36).map (·.size) = some (bu (fourA L p.2)).length) := Lib.hid (Tryd.infoU4 _ (fourA_len HNl.out _))
      have HO_FA : Hid ((bu (fourA L p.2)).toArray.all (·.oneCell') = true) := Lib.hid (bu_one _)
      have HL_FA : Hid ((bu (fourA L p.2)).length = 4) := Lib.hid (by rw [bu_len]; exact fourA_len HNl.out _)
      have HI_SX : Hid ((Tryd.prog.info? 23).map (·.size) = some (bu (sixA L p.1)).length) := Lib.hid (Tryd.infoU6 _ (sixA_len HNl.out _))
      have HO_SX : Hid ((bu (sixA L p.1)).toArray.all (·.oneCell') = true) := Lib.hid (bu_one _)
      have HL_SX : Hid ((bu (sixA L p.1)).length = 16) := Lib.hid (by rw [bu_len]; exact sixA_len HNl.out _)
      have HI_SY : Hid ((Tryd.prog.info? 23).map (·.size) = some (bu (sixA (dropL L p.1) p.1)).length) := Lib.hid (Tryd.infoU6 _ (sixA_len HND.out _))
      have HO_SY : Hid ((bu (sixA (dropL L p.1) p.1)).toArray.all (·.oneCell') = true) := Lib.hid (bu_one _)
      have HL_SY : Hid ((bu (sixA (dropL L p.1) p.1)).length = 16) := Lib.hid (by rw [bu_len]; exact sixA_len HND.out _)
      have hq1 := hpr
      have HZt : Hid (tb < wr.heap.size) := Lib.hid HTk.out.lt
      clear hpr hcd hok hbl HGo HND HNl
      generalize addE L p = AE at *
      generalize addL L p = LA at *
      generalize dropE L p.1 = DE at *
      generalize bu (sixA (dropL L p.1) p.1) = SY at *
      generalize dropL L p.1 = LD at *
      generalize sixI L p.1 = o6 at *
      generalize fourI L p.2 = o4 at *
      generalize bu (sixA L p.1) = SX at *
      generalize bu (fourA L p.2) = FA at *
      generalize bu p.1 = VF at *
      generalize bu p.2 = VX at *
      generalize hPV : prv p = PV at *
      clear hPV
      have ht := (bk_new wr 38 ([.int .u8 0, .int .u8 0, .int .u8 0, .int .u8 0, .int .u8 0, .int .u8 0, .int .u8 0, .int .u8 0, .int .u8 0, .int .u8 0, .int .u8 0, .int .u8 0, .int .u8 0, .int .u8 0, .int .u8 0, .int .u8 0, .int .u8 0, .int .u8 0, .int .u8 0, .int .u8 0] : List Value).toArray).there PV.toArray.size (by have := HL_PV.out; simp; omega)
      go_upto_region 12 with (first | (refine wpList_load_mid rfl 38 _ rfl b2 (o2 + k * 21 + 1) rfl PV _ hq1 Tryd.underlying38 rfl HI_PV.out ?_) | (refine wpList_store_mid rfl 38 _ _ rfl wr.heap.size 0 PV.toArray rfl rfl ht (by simpa using HI_PV.out) HO_PV.out ?_))
      have HK5 := Lib.hid (HK4.out.put 38 ([.int .u8 0, .int .u8 0, .int .u8 0, .int .u8 0, .int .u8 0, .int .u8 0, .int .u8 0, .int .u8 0, .int .u8 0, .int .u8 0, .int .u8 0, .int .u8 0, .int .u8 0, .int .u8 0, .int .u8 0, .int .u8 0, .int .u8 0, .int .u8 0, .int .u8 0, .int .u8 0] : List Value).toArray PV (by have := HL_PV.out; simp; omega))
      have HW5 : Hid (Below wr.heap.size wr ((wr.alloc (.cells ([.int .u8 0, .int .u8 0, .int .u8 0, .int .u8 0, .int .u8 0, .int .u8 0, .int .u8 0, .int .u8 0, .int .u8 0, .int .u8 0, .int .u8 0, .int .u8 0, .int .u8 0, .int .u8 0, .int .u8 0, .int .u8 0, .int .u8 0, .int .u8 0, .int .u8 0, .int .u8 0] : List Value).toArray 38)).setCells wr.heap.size 0 PV)) := Lib.hid (below_sets PV (Nat.le_refl _) 0 _ ((Below.refl _ _).alloc (Nat.le_refl _) _))
      clear ht hq1 HK4
      generalize (wr.alloc (.cells ([.int .u8 0, .int .u8 0, .int .u8 0, .int .u8 0, .int .u8 0, .int .u8 0, .int .u8 0, .int .u8 0, .int .u8 0, .int .u8 0, .int .u8 0, .int .u8 0, .int .u8 0, .int .u8 0, .int .u8 0, .int .u8 0, .int .u8 0, .int .u8 0, .int .u8 0, .int .u8 0] : List Value).toArray 38)).setCells wr.heap.size 0 PV = w5 at *
      have HT5 := Lib.hid (HTk.out.below HW5.out)
      have HCe : Hid (∀ W, Below w5.heap.size w5 W → W.cell? ⟨b2, o2 + k * 21, none⟩ = some (.int .i64 d)) := Lib.hid (fun W hW => HCd.out W (HW5.out.trans (hW.mono HW5.out.size)))
      have HGn : Hid (wr.heap.size ≠ tb) := Lib.hid (by have := HZt.out; omega)
      clear HTk HCd HZt HW5
      generalize wr.heap.size = g10 at *
      have T : Hid (∀ W, Below w5.heap.size w5 W → Tb W tb L) := Lib.hid (fun W hW => HT5.out.below hW)
      have HR5 := Lib.hid (Below.refl w5.heap.size w5)
      clear HT5
      go_wp2_with (fail)
      refine (CJ.out _ _ (T.out _ HR5.out)).mono ?_
      rintro e w9 ⟨rfl, rfl⟩
      have hr0 := (HRp.out _ _ HK5.out.hd).1
      go_wp2_with (((with_reducible (change wpList _ _ _ _ _ _)); ((refine wpList_load_mid rfl 36 _ rfl (g10) (0) rfl (VF) _ hr0 Tryd.underlying36 rfl HI_VF.out ?_))))
      clear hr0
      refine (CS.out _ (T.out _ HR5.out)).mono ?_
      rintro e w6 ⟨rfl, bb⟩
      have HK6 := Lib.hid (HK5.out.below bb (Nat.le_refl _))
      have HR6 := Lib.hid (HR5.out.trans (bb.mono HR5.out.size))
      clear bb HK5 HR5
      have hR := below_sets SX HR6.out.size 0 _ (HR6.out.alloc HR6.out.size (.cells ([.int .u8 0, .int .u8 0, .int .u8 0, .int .u8 0, .int .u8 0, .int .u8 0, .int .u8 0, .int .u8 0, .int .u8 0, .int .u8 0, .int .u8 0, .int .u8 0, .int .u8 0, .int .u8 0, .int .u8 0, .int .u8 0] : List Value).toArray 23))
      have HR7 := Lib.hid hR
      clear hR HR6
      have ht := (bk_new w6 23 ([.int .u8 0, .int .u8 0, .int .u8 0, .int .u8 0, .int .u8 0, .int .u8 0, .int .u8 0, .int .u8 0, .int .u8 0, .int .u8 0, .int .u8 0, .int .u8 0, .int .u8 0, .int .u8 0, .int .u8 0, .int .u8 0] : List Value).toArray).there SX.toArray.size (by have := HL_SX.out; simp; omega)
      go_upto_region 14 with (((with_reducible (change wpList _ _ _ _ _ _)); ((refine wpList_store_mid rfl 23 _ _ rfl w6.heap.size 0 SX.toArray rfl rfl ht (by simpa using HI_SX.out) HO_SX.out ?_))))
      have HK7 := Lib.hid (HK6.out.put 23 ([.int .u8 0, .int .u8 0, .int .u8 0, .int .u8 0, .int .u8 0, .int .u8 0, .int .u8 0, .int .u8 0, .int .u8 0, .int .u8 0, .int .u8 0, .int .u8 0, .int .u8 0, .int .u8 0, .int .u8 0, .int .u8 0] : List Value).toArray SX (by have := HL_SX.out; simp; omega))
      clear ht HK6
      generalize (w6.alloc (.cells ([.int .u8 0, .int .u8 0, .int .u8 0, .int .u8 0, .int .u8 0, .int .u8 0, .int .u8 0, .int .u8 0, .int .u8 0, .int .u8 0, .int .u8 0, .int .u8 0, .int .u8 0, .int .u8 0, .int .u8 0, .int .u8 0] : List Value).toArray 23)).setCells w6.heap.size 0 SX = w7 at *
      generalize w6.heap.size = g13 at *
      have hr0 := (HRp.out _ _ HK7.out.tl.hd).2
      go_wp2_with (((with_reducible (change wpList _ _ _ _ _ _)); ((refine wpList_load_mid rfl 23 _ rfl (g10) (0 + 4) rfl (VX) _ hr0 Tryd.underlying23 rfl HI_VX.out ?_))))
      clear hr0
      refine (CF.out _ (T.out _ HR7.out)).mono ?_
      rintro e w8 ⟨rfl, bb⟩
      have HK8 := Lib.hid (HK7.out.below bb (Nat.le_refl _))
      have HR8 := Lib.hid (HR7.out.trans (bb.mono HR7.out.size))
      clear bb HK7 HR7
      have hR := below_sets FA HR8.out.size 0 _ (HR8.out.alloc HR8.out.size (.cells ([.int .u8 0, .int .u8 0, .int .u8 0, .int .u8 0] : List Value).toArray 36))
      have HR9 := Lib.hid hR
      clear hR HR8
      have ht := (bk_new w8 36 ([.int .u8 0, .int .u8 0, .int .u8 0, .int .u8 0] : List Value).toArray).there FA.toArray.size (by have := HL_FA.out; simp; omega)
      go_upto_region 15 with (((with_reducible (change wpList _ _ _ _ _ _)); ((refine wpList_store_mid rfl 36 _ _ rfl w8.heap.size 0 FA.toArray rfl rfl ht (by simpa using HI_FA.out) HO_FA.out ?_))))
      have HK9 := Lib.hid (HK8.out.put 36 ([.int .u8 0, .int .u8 0, .int .u8 0, .int .u8 0] : List Value).toArray FA (by have := HL_FA.out; simp; omega))
      clear ht HK8
      generalize (w8.alloc (.cells ([.int .u8 0, .int .u8 0, .int .u8 0, .int .u8 0] : List Value).toArray 36)).setCells w8.heap.size 0 FA = w9 at *
      generalize w8.heap.size = g14 at *
      have hcd := HCe.out _ HR9.out
      have HKg : Hid (Kp w w.heap.size [(g10, 38, PV)] w9) := Lib.hid HK9.out.tl.tl
      have HT9 := Lib.hid (T.out _ HR9.out)
      clear HK9 HR9 T CF CS HCe
      have HK9 := HKg
      clear HKg
      rename ∀ (a : Act) (w : World), Code.wp _ (Code.block 2 _) _ a w → _ => hblk
      have HBK := Lib.hid hblk
      clear hblk
      go_wp2_with (fail)
      refine HBK.out _ _ ?_
      clear HBK hcd
      go_cut [7] from 38 to 240 (fun _ wc => ∃ N, Tb wc tb N ∧ Kp w w.heap.size [] wc)
      case first =>
        as_aux_lemma =>
          by_cases d0 : d = 0
          · subst d0
            have hr0 := HK9.out.hd.range
            go_wp2_with (((with_reducible (change wpList _ _ _ _ _ _)); ((refine wpList_load_mid rfl 38 _ rfl (g10) (0) rfl (PV) _ hr0 Tryd.underlying38 rfl HI_PV.out ?_))))
            clear hr0
            refine (C2.out _ HT9.out (HM.out _ HK9.out.2.1)).mono ?_
            rintro e w10 ⟨rfl, ht, hg⟩
            have HK10 := Lib.hid (HK9.out.grown hg (fun y hy h => HGn.out (by rw [List.mem_singleton.1 hy] at h; exact Option.some.inj h)) (fun j hj => by cases hj; exact HZ4.out))
            have HT10 := Lib.hid ht
            clear ht hg HK9 HT9
            have CL := Lib.hid (CJ.out w10 _ HT10.out)
            clear C2 C4 CSD HDr CJ
            rcases HWy.out with h | h | h | h | h | h | h
            · clear HWy
              obtain ⟨ha, hb, hc⟩ := h
              subst ha hc
              subst hb
              go_wp2_with fail
              refine (CL.out).mono ?_
              rintro e w11 ⟨rfl, rfl⟩
              go_wp2_with fail
              go_meet
              case rel => exact ⟨_, HT10.out, ⟨fun y hy => (by cases hy), HK10.out.2⟩⟩
            · clear HWy
              obtain ⟨ha, hb, hc, hd⟩ := h
              subst ha hc hd
              subst hb
              go_wp2_with fail
              refine (CL.out).mono ?_
              rintro e w11 ⟨rfl, rfl⟩
              go_wp2_with fail
              go_meet
              case rel => exact ⟨_, HT10.out, ⟨fun y hy => (by cases hy), HK10.out.2⟩⟩
            · clear HWy
              obtain ⟨ha, hb, hc, hd⟩ := h
              subst ha hc hd
              subst hb
              go_wp2_with fail
              refine (CL.out).mono ?_
              rintro e w11 ⟨rfl, rfl⟩
              go_wp2_with fail
              go_meet
              case rel => exact ⟨_, HT10.out, ⟨fun y hy => (by cases hy), HK10.out.2⟩⟩
            · clear HWy
              obtain ⟨ha, hb, hc⟩ := h
              subst ha hc
              subst hb
              go_wp2_with fail
              refine (CL.out).mono ?_
              rintro e w11 ⟨rfl, rfl⟩
              go_wp2_with fail
              go_meet
              case rel => exact ⟨_, HT10.out, ⟨fun y hy => (by cases hy), HK10.out.2⟩⟩
            · clear HWy
              obtain ⟨ha, hb, hc, hd⟩ := h
              subst ha hc hd
              subst hb
              go_wp2_with fail
              refine (CL.out).mono ?_
              rintro e w11 ⟨rfl, rfl⟩
              go_wp2_with fail
              go_meet
              case rel => exact ⟨_, HT10.out, ⟨fun y hy => (by cases hy), HK10.out.2⟩⟩
            · clear HWy
              obtain ⟨ha, hb, hc, hd⟩ := h
              subst ha hc hd
              subst hb
              go_wp2_with fail
              refine (CL.out).mono ?_
              rintro e w11 ⟨rfl, rfl⟩
              go_wp2_with fail
              go_meet
              case rel => exact ⟨_, HT10.out, ⟨fun y hy => (by cases hy), HK10.out.2⟩⟩
            · clear HWy
              obtain ⟨ha, hb, hc, hd⟩ := h
              subst ha hc hd
              rw [show (LA.length : Int) = (L.length : Int) + 1 by omega] at CL
              go_wp2_with fail
              refine (CL.out).mono ?_
              rintro e w11 ⟨rfl, rfl⟩
              go_wp2_with fail
              go_meet
              case rel => exact ⟨_, HT10.out, ⟨fun y hy => (by cases hy), HK10.out.2⟩⟩
          by_cases d1 : d = 1
          · subst d1
            have hd0 : ((1 : Int) == 0) = false := by decide
            clear d0
            have hr0 := (HRp.out _ _ HK9.out.hd).1
            go_wp2_with (((with_reducible (change wpList _ _ _ _ _ _)); ((refine wpList_load_mid rfl 36 _ rfl (g10) (0) rfl (VF) _ hr0 Tryd.underlying36 rfl HI_VF.out ?_))))
            clear hr0
            refine (C4.out _ HT9.out).mono ?_
            rintro e w10 ⟨rfl, ht, hg⟩
            have HK10 := Lib.hid (HK9.out.grown hg (fun y hy h => HGn.out (by rw [List.mem_singleton.1 hy] at h; exact Option.some.inj h)) (fun j hj => by cases hj; exact HZ4.out))
            have HT10 := Lib.hid ht
            clear ht hg HK9 HT9
            have T2 : Hid (∀ W, Below w10.heap.size w10 W → Tb W tb LD) := Lib.hid (fun W hW => HT10.out.below hW)
            have HR10 := Lib.hid (Below.refl w10.heap.size w10)
            clear HT10 C2 C4 HWy
            have hr0 := (HRp.out _ _ HK10.out.hd).1
            go_wp2_with (((with_reducible (change wpList _ _ _ _ _ _)); ((refine wpList_load_mid rfl 36 _ rfl (g10) (0) rfl (VF) _ hr0 Tryd.underlying36 rfl HI_VF.out ?_))))
            clear hr0
            refine (CSD.out _ (T2.out _ HR10.out)).mono ?_
            rintro e w11 ⟨rfl, bb⟩
            have HK11 := Lib.hid (HK10.out.below bb (Nat.le_refl _))
            have HR11 := Lib.hid (HR10.out.trans (bb.mono HR10.out.size))
            clear bb HK10 HR10
            have hR := below_sets SY HR11.out.size 0 _ (HR11.out.alloc HR11.out.size (.cells ([.int .u8 0, .int .u8 0, .int .u8 0, .int .u8 0, .int .u8 0, .int .u8 0, .int .u8 0, .int .u8 0, .int .u8 0, .int .u8 0, .int .u8 0, .int .u8 0, .int .u8 0, .int .u8 0, .int .u8 0, .int .u8 0] : List Value).toArray 23))
            have HR12 := Lib.hid hR
            clear hR HR11
            have ht := (bk_new w11 23 ([.int .u8 0, .int .u8 0, .int .u8 0, .int .u8 0, .int .u8 0, .int .u8 0, .int .u8 0, .int .u8 0, .int .u8 0, .int .u8 0, .int .u8 0, .int .u8 0, .int .u8 0, .int .u8 0, .int .u8 0, .int .u8 0] : List Value).toArray).there SY.toArray.size (by have := HL_SY.out; simp; omega)
            go_upto_region 23 with (((with_reducible (change wpList _ _ _ _ _ _)); ((refine wpList_store_mid rfl 23 _ _ rfl w11.heap.size 0 SY.toArray rfl rfl ht (by simpa using HI_SY.out) HO_SY.out ?_))))
            have HK12 := Lib.hid (HK11.out.put 23 ([.int .u8 0, .int .u8 0, .int .u8 0, .int .u8 0, .int .u8 0, .int .u8 0, .int .u8 0, .int .u8 0, .int .u8 0, .int .u8 0, .int .u8 0, .int .u8 0, .int .u8 0, .int .u8 0, .int .u8 0, .int .u8 0] : List Value).toArray SY (by have := HL_SY.out; simp; omega))
            clear ht HK11
            generalize (w11.alloc (.cells ([.int .u8 0, .int .u8 0, .int .u8 0, .int .u8 0, .int .u8 0, .int .u8 0, .int .u8 0, .int .u8 0, .int .u8 0, .int .u8 0, .int .u8 0, .int .u8 0, .int .u8 0, .int .u8 0, .int .u8 0, .int .u8 0] : List Value).toArray 23)).setCells w11.heap.size 0 SY = w12 at *
            generalize w11.heap.size = g15 at *
            have HT2 := Lib.hid (T2.out _ HR12.out)
            have CL := Lib.hid (CJ.out w12 _ HT2.out)
            rcases HDr.out with ⟨ha, hb, hc⟩ | ⟨ha, hb, hc⟩
            · subst ha hb
              have hLd : (L.length : Int) = (LD.length : Int) + 1 := by omega
              rw [hLd]
              have hq : ((LD.length : Int) != (LD.length : Int) + 1) = true := bne_iff_ne.2 (by omega)
              have hle2 : LD.length ≤ 16 := by omega
              clear HDr hLd
              go_wp2_with fail
              refine (CL.out).mono ?_
              rintro e w11 ⟨rfl, rfl⟩
              go_wp2_with fail
              refine (CL.out).mono ?_
              rintro e w12 ⟨rfl, rfl⟩
              go_wp2_with fail
              go_meet
              case rel => exact ⟨_, HT2.out, ⟨fun y hy => (by cases hy), HK12.out.2⟩⟩
            · subst ha hb
              subst hc
              clear HDr
              go_wp2_with fail
              refine (CL.out).mono ?_
              rintro e w11 ⟨rfl, rfl⟩
              go_wp2_with fail
              go_meet
              case rel => exact ⟨_, HT2.out, ⟨fun y hy => (by cases hy), HK12.out.2⟩⟩
          have hd0 : (d == 0) = false := by simpa using d0
          have hd1 : (d == 1) = false := by simpa using d1
          clear d0 d1
          go_wp2_with fail
          go_meet
          case rel => exact ⟨L, HT9.out, ⟨fun y hy => (by cases hy), HK9.out.2⟩⟩
      case rest =>
        obtain ⟨N, hT, hKc⟩ := hcut
        have HTc := Lib.hid hT
        have HKc := Lib.hid hKc
        have HNl := Lib.hid hT.nl
        have hlN := HNl.out.len
        clear hT hKc HK9 HT9 C2 C4 CSD HDr HWy hle hk2
        have CI := Lib.hid (all_any tb N wc HTc.out)
        go_wp2_with fail
        refine (CI.out).mono ?_
        rintro e w20 ⟨u8, rfl, hu8, hb⟩
        have HK20 : Hid (Kp w w.heap.size [] w20) := Lib.hid (HKc.out.below hb (Nat.le_refl _))
        have HT20 := Lib.hid (HTc.out.below hb)
        have HU := Lib.hid (own_rs hu8)
        obtain ⟨au, cu, rfl, _⟩ := own_shape hu8
        have T : Hid (∀ W, Below w20.heap.size w20 W → Tb W tb N) := Lib.hid (fun W hW => HT20.out.below hW)
        have U : Hid (∀ W, Below w20.heap.size w20 W → Rs W (.slice au N.length cu) N) := Lib.hid (fun W hW => HU.out.below hW)
        have CJ2 := Lib.hid (CJ.out w20 N HT20.out)
        clear hu8 hb CI HKc HTc HU HT20 CJ
        go_wp2_with fail
        refine (CJ2.out).mono ?_
        rintro e w21 ⟨rfl, rfl⟩
        have h16 : ¬ (16 : Int) < (N.length : Int) := by omega
        clear CJ2
        go_wp2_with fail
        clear h16
        go_loopw [17] (fun i wr => ∃ k2 : Nat, k2 ≤ N.length ∧ i = .int .i64 k2 ∧ Below w20.heap.size w20 wr) (fun i _ => N.length - (intOf i).toNat)
        case atStart => exact ⟨0, Nat.zero_le _, rfl, Below.refl _ _⟩
        case round =>
          as_aux_lemma =>
            obtain ⟨k2, hkk, rfl, hb⟩ := hrel
            have HB := Lib.hid hb
            clear hb
            by_cases hlt2 : k2 < N.length
            · obtain ⟨_, _, hsh, _, hS⟩ := (U.out _ (Below.refl _ _)).shape
              obtain ⟨b3, o3, e3, hbl, hr⟩ := hS k2 hlt2
              obtain rfl : au = some ⟨b3, o3, none⟩ := by
                cases hsh
                exact e3
              obtain ⟨q, hq⟩ : ∃ q, q = N[k2] := ⟨_, rfl⟩
              have HQm : Hid (q ∈ N) := Lib.hid (by rw [hq]; exact List.getElem_mem hlt2)
              have HOk := Lib.hid (HNl.out.ok q HQm.out)
              have HRg : Hid (∀ W m (hm : m < N.length), Below w20.heap.size w20 W → W.rangeAt b3 (o3 + m * 20) (prv N[m])) := Lib.hid (fun W m hm hW => range_below (range_el hr HNl.out.ok m hm) hbl hW)
              have HRf : Hid (∀ W, Below w20.heap.size w20 W → W.rangeAt b3 (o3 + k2 * 20) (bu q.1)) := Lib.hid (fun W hW => range_f (by rw [hq]; exact HRg.out W k2 hlt2 hW))
              have HRx : Hid (∀ W, Below w20.heap.size w20 W → W.rangeAt b3 (o3 + k2 * 20 + 4) (bu q.2)) := Lib.hid (fun W hW => range_x (by rw [hq]; exact HRg.out W k2 hlt2 hW) HOk.out)
              have C4 : Hid (∀ W, Below w20.heap.size w20 W → Calls Tryd.prog 25 #[.pointer (some ⟨tb, 0, none⟩), .agg (bu q.2).toArray] W fun e w' => e = .returned (.tuple #[.agg (bu q.1).toArray, .bool true]) ∧ Below W.heap.size W w') := Lib.hid (fun W hW => by
                have h := four_any tb N q.2 W (T.out W hW) HOk.out.2
                have e := four_of HNl.out.ds HQm.out
                rwa [e.1, e.2] at h)
              have C6 : Hid (∀ W, Below w20.heap.size w20 W → Calls Tryd.prog 16 #[.pointer (some ⟨tb, 0, none⟩), .agg (bu q.1).toArray] W fun e w' => e = .returned (.tuple #[.agg (bu q.2).toArray, .bool true]) ∧ Below W.heap.size W w') := Lib.hid (fun W hW => by
                have h := six_any tb N q.1 W (T.out W hW) HOk.out.1
                have e := six_of HNl.out.ds HQm.out
                rwa [e.1, e.2] at h)
              have HI_WF : Hid ((Tryd.prog.info? 36).map (·.size) = some (bu q.1).length) := Lib.hid (Tryd.infoU4 _ (HOk.out.1))
              have HO_WF : Hid ((bu q.1).toArray.all (·.oneCell') = true) := Lib.hid (bu_one _)
              have HL_WF : Hid ((bu q.1).length = 4) := Lib.hid (by rw [bu_len]; exact HOk.out.1)
              have HI_WX : Hid ((Tryd.prog.info? 23).map (·.size) = some (bu q.2).length) := Lib.hid (Tryd.infoU6 _ (HOk.out.2))
              have HO_WX : Hid ((bu q.2).toArray.all (·.oneCell') = true) := Lib.hid (bu_one _)
              have HL_WX : Hid ((bu q.2).length = 16) := Lib.hid (by rw [bu_len]; exact HOk.out.2)
              have hq4 : ∀ W, (binOp .neq 36 (.agg (bu q.1).toArray) (.agg (bu q.1).toArray)).run Tryd.prog W = .ok (.bool false) W := fun W => by
                have h := nequ4 q.1 q.1 HOk.out.1 HOk.out.1 W
                rwa [show (!decide (q.1 = q.1)) = false by simp] at h
              have hq6 : ∀ W, (binOp .neq 23 (.agg (bu q.2).toArray) (.agg (bu q.2).toArray)).run Tryd.prog W = .ok (.bool false) W := fun W => by
                have h := nequ6 q.2 q.2 HOk.out.2 HOk.out.2 W
                rwa [show (!decide (q.2 = q.2)) = false by simp] at h
              have HQ4 := Lib.hid hq4
              have HQ6 := Lib.hid hq6
              have HNe4 : Hid (∀ m (hm : m < k2) W, (binOp .eql 36 (.agg (bu (N[m]'(by omega)).1).toArray) (.agg (bu q.1).toArray)).run Tryd.prog W = .ok (.bool false) W) := Lib.hid (fun m hm W => by
                have h := equ4 (N[m]'(by omega)).1 q.1 (HNl.out.ok _ (List.getElem_mem _)).1 HOk.out.1 W
                rwa [show decide ((N[m]'(by omega)).1 = q.1) = false from decide_eq_false (by rw [hq]; exact (ds_at HNl.out.ds hm hlt2).1)] at h)
              have HNe6 : Hid (∀ m (hm : m < k2) W, (binOp .eql 23 (.agg (bu (N[m]'(by omega)).2).toArray) (.agg (bu q.2).toArray)).run Tryd.prog W = .ok (.bool false) W) := Lib.hid (fun m hm W => by
                have h := equ6 (N[m]'(by omega)).2 q.2 (HNl.out.ok _ (List.getElem_mem _)).2 HOk.out.2 W
                rwa [show decide ((N[m]'(by omega)).2 = q.2) = false from decide_eq_false (by rw [hq]; exact (ds_at HNl.out.ds hm hlt2).2)] at h)
              have hkN : (k2 : Int) < (N.length : Int) := by omega
              have HKw : Hid (Kp wr wr.heap.size [] wr) := Lib.hid (Kp.start wr)
              have HX : Hid (∀ W, Below wr.heap.size wr W → Below w20.heap.size w20 W) := Lib.hid (fun W hW => HB.out.trans (hW.mono HB.out.size))
              clear hr hsh hS hbl e3 hq hq4 hq6
              generalize bu q.1 = WF at *
              generalize bu q.2 = WX at *
              have hr0 := HRx.out _ HB.out
              go_wp2_with (((with_reducible (change wpList _ _ _ _ _ _)); ((refine wpList_load_mid rfl 23 _ rfl (b3) (o3 + k2 * 20 + 4) rfl (WX) _ hr0 Tryd.underlying23 rfl HI_WX.out ?_))))
              clear hr0
              refine (C4.out _ HB.out).mono ?_
              rintro e w25 ⟨rfl, bb⟩
              have HK25 := Lib.hid (HKw.out.below bb (Nat.le_refl _))
              clear bb HKw
              have ht := (bk_new w25 36 ([.int .u8 0, .int .u8 0, .int .u8 0, .int .u8 0] : List Value).toArray).there WF.toArray.size (by have := HL_WF.out; simp; omega)
              go_upto_region 32 with (((with_reducible (change wpList _ _ _ _ _ _)); ((refine wpList_store_mid rfl 36 _ _ rfl w25.heap.size 0 WF.toArray rfl rfl ht (by simpa using HI_WF.out) HO_WF.out ?_))))
              have HK26 := Lib.hid (HK25.out.put 36 ([.int .u8 0, .int .u8 0, .int .u8 0, .int .u8 0] : List Value).toArray WF (by have := HL_WF.out; simp; omega))
              clear ht HK25
              generalize (w25.alloc (.cells ([.int .u8 0, .int .u8 0, .int .u8 0, .int .u8 0] : List Value).toArray 36)).setCells w25.heap.size 0 WF = w26 at *
              generalize w25.heap.size = g18 at *
              have hr0 := HRf.out _ (HX.out _ HK26.out.2.1)
              go_wp2_with (((with_reducible (change wpList _ _ _ _ _ _)); ((refine wpList_load_mid rfl 36 _ rfl (b3) (o3 + k2 * 20) rfl (WF) _ hr0 Tryd.underlying36 rfl HI_WF.out ?_))))
              clear hr0
              refine (C6.out _ (HX.out _ HK26.out.2.1)).mono ?_
              rintro e w27 ⟨rfl, bb⟩
              have HK27 := Lib.hid (HK26.out.below bb (Nat.le_refl _))
              clear bb HK26
              have ht := (bk_new w27 23 ([.int .u8 0, .int .u8 0, .int .u8 0, .int .u8 0, .int .u8 0, .int .u8 0, .int .u8 0, .int .u8 0, .int .u8 0, .int .u8 0, .int .u8 0, .int .u8 0, .int .u8 0, .int .u8 0, .int .u8 0, .int .u8 0] : List Value).toArray).there WX.toArray.size (by have := HL_WX.out; simp; omega)
              go_upto_region 33 with (((with_reducible (change wpList _ _ _ _ _ _)); ((refine wpList_store_mid rfl 23 _ _ rfl w27.heap.size 0 WX.toArray rfl rfl ht (by simpa using HI_WX.out) HO_WX.out ?_))))
              have HK28 := Lib.hid (HK27.out.put 23 ([.int .u8 0, .int .u8 0, .int .u8 0, .int .u8 0, .int .u8 0, .int .u8 0, .int .u8 0, .int .u8 0, .int .u8 0, .int .u8 0, .int .u8 0, .int .u8 0, .int .u8 0, .int .u8 0, .int .u8 0, .int .u8 0] : List Value).toArray WX (by have := HL_WX.out; simp; omega))
              clear ht HK27
              generalize (w27.alloc (.cells ([.int .u8 0, .int .u8 0, .int .u8 0, .int .u8 0, .int .u8 0, .int .u8 0, .int .u8 0, .int .u8 0, .int .u8 0, .int .u8 0, .int .u8 0, .int .u8 0, .int .u8 0, .int .u8 0, .int .u8 0, .int .u8 0] : List Value).toArray 23)).setCells w27.heap.size 0 WX = w28 at *
              generalize w27.heap.size = g20 at *
              have hq4 := HQ4.out
              have hq6 := HQ6.out
              go_upto_region 33 with (fail)
              have HKE := HK28
              clear HK28
              refine wp_region_noPanic ?_
              refine wp_region_held_drew (S := fun W => Kp wr wr.heap.size [(g20, 23, WX), (g18, 36, WF)] W ∧ W.rangeAt b3 (o3 + k2 * 20) WF ∧ W.rangeAt b3 (o3 + k2 * 20 + 4) WX) (by kernel_rfl) (⟨HKE.out.drew, HRf.out _ (HX.out _ HKE.out.2.1.drew), HRx.out _ (HX.out _ HKE.out.2.1.drew)⟩) (fun hHeld => ?_)
              refine wpAnyH_take (i := 0) (oi := { dst := some 188, op := Op.move (Operand.tmp 19), type := 4, pos := "outright.go:45", after := #[], guard := none }) (v := ?_) rfl (by kernel_rfl) (by kernel_rfl) (by kernel_rfl) (fun _ _ _ h => h) (Or.inl ⟨by rfl, ?_⟩) (by assumption) ?_
              rotate_left
              · (intro ww hSw; (try dsimp only at hSw); go_simp; try with_reducible rfl)
              (try simp only [Act.put, List.setIfInBounds_toArray, List.set_cons_zero, List.set_cons_succ])
              refine wpAnyH_take (i := 1) (oi := { dst := some 189, op := Op.unOp UnOp.not 4 (Operand.tmp 188), type := 4, pos := "outright.go:45", after := #[{ on := 0, ground := Ground.data }], guard := none }) (v := ?_) rfl (by kernel_rfl) (by kernel_rfl) (by kernel_rfl) (fun _ _ _ h => h) (Or.inl ⟨by rfl, ?_⟩) (by assumption) ?_
              rotate_left
              · (intro ww hSw; (try dsimp only at hSw); go_simp; try with_reducible rfl)
              (try simp only [Act.put, List.setIfInBounds_toArray, List.set_cons_zero, List.set_cons_succ])
              refine wpAnyH_take (i := 2) (oi := { dst := some 190, op := Op.move (Operand.tmp 189), type := 4, pos := "outright.go:45", after := #[{ on := 1, ground := Ground.data }], guard := none }) (v := ?_) rfl (by kernel_rfl) (by kernel_rfl) (by kernel_rfl) (fun _ _ _ h => h) (Or.inl ⟨by rfl, ?_⟩) (by assumption) ?_
              rotate_left
              · (intro ww hSw; (try dsimp only at hSw); go_simp; try with_reducible rfl)
              (try simp only [Act.put, List.setIfInBounds_toArray, List.set_cons_zero, List.set_cons_succ])
              refine wpAnyH_take (i := 3) (oi := { dst := some 191, op := Op.move (Operand.tmp 21), type := 4, pos := "outright.go:45", after := #[{ on := 2, ground := Ground.guard }], guard := some (2, false) }) (v := ?_) rfl (by kernel_rfl) (by kernel_rfl) (by kernel_rfl) (fun _ _ _ h => h) (Or.inl ⟨by rfl, ?_⟩) (by assumption) ?_
              rotate_left
              · (intro ww hSw; (try dsimp only at hSw); go_simp; try with_reducible rfl)
              (try simp only [Act.put, List.setIfInBounds_toArray, List.set_cons_zero, List.set_cons_succ])
              refine wpAnyH_take (i := 4) (oi := { dst := some 192, op := Op.unOp UnOp.not 4 (Operand.tmp 191), type := 4, pos := "outright.go:45", after := #[{ on := 3, ground := Ground.data }, { on := 2, ground := Ground.guard }], guard := some (2, false) }) (v := ?_) rfl (by kernel_rfl) (by kernel_rfl) (by kernel_rfl) (fun _ _ _ h => h) (Or.inl ⟨by rfl, ?_⟩) (by assumption) ?_
              rotate_left
              · (intro ww hSw; (try dsimp only at hSw); go_simp; try with_reducible rfl)
              (try simp only [Act.put, List.setIfInBounds_toArray, List.set_cons_zero, List.set_cons_succ])
              refine wpAnyH_take (i := 5) (oi := { dst := some 193, op := Op.pick (Operand.tmp 190) (Operand.const (Value.bool true)) (Operand.tmp 192), type := 4, pos := "outright.go:45", after := #[{ on := 2, ground := Ground.data }, { on := 4, ground := Ground.data }], guard := none }) (v := ?_) rfl (by kernel_rfl) (by kernel_rfl) (by kernel_rfl) (fun _ _ _ h => h) (Or.inl ⟨by rfl, ?_⟩) (by assumption) ?_
              rotate_left
              · (intro ww hSw; (try dsimp only at hSw); go_simp; try with_reducible rfl)
              (try simp only [Act.put, List.setIfInBounds_toArray, List.set_cons_zero, List.set_cons_succ])
              refine wpAnyH_take (i := 6) (oi := { dst := some 194, op := Op.move (Operand.tmp 193), type := 4, pos := "outright.go:45", after := #[{ on := 5, ground := Ground.data }, { on := 2, ground := Ground.chain }], guard := none }) (v := ?_) rfl (by kernel_rfl) (by kernel_rfl) (by kernel_rfl) (fun _ _ _ h => h) (Or.inl ⟨by rfl, ?_⟩) (by assumption) ?_
              rotate_left
              · (intro ww hSw; (try dsimp only at hSw); go_simp; try with_reducible rfl)
              (try simp only [Act.put, List.setIfInBounds_toArray, List.set_cons_zero, List.set_cons_succ])
              refine wpAnyH_take (i := 7) (oi := { dst := some 195, op := Op.load 36 (Operand.tmp 18), type := 36, pos := "outright.go:45", after := #[{ on := 6, ground := Ground.guard }], guard := some (6, false) }) (v := .agg (WF).toArray) rfl (by kernel_rfl) (by kernel_rfl) (by kernel_rfl) (fun _ _ _ h => h) (yieldsIf_load_mid (by rfl) _ _ rfl (g18) 0 rfl (WF) _ (fun ww hSw => hSw.1.tl.hd.range) Tryd.underlying36 rfl HI_WF.out) (by assumption) ?_
              (try simp only [Act.put, List.setIfInBounds_toArray, List.set_cons_zero, List.set_cons_succ])
              refine wpAnyH_take (i := 8) (oi := { dst := some 196, op := Op.move (Operand.tmp 16), type := 40, pos := "outright.go:45", after := #[{ on := 6, ground := Ground.guard }], guard := some (6, false) }) (v := ?_) rfl (by kernel_rfl) (by kernel_rfl) (by kernel_rfl) (fun _ _ _ h => h) (Or.inl ⟨by rfl, ?_⟩) (by assumption) ?_
              rotate_left
              · (intro ww hSw; (try dsimp only at hSw); go_simp; try with_reducible rfl)
              (try simp only [Act.put, List.setIfInBounds_toArray, List.set_cons_zero, List.set_cons_succ])
              refine wpAnyH_take (i := 9) (oi := { dst := some 197, op := Op.move (Operand.tmp 17), type := 3, pos := "outright.go:45", after := #[{ on := 6, ground := Ground.guard }], guard := some (6, false) }) (v := ?_) rfl (by kernel_rfl) (by kernel_rfl) (by kernel_rfl) (fun _ _ _ h => h) (Or.inl ⟨by rfl, ?_⟩) (by assumption) ?_
              rotate_left
              · (intro ww hSw; (try dsimp only at hSw); go_simp; try with_reducible rfl)
              (try simp only [Act.put, List.setIfInBounds_toArray, List.set_cons_zero, List.set_cons_succ])
              refine wpAnyH_take (i := 10) (oi := { dst := some 198, op := Op.indexAddr 40 (Operand.tmp 196) (Operand.tmp 197), type := 0, pos := "outright.go:45", after := #[{ on := 8, ground := Ground.data }, { on := 9, ground := Ground.data }, { on := 6, ground := Ground.guard }], guard := some (6, false) }) (v := ?_) rfl (by kernel_rfl) (by kernel_rfl) (by kernel_rfl) (fun _ _ _ h => h) (Or.inl ⟨by rfl, ?_⟩) (by assumption) ?_
              rotate_left
              · (intro ww hSw; (try dsimp only at hSw); go_simp; try with_reducible rfl)
              (try simp only [Act.put, List.setIfInBounds_toArray, List.set_cons_zero, List.set_cons_succ])
              refine wpAnyH_take (i := 11) (oi := { dst := some 199, op := Op.fieldAddr 38 (Operand.tmp 198) 0, type := 0, pos := "outright.go:45", after := #[{ on := 10, ground := Ground.data }, { on := 6, ground := Ground.guard }], guard := some (6, false) }) (v := ?_) rfl (by kernel_rfl) (by kernel_rfl) (by kernel_rfl) (fun _ _ _ h => h) (Or.inl ⟨by rfl, ?_⟩) (by assumption) ?_
              rotate_left
              · (intro ww hSw; (try dsimp only at hSw); go_simp; try with_reducible rfl)
              (try simp only [Act.put, List.setIfInBounds_toArray, List.set_cons_zero, List.set_cons_succ])
              refine wpAnyH_take (i := 12) (oi := { dst := some 200, op := Op.load 36 (Operand.tmp 199), type := 36, pos := "outright.go:45", after := #[{ on := 11, ground := Ground.data }, { on := 6, ground := Ground.guard }], guard := some (6, false) }) (v := .agg (WF).toArray) rfl (by kernel_rfl) (by kernel_rfl) (by kernel_rfl) (fun _ _ _ h => h) (yieldsIf_load_mid (by rfl) _ _ rfl (b3) (o3 + k2 * 20) rfl (WF) _ (fun ww hSw => hSw.2.1) Tryd.underlying36 rfl HI_WF.out) (by assumption) ?_
              (try simp only [Act.put, List.setIfInBounds_toArray, List.set_cons_zero, List.set_cons_succ])
              refine wpAnyH_take (i := 13) (oi := { dst := some 201, op := Op.binOp BinOp.neq 36 (Operand.tmp 195) (Operand.tmp 200) 36, type := 4, pos := "outright.go:45", after := #[{ on := 7, ground := Ground.data }, { on := 12, ground := Ground.data }, { on := 6, ground := Ground.guard }], guard := some (6, false) }) (v := .bool false) rfl (by kernel_rfl) (by kernel_rfl) (by kernel_rfl) (fun _ _ _ h => h) (Or.inl ⟨by rfl, (by intro ww hSw; go_simp)⟩) (by assumption) ?_
              (try simp only [Act.put, List.setIfInBounds_toArray, List.set_cons_zero, List.set_cons_succ])
              refine wpAnyH_take (i := 14) (oi := { dst := some 202, op := Op.pick (Operand.tmp 194) (Operand.const (Value.bool true)) (Operand.tmp 201), type := 4, pos := "outright.go:45", after := #[{ on := 6, ground := Ground.data }, { on := 13, ground := Ground.data }], guard := none }) (v := ?_) rfl (by kernel_rfl) (by kernel_rfl) (by kernel_rfl) (fun _ _ _ h => h) (Or.inl ⟨by rfl, ?_⟩) (by assumption) ?_
              rotate_left
              · (intro ww hSw; (try dsimp only at hSw); go_simp; try with_reducible rfl)
              (try simp only [Act.put, List.setIfInBounds_toArray, List.set_cons_zero, List.set_cons_succ])
              refine wpAnyH_take (i := 15) (oi := { dst := some 203, op := Op.move (Operand.tmp 202), type := 4, pos := "outright.go:45", after := #[{ on := 14, ground := Ground.data }, { on := 6, ground := Ground.chain }], guard := none }) (v := ?_) rfl (by kernel_rfl) (by kernel_rfl) (by kernel_rfl) (fun _ _ _ h => h) (Or.inl ⟨by rfl, ?_⟩) (by assumption) ?_
              rotate_left
              · (intro ww hSw; (try dsimp only at hSw); go_simp; try with_reducible rfl)
              (try simp only [Act.put, List.setIfInBounds_toArray, List.set_cons_zero, List.set_cons_succ])
              refine wpAnyH_take (i := 16) (oi := { dst := some 204, op := Op.load 23 (Operand.tmp 20), type := 23, pos := "outright.go:45", after := #[{ on := 15, ground := Ground.guard }], guard := some (15, false) }) (v := .agg (WX).toArray) rfl (by kernel_rfl) (by kernel_rfl) (by kernel_rfl) (fun _ _ _ h => h) (yieldsIf_load_mid (by rfl) _ _ rfl (g20) 0 rfl (WX) _ (fun ww hSw => hSw.1.hd.range) Tryd.underlying23 rfl HI_WX.out) (by assumption) ?_
              (try simp only [Act.put, List.setIfInBounds_toArray, List.set_cons_zero, List.set_cons_succ])
              refine wpAnyH_take (i := 17) (oi := { dst := some 205, op := Op.move (Operand.tmp 16), type := 40, pos := "outright.go:45", after := #[{ on := 15, ground := Ground.guard }], guard := some (15, false) }) (v := ?_) rfl (by kernel_rfl) (by kernel_rfl) (by kernel_rfl) (fun _ _ _ h => h) (Or.inl ⟨by rfl, ?_⟩) (by assumption) ?_
              rotate_left
              · (intro ww hSw; (try dsimp only at hSw); go_simp; try with_reducible rfl)
              (try simp only [Act.put, List.setIfInBounds_toArray, List.set_cons_zero, List.set_cons_succ])
              refine wpAnyH_take (i := 18) (oi := { dst := some 206, op := Op.move (Operand.tmp 17), type := 3, pos := "outright.go:45", after := #[{ on := 15, ground := Ground.guard }], guard := some (15, false) }) (v := ?_) rfl (by kernel_rfl) (by kernel_rfl) (by kernel_rfl) (fun _ _ _ h => h) (Or.inl ⟨by rfl, ?_⟩) (by assumption) ?_
              rotate_left
              · (intro ww hSw; (try dsimp only at hSw); go_simp; try with_reducible rfl)
              (try simp only [Act.put, List.setIfInBounds_toArray, List.set_cons_zero, List.set_cons_succ])
              refine wpAnyH_take (i := 19) (oi := { dst := some 207, op := Op.indexAddr 40 (Operand.tmp 205) (Operand.tmp 206), type := 0, pos := "outright.go:45", after := #[{ on := 17, ground := Ground.data }, { on := 18, ground := Ground.data }, { on := 15, ground := Ground.guard }], guard := some (15, false) }) (v := ?_) rfl (by kernel_rfl) (by kernel_rfl) (by kernel_rfl) (fun _ _ _ h => h) (Or.inl ⟨by rfl, ?_⟩) (by assumption) ?_
              rotate_left
              · (intro ww hSw; (try dsimp only at hSw); go_simp; try with_reducible rfl)
              (try simp only [Act.put, List.setIfInBounds_toArray, List.set_cons_zero, List.set_cons_succ])
              refine wpAnyH_take (i := 20) (oi := { dst := some 208, op := Op.fieldAddr 38 (Operand.tmp 207) 1, type := 0, pos := "outright.go:45", after := #[{ on := 19, ground := Ground.data }, { on := 15, ground := Ground.guard }], guard := some (15, false) }) (v := ?_) rfl (by kernel_rfl) (by kernel_rfl) (by kernel_rfl) (fun _ _ _ h => h) (Or.inl ⟨by rfl, ?_⟩) (by assumption) ?_
              rotate_left
              · (intro ww hSw; (try dsimp only at hSw); go_simp; try with_reducible rfl)
              (try simp only [Act.put, List.setIfInBounds_toArray, List.set_cons_zero, List.set_cons_succ])
              refine wpAnyH_take (i := 21) (oi := { dst := some 209, op := Op.load 23 (Operand.tmp 208), type := 23, pos := "outright.go:45", after := #[{ on := 20, ground := Ground.data }, { on := 15, ground := Ground.guard }], guard := some (15, false) }) (v := .agg (WX).toArray) rfl (by kernel_rfl) (by kernel_rfl) (by kernel_rfl) (fun _ _ _ h => h) (yieldsIf_load_mid (by rfl) _ _ rfl (b3) (o3 + k2 * 20 + 4) rfl (WX) _ (fun ww hSw => hSw.2.2) Tryd.underlying23 rfl HI_WX.out) (by assumption) ?_
              (try simp only [Act.put, List.setIfInBounds_toArray, List.set_cons_zero, List.set_cons_succ])
              refine wpAnyH_take (i := 22) (oi := { dst := some 210, op := Op.binOp BinOp.neq 23 (Operand.tmp 204) (Operand.tmp 209) 23, type := 4, pos := "outright.go:45", after := #[{ on := 16, ground := Ground.data }, { on := 21, ground := Ground.data }, { on := 15, ground := Ground.guard }], guard := some (15, false) }) (v := .bool false) rfl (by kernel_rfl) (by kernel_rfl) (by kernel_rfl) (fun _ _ _ h => h) (Or.inl ⟨by rfl, (by intro ww hSw; go_simp)⟩) (by assumption) ?_
              (try simp only [Act.put, List.setIfInBounds_toArray, List.set_cons_zero, List.set_cons_succ])
              refine wpAnyH_take (i := 23) (oi := { dst := some 211, op := Op.pick (Operand.tmp 203) (Operand.const (Value.bool true)) (Operand.tmp 210), type := 4, pos := "outright.go:45", after := #[{ on := 15, ground := Ground.data }, { on := 22, ground := Ground.data }], guard := none }) (v := ?_) rfl (by kernel_rfl) (by kernel_rfl) (by kernel_rfl) (fun _ _ _ h => h) (Or.inl ⟨by rfl, ?_⟩) (by assumption) ?_
              rotate_left
              · (intro ww hSw; (try dsimp only at hSw); go_simp; try with_reducible rfl)
              (try simp only [Act.put, List.setIfInBounds_toArray, List.set_cons_zero, List.set_cons_succ])
              refine wpAnyH_done (by kernel_rfl) ?_ _
              refine NoPanic.normal ?_
              have HBN := Lib.hid (HX.out _ hHeld.1.2.1)
              clear hHeld hq4 hq6 HKE HQ4 HQ6 HX C4 C6
              go_wp2_with fail
              go_loopw [22] (fun i wr3 => ∃ m : Nat, m ≤ k2 ∧ i = .int .i64 m ∧ Below w20.heap.size w20 wr3) (fun i _ => k2 - (intOf i).toNat)
              case atStart => exact ⟨0, Nat.zero_le _, rfl, HBN.out⟩
              case round =>
                obtain ⟨m, hm, rfl, hb3⟩ := hrel
                have HB3 := Lib.hid hb3
                clear hb3
                by_cases hlt3 : m < k2
                · have hmN : m < N.length := by omega
                  have HOm := Lib.hid (HNl.out.ok N[m] (List.getElem_mem hmN))
                  have HMf : Hid (∀ W, Below w20.heap.size w20 W → W.rangeAt b3 (o3 + m * 20) (bu N[m].1)) := Lib.hid (fun W hW => range_f (HRg.out W m hmN hW))
                  have HMx : Hid (∀ W, Below w20.heap.size w20 W → W.rangeAt b3 (o3 + m * 20 + 4) (bu N[m].2)) := Lib.hid (fun W hW => range_x (HRg.out W m hmN hW) HOm.out)
                  have HI_MF : Hid ((Tryd.prog.info? 36).map (·.size) = some (bu N[m].1).length) := Lib.hid (Tryd.infoU4 _ (HOm.out.1))
                  have HO_MF : Hid ((bu N[m].1).toArray.all (·.oneCell') = true) := Lib.hid (bu_one _)
                  have HL_MF : Hid ((bu N[m].1).length = 4) := Lib.hid (by rw [bu_len]; exact HOm.out.1)
                  have HI_MX : Hid ((Tryd.prog.info? 23).map (·.size) = some (bu N[m].2).length) := Lib.hid (Tryd.infoU6 _ (HOm.out.2))
                  have HO_MX : Hid ((bu N[m].2).toArray.all (·.oneCell') = true) := Lib.hid (bu_one _)
                  have HL_MX : Hid ((bu N[m].2).length = 16) := Lib.hid (by rw [bu_len]; exact HOm.out.2)
                  have hq4 := HNe4.out m hlt3
                  have hq6 := HNe6.out m hlt3
                  have hi1 : (m : Int) < (k2 : Int) := by omega
                  have hi2 : (m : Int) < (N.length : Int) := by omega
                  generalize bu N[m].1 = MF at *
                  generalize bu N[m].2 = MX at *
                  go_upto_region 38 with (fail)
                  refine wp_region_noPanic ?_
                  refine wp_region_held_drew (S := fun W => Below w20.heap.size w20 W) (by kernel_rfl) (HB3.out.drew) (fun hHeld => ?_)
                  refine wpAnyH_take (i := 0) (oi := { dst := some 217, op := Op.move (Operand.tmp 16), type := 40, pos := "outright.go:49", after := #[], guard := none }) (v := ?_) rfl (by kernel_rfl) (by kernel_rfl) (by kernel_rfl) (fun _ _ _ h => h) (Or.inl ⟨by rfl, ?_⟩) (by assumption) ?_
                  rotate_left
                  · (intro ww hSw; (try dsimp only at hSw); go_simp; try with_reducible rfl)
                  (try simp only [Act.put, List.setIfInBounds_toArray, List.set_cons_zero, List.set_cons_succ])
                  refine wpAnyH_take (i := 1) (oi := { dst := some 218, op := Op.move (Operand.tmp 22), type := 3, pos := "outright.go:49", after := #[], guard := none }) (v := ?_) rfl (by kernel_rfl) (by kernel_rfl) (by kernel_rfl) (fun _ _ _ h => h) (Or.inl ⟨by rfl, ?_⟩) (by assumption) ?_
                  rotate_left
                  · (intro ww hSw; (try dsimp only at hSw); go_simp; try with_reducible rfl)
                  (try simp only [Act.put, List.setIfInBounds_toArray, List.set_cons_zero, List.set_cons_succ])
                  refine wpAnyH_take (i := 2) (oi := { dst := some 219, op := Op.indexAddr 40 (Operand.tmp 217) (Operand.tmp 218), type := 0, pos := "outright.go:49", after := #[{ on := 0, ground := Ground.data }, { on := 1, ground := Ground.data }], guard := none }) (v := ?_) rfl (by kernel_rfl) (by kernel_rfl) (by kernel_rfl) (fun _ _ _ h => h) (Or.inl ⟨by rfl, ?_⟩) (by assumption) ?_
                  rotate_left
                  · (intro ww hSw; (try dsimp only at hSw); go_simp; try with_reducible rfl)
                  (try simp only [Act.put, List.setIfInBounds_toArray, List.set_cons_zero, List.set_cons_succ])
                  refine wpAnyH_take (i := 3) (oi := { dst := some 220, op := Op.fieldAddr 38 (Operand.tmp 219) 0, type := 0, pos := "outright.go:49", after := #[{ on := 2, ground := Ground.data }], guard := none }) (v := ?_) rfl (by kernel_rfl) (by kernel_rfl) (by kernel_rfl) (fun _ _ _ h => h) (Or.inl ⟨by rfl, ?_⟩) (by assumption) ?_
                  rotate_left
                  · (intro ww hSw; (try dsimp only at hSw); go_simp; try with_reducible rfl)
                  (try simp only [Act.put, List.setIfInBounds_toArray, List.set_cons_zero, List.set_cons_succ])
                  refine wpAnyH_take (i := 4) (oi := { dst := some 221, op := Op.load 36 (Operand.tmp 220), type := 36, pos := "outright.go:49", after := #[{ on := 3, ground := Ground.data }], guard := none }) (v := .agg (MF).toArray) rfl (by kernel_rfl) (by kernel_rfl) (by kernel_rfl) (fun _ _ _ h => h) (yieldsIf_load_mid (by rfl) _ _ rfl (b3) (o3 + m * 20) rfl (MF) _ (fun ww hSw => HMf.out _ hSw) Tryd.underlying36 rfl HI_MF.out) (by assumption) ?_
                  (try simp only [Act.put, List.setIfInBounds_toArray, List.set_cons_zero, List.set_cons_succ])
                  refine wpAnyH_take (i := 5) (oi := { dst := some 222, op := Op.move (Operand.tmp 16), type := 40, pos := "outright.go:49", after := #[], guard := none }) (v := ?_) rfl (by kernel_rfl) (by kernel_rfl) (by kernel_rfl) (fun _ _ _ h => h) (Or.inl ⟨by rfl, ?_⟩) (by assumption) ?_
                  rotate_left
                  · (intro ww hSw; (try dsimp only at hSw); go_simp; try with_reducible rfl)
                  (try simp only [Act.put, List.setIfInBounds_toArray, List.set_cons_zero, List.set_cons_succ])
                  refine wpAnyH_take (i := 6) (oi := { dst := some 223, op := Op.move (Operand.tmp 17), type := 3, pos := "outright.go:49", after := #[], guard := none }) (v := ?_) rfl (by kernel_rfl) (by kernel_rfl) (by kernel_rfl) (fun _ _ _ h => h) (Or.inl ⟨by rfl, ?_⟩) (by assumption) ?_
                  rotate_left
                  · (intro ww hSw; (try dsimp only at hSw); go_simp; try with_reducible rfl)
                  (try simp only [Act.put, List.setIfInBounds_toArray, List.set_cons_zero, List.set_cons_succ])
                  refine wpAnyH_take (i := 7) (oi := { dst := some 224, op := Op.indexAddr 40 (Operand.tmp 222) (Operand.tmp 223), type := 0, pos := "outright.go:49", after := #[{ on := 5, ground := Ground.data }, { on := 6, ground := Ground.data }], guard := none }) (v := ?_) rfl (by kernel_rfl) (by kernel_rfl) (by kernel_rfl) (fun _ _ _ h => h) (Or.inl ⟨by rfl, ?_⟩) (by assumption) ?_
                  rotate_left
                  · (intro ww hSw; (try dsimp only at hSw); go_simp; try with_reducible rfl)
                  (try simp only [Act.put, List.setIfInBounds_toArray, List.set_cons_zero, List.set_cons_succ])
                  refine wpAnyH_take (i := 8) (oi := { dst := some 225, op := Op.fieldAddr 38 (Operand.tmp 224) 0, type := 0, pos := "outright.go:49", after := #[{ on := 7, ground := Ground.data }], guard := none }) (v := ?_) rfl (by kernel_rfl) (by kernel_rfl) (by kernel_rfl) (fun _ _ _ h => h) (Or.inl ⟨by rfl, ?_⟩) (by assumption) ?_
                  rotate_left
                  · (intro ww hSw; (try dsimp only at hSw); go_simp; try with_reducible rfl)
                  (try simp only [Act.put, List.setIfInBounds_toArray, List.set_cons_zero, List.set_cons_succ])
                  refine wpAnyH_take (i := 9) (oi := { dst := some 226, op := Op.load 36 (Operand.tmp 225), type := 36, pos := "outright.go:49", after := #[{ on := 8, ground := Ground.data }], guard := none }) (v := .agg (WF).toArray) rfl (by kernel_rfl) (by kernel_rfl) (by kernel_rfl) (fun _ _ _ h => h) (yieldsIf_load_mid (by rfl) _ _ rfl (b3) (o3 + k2 * 20) rfl (WF) _ (fun ww hSw => HRf.out _ hSw) Tryd.underlying36 rfl HI_WF.out) (by assumption) ?_
                  (try simp only [Act.put, List.setIfInBounds_toArray, List.set_cons_zero, List.set_cons_succ])
                  refine wpAnyH_take (i := 10) (oi := { dst := some 227, op := Op.binOp BinOp.eql 36 (Operand.tmp 221) (Operand.tmp 226) 36, type := 4, pos := "outright.go:49", after := #[{ on := 4, ground := Ground.data }, { on := 9, ground := Ground.data }], guard := none }) (v := .bool false) rfl (by kernel_rfl) (by kernel_rfl) (by kernel_rfl) (fun _ _ _ h => h) (Or.inl ⟨by rfl, (by intro ww hSw; go_simp)⟩) (by assumption) ?_
                  (try simp only [Act.put, List.setIfInBounds_toArray, List.set_cons_zero, List.set_cons_succ])
                  refine wpAnyH_take (i := 11) (oi := { dst := some 228, op := Op.move (Operand.tmp 227), type := 4, pos := "outright.go:49", after := #[{ on := 10, ground := Ground.data }], guard := none }) (v := ?_) rfl (by kernel_rfl) (by kernel_rfl) (by kernel_rfl) (fun _ _ _ h => h) (Or.inl ⟨by rfl, ?_⟩) (by assumption) ?_
                  rotate_left
                  · (intro ww hSw; (try dsimp only at hSw); go_simp; try with_reducible rfl)
                  (try simp only [Act.put, List.setIfInBounds_toArray, List.set_cons_zero, List.set_cons_succ])
                  refine wpAnyH_take (i := 12) (oi := { dst := some 229, op := Op.move (Operand.tmp 16), type := 40, pos := "outright.go:49", after := #[{ on := 11, ground := Ground.guard }], guard := some (11, false) }) (v := ?_) rfl (by kernel_rfl) (by kernel_rfl) (by kernel_rfl) (fun _ _ _ h => h) (Or.inl ⟨by rfl, ?_⟩) (by assumption) ?_
                  rotate_left
                  · (intro ww hSw; (try dsimp only at hSw); go_simp; try with_reducible rfl)
                  (try simp only [Act.put, List.setIfInBounds_toArray, List.set_cons_zero, List.set_cons_succ])
                  refine wpAnyH_take (i := 13) (oi := { dst := some 230, op := Op.move (Operand.tmp 22), type := 3, pos := "outright.go:49", after := #[{ on := 11, ground := Ground.guard }], guard := some (11, false) }) (v := ?_) rfl (by kernel_rfl) (by kernel_rfl) (by kernel_rfl) (fun _ _ _ h => h) (Or.inl ⟨by rfl, ?_⟩) (by assumption) ?_
                  rotate_left
                  · (intro ww hSw; (try dsimp only at hSw); go_simp; try with_reducible rfl)
                  (try simp only [Act.put, List.setIfInBounds_toArray, List.set_cons_zero, List.set_cons_succ])
                  refine wpAnyH_take (i := 14) (oi := { dst := some 231, op := Op.indexAddr 40 (Operand.tmp 229) (Operand.tmp 230), type := 0, pos := "outright.go:49", after := #[{ on := 12, ground := Ground.data }, { on := 13, ground := Ground.data }, { on := 11, ground := Ground.guard }], guard := some (11, false) }) (v := ?_) rfl (by kernel_rfl) (by kernel_rfl) (by kernel_rfl) (fun _ _ _ h => h) (Or.inl ⟨by rfl, ?_⟩) (by assumption) ?_
                  rotate_left
                  · (intro ww hSw; (try dsimp only at hSw); go_simp; try with_reducible rfl)
                  (try simp only [Act.put, List.setIfInBounds_toArray, List.set_cons_zero, List.set_cons_succ])
                  refine wpAnyH_take (i := 15) (oi := { dst := some 232, op := Op.fieldAddr 38 (Operand.tmp 231) 1, type := 0, pos := "outright.go:49", after := #[{ on := 14, ground := Ground.data }, { on := 11, ground := Ground.guard }], guard := some (11, false) }) (v := ?_) rfl (by kernel_rfl) (by kernel_rfl) (by kernel_rfl) (fun _ _ _ h => h) (Or.inl ⟨by rfl, ?_⟩) (by assumption) ?_
                  rotate_left
                  · (intro ww hSw; (try dsimp only at hSw); go_simp; try with_reducible rfl)
                  (try simp only [Act.put, List.setIfInBounds_toArray, List.set_cons_zero, List.set_cons_succ])
                  refine wpAnyH_take (i := 16) (oi := { dst := some 233, op := Op.load 23 (Operand.tmp 232), type := 23, pos := "outright.go:49", after := #[{ on := 15, ground := Ground.data }, { on := 11, ground := Ground.guard }], guard := some (11, false) }) (v := .agg (MX).toArray) rfl (by kernel_rfl) (by kernel_rfl) (by kernel_rfl) (fun _ _ _ h => h) (yieldsIf_load_mid (by rfl) _ _ rfl (b3) (o3 + m * 20 + 4) rfl (MX) _ (fun ww hSw => HMx.out _ hSw) Tryd.underlying23 rfl HI_MX.out) (by assumption) ?_
                  (try simp only [Act.put, List.setIfInBounds_toArray, List.set_cons_zero, List.set_cons_succ])
                  refine wpAnyH_take (i := 17) (oi := { dst := some 234, op := Op.move (Operand.tmp 16), type := 40, pos := "outright.go:49", after := #[{ on := 11, ground := Ground.guard }], guard := some (11, false) }) (v := ?_) rfl (by kernel_rfl) (by kernel_rfl) (by kernel_rfl) (fun _ _ _ h => h) (Or.inl ⟨by rfl, ?_⟩) (by assumption) ?_
                  rotate_left
                  · (intro ww hSw; (try dsimp only at hSw); go_simp; try with_reducible rfl)
                  (try simp only [Act.put, List.setIfInBounds_toArray, List.set_cons_zero, List.set_cons_succ])
                  refine wpAnyH_take (i := 18) (oi := { dst := some 235, op := Op.move (Operand.tmp 17), type := 3, pos := "outright.go:49", after := #[{ on := 11, ground := Ground.guard }], guard := some (11, false) }) (v := ?_) rfl (by kernel_rfl) (by kernel_rfl) (by kernel_rfl) (fun _ _ _ h => h) (Or.inl ⟨by rfl, ?_⟩) (by assumption) ?_
                  rotate_left
                  · (intro ww hSw; (try dsimp only at hSw); go_simp; try with_reducible rfl)
                  (try simp only [Act.put, List.setIfInBounds_toArray, List.set_cons_zero, List.set_cons_succ])
                  refine wpAnyH_take (i := 19) (oi := { dst := some 236, op := Op.indexAddr 40 (Operand.tmp 234) (Operand.tmp 235), type := 0, pos := "outright.go:49", after := #[{ on := 17, ground := Ground.data }, { on := 18, ground := Ground.data }, { on := 11, ground := Ground.guard }], guard := some (11, false) }) (v := ?_) rfl (by kernel_rfl) (by kernel_rfl) (by kernel_rfl) (fun _ _ _ h => h) (Or.inl ⟨by rfl, ?_⟩) (by assumption) ?_
                  rotate_left
                  · (intro ww hSw; (try dsimp only at hSw); go_simp; try with_reducible rfl)
                  (try simp only [Act.put, List.setIfInBounds_toArray, List.set_cons_zero, List.set_cons_succ])
                  refine wpAnyH_take (i := 20) (oi := { dst := some 237, op := Op.fieldAddr 38 (Operand.tmp 236) 1, type := 0, pos := "outright.go:49", after := #[{ on := 19, ground := Ground.data }, { on := 11, ground := Ground.guard }], guard := some (11, false) }) (v := ?_) rfl (by kernel_rfl) (by kernel_rfl) (by kernel_rfl) (fun _ _ _ h => h) (Or.inl ⟨by rfl, ?_⟩) (by assumption) ?_
                  rotate_left
                  · (intro ww hSw; (try dsimp only at hSw); go_simp; try with_reducible rfl)
                  (try simp only [Act.put, List.setIfInBounds_toArray, List.set_cons_zero, List.set_cons_succ])
                  refine wpAnyH_take (i := 21) (oi := { dst := some 238, op := Op.load 23 (Operand.tmp 237), type := 23, pos := "outright.go:49", after := #[{ on := 20, ground := Ground.data }, { on := 11, ground := Ground.guard }], guard := some (11, false) }) (v := .agg (WX).toArray) rfl (by kernel_rfl) (by kernel_rfl) (by kernel_rfl) (fun _ _ _ h => h) (yieldsIf_load_mid (by rfl) _ _ rfl (b3) (o3 + k2 * 20 + 4) rfl (WX) _ (fun ww hSw => HRx.out _ hSw) Tryd.underlying23 rfl HI_WX.out) (by assumption) ?_
                  (try simp only [Act.put, List.setIfInBounds_toArray, List.set_cons_zero, List.set_cons_succ])
                  refine wpAnyH_take (i := 22) (oi := { dst := some 239, op := Op.binOp BinOp.eql 23 (Operand.tmp 233) (Operand.tmp 238) 23, type := 4, pos := "outright.go:49", after := #[{ on := 16, ground := Ground.data }, { on := 21, ground := Ground.data }, { on := 11, ground := Ground.guard }], guard := some (11, false) }) (v := .bool false) rfl (by kernel_rfl) (by kernel_rfl) (by kernel_rfl) (fun _ _ _ h => h) (Or.inl ⟨by rfl, (by intro ww hSw; go_simp)⟩) (by assumption) ?_
                  (try simp only [Act.put, List.setIfInBounds_toArray, List.set_cons_zero, List.set_cons_succ])
                  refine wpAnyH_take (i := 23) (oi := { dst := some 240, op := Op.pick (Operand.tmp 228) (Operand.const (Value.bool true)) (Operand.tmp 239), type := 4, pos := "outright.go:49", after := #[{ on := 11, ground := Ground.data }, { on := 22, ground := Ground.data }], guard := none }) (v := ?_) rfl (by kernel_rfl) (by kernel_rfl) (by kernel_rfl) (fun _ _ _ h => h) (Or.inl ⟨by rfl, ?_⟩) (by assumption) ?_
                  rotate_left
                  · (intro ww hSw; (try dsimp only at hSw); go_simp; try with_reducible rfl)
                  (try simp only [Act.put, List.setIfInBounds_toArray, List.set_cons_zero, List.set_cons_succ])
                  refine wpAnyH_done (by kernel_rfl) ?_ _
                  refine NoPanic.normal ?_
                  have HBm := Lib.hid hHeld
                  clear hHeld hq4 hq6
                  go_wp2_with fail
                  go_roundw
                  case rel => exact ⟨m + 1, hlt3, by go_num, HBm.out⟩
                  case measure => simp [intOf]; omega
                · obtain rfl : m = k2 := by omega
                  go_wp2_with fail
                  go_roundw
                  case rel => exact ⟨m + 1, hlt2, by go_num, HB3.out⟩
                  case measure => simp [intOf]; omega
            · obtain rfl : k2 = N.length := by omega
              have HBZ := Lib.hid (HK20.out.2.1.trans (HB.out.mono HK20.out.2.2))
              go_wp2_with fail
              go_roundw
              case rel => exact ⟨k + 1, N, hlt, by go_num, T.out _ HB.out, fun y hy => (by cases hy), HBZ.out, HBZ.out.size⟩
              case measure => simp [intOf]; omega
    · obtain rfl : k = ac.length := by omega
      go_wp2_with fail
      go_ret
      exact ⟨rfl, HK4.out.2.1⟩
end Go.Proofs.YtchdagdmbjpmcaaDoor
