/-
  Proved here: the law EamPlays answers true.
  Conditions: slices that read as pairs and as acts; the program's lists of martian addresses stand.
-/
import Derived.Test.YtchdagdmbjpmcaaDoorGd
import Derived.Test.YtchdagdmbjpmcaaDoorOpn
namespace Go.Proofs.YtchdagdmbjpmcaaDoor
open Go.RowKit

theorem new_nil (w : World) (hm : Hm w) : Calls Tryd.prog 14 #[.slice none 0 0] w fun e w' => Below w.heap.size w w' ∧ e = .returned (.tuple #[.pointer (some ⟨w.heap.size, 0, none⟩), .int .i64 0]) ∧ Tb w' w.heap.size [] := by
  refine (new_any (.slice none 0 0) [] w (.inl ⟨rfl, rfl⟩) okPs_nil (Nat.zero_le _) hm).mono ?_
  rintro e w' ⟨h1, ⟨_, h2, h3⟩ | ⟨h2, _⟩⟩
  · exact ⟨h1, h2, h3⟩
  · exact absurd rfl h2
set_option maxRecDepth 100000 in
set_option maxHeartbeats 8000000 in
theorem eamPlays_any (v : Value) (l : Kv) (x : Value) (ac : Acts) (w : World) (hR : Rs w v l) (hl : okPs l) (hA : As w x ac) (hm : Hm w) :
    Calls Tryd.prog 5 #[v, x] w fun e w' => e = .returned (.bool true) ∧ Below w.heap.size w w' := by
  have HR : Hid (∀ W, Below w.heap.size w W → Rs W v l) := Lib.hid (fun W hW => hR.below hW)
  have HAs : Hid (∀ W, Below w.heap.size w W → As W x ac) := Lib.hid (fun W hW => hA.below hW)
  have HL := Lib.hid hl
  have HM : Hid (∀ W, Below w.heap.size w W → Hm W) := Lib.hid (fun W hW => hm.below hW)
  have CA : Hid (∀ W, Below w.heap.size w W → Calls Tryd.prog 21 #[] W fun e w' => e = .returned (.bool true) ∧ Below W.heap.size W w') := Lib.hid (fun W hW => awake_true W (hm.below hW))
  obtain ⟨ao, cap, rfl, _, _⟩ := hR.shape
  obtain ⟨xo, xc, rfl, _, _⟩ := hA
  clear hR hl hm
  go_enter Tryd.func5, Tryd.ntmps5
  go_wp2_with fail
  refine (CA.out _ (Below.refl _ _)).mono ?_
  rintro e w1 ⟨rfl, hb1⟩
  have HB1 := Lib.hid hb1
  clear hb1 CA
  by_cases h100 : 100 < l.length
  · have h1 : (100 : Int) < (l.length : Int) := by omega
    clear h100
    go_wp2_with fail
    go_ret
    exact ⟨rfl, HB1.out⟩
  have h1 : ¬ (100 : Int) < (l.length : Int) := by omega
  have hn : l.length ≤ 100 := by omega
  clear h100
  by_cases h200 : 200 < ac.length
  · have h2 : (200 : Int) < (ac.length : Int) := by omega
    clear h200
    go_wp2_with fail
    go_ret
    exact ⟨rfl, HB1.out⟩
  have h2 : ¬ (200 : Int) < (ac.length : Int) := by omega
  have hna : ac.length ≤ 200 := by omega
  clear h200
  have CN := Lib.hid (new_any (.slice ao l.length cap) l w1 (HR.out _ HB1.out) HL.out (by omega) (HM.out _ HB1.out))
  go_wp2_with fail
  refine (CN.out).mono ?_
  rintro e w2 ⟨hb2, hcase⟩
  have HB2 := Lib.hid (HB1.out.trans (hb2.mono HB1.out.size))
  have HZ2 := Lib.hid hb2.size
  have CR := Lib.hid (rnew_any (.slice ao l.length cap) l w2 (HR.out _ HB2.out) HL.out (by omega))
  clear hb2 CN
  rcases hcase with ⟨h0, rfl, hT⟩ | ⟨h0, rfl⟩
  · have HT2 := Lib.hid hT
    rw [h0] at CR
    have HG := Lib.hid h0
    clear hT h0
    go_wp2_with fail
    refine (CR.out).mono ?_
    rintro e w3 ⟨hb3, u, rfl, ho⟩
    have HB3 := Lib.hid (HB2.out.trans (hb3.mono HB2.out.size))
    have HT3 := Lib.hid (HT2.out.below hb3)
    have HO3 := Lib.hid ho
    have HZ3 := Lib.hid (Nat.lt_of_lt_of_le HT2.out.lt hb3.size)
    have HZ4 : Hid (w.heap.size ≤ w1.heap.size) := Lib.hid HB1.out.size
    obtain ⟨au, cu, rfl, _⟩ := own_shape ho
    clear hb3 ho CR HT2 HG
    generalize newL l = L0 at *
    generalize w1.heap.size = tb at *
    clear h1 h2
    go_wp2_with fail
    go_loopw [7, 9] (fun u i wr => ∃ (k : Nat) (L : Kv), k ≤ ac.length ∧ i = .int .i64 k ∧ Tb wr tb L ∧ Od wr u L ∧ Kp w w.heap.size [] wr) (fun _ i _ => ac.length - (intOf i).toNat)
    case atStart => exact ⟨0, L0, Nat.zero_le _, rfl, HT3.out, HO3.out, ⟨fun y hy => (by cases hy), HB3.out, HB3.out.size⟩⟩
    case round =>
      obtain ⟨k, L, hk, rfl, ht, ho, hkp⟩ := hrel
      have HK4 := Lib.hid hkp
      have HTk := Lib.hid ht
      have HOk := Lib.hid ho
      obtain ⟨au4, cu4, rfl, _⟩ := own_shape ho
      clear ht ho hkp HT3 HO3
      by_cases hlt : k < ac.length
      · skip
        obtain ⟨_, _, hsh, _, hS⟩ := HAs.out _ HK4.out.2.1
        obtain ⟨hok, b2, o2, e2, hbl, hcd, hpr⟩ := hS k hlt
        obtain rfl : xo = some ⟨b2, o2, none⟩ := by
          cases hsh
          exact e2
        have HPo := Lib.hid hok
        have HBl : Hid (b2 < w.heap.size ∨ True) := Lib.hid (.inr trivial)
        generalize hda : ac[k].1 = d at *
        generalize hpa : ac[k].2 = p at *
        clear hda hpa hS hsh e2 HBl
        have HI_VF : Hid ((Tryd.prog.info? 36).map (·.size) = some (bu p.1).length) := Lib.hid (Tryd.infoU4 _ (HPo.out.1))
        have HO_VF : Hid ((bu p.1).toArray.all (·.oneCell') = true) := Lib.hid (bu_one _)
        have HL_VF : Hid ((bu p.1).length = 4) := Lib.hid (by rw [bu_len]; exact HPo.out.1)
        have HI_VX : Hid ((Tryd.prog.info? 23).map (·.size) = some (bu p.2).length) := Lib.hid (Tryd.infoU6 _ (HPo.out.2))
        have HO_VX : Hid ((bu p.2).toArray.all (·.oneCell') = true) := Lib.hid (bu_one _)
        have HL_VX : Hid ((bu p.2).length = 16) := Lib.hid (by rw [bu_len]; exact HPo.out.2)
        have HI_PV : Hid ((Tryd.prog.info? 38).map (·.size) = some (prv p).length) := Lib.hid (Tryd.infoP _ (HPo.out))
        have HO_PV : Hid ((prv p).toArray.all (·.oneCell') = true) := Lib.hid (prv_ones _)
        have HL_PV : Hid ((prv p).length = 20) := Lib.hid (prv_len (HPo.out))
        have HRp : Hid (∀ W g, Bk W g 38 (prv p).toArray → W.rangeAt g 0 (bu p.1) ∧ W.rangeAt g (0 + 4) (bu p.2)) := Lib.hid (fun W g h => ⟨range_f h.range, range_x h.range HPo.out⟩)
        have HCd : Hid (∀ W, Below wr.heap.size wr W → W.cell? ⟨b2, o2 + k * 21, none⟩ = some (.int .i64 d)) := Lib.hid (fun W hW => (hW.cell (show (⟨b2, o2 + k * 21, none⟩ : Addr).block < wr.heap.size from hbl)).trans hcd)
        have hk2 : (k : Int) < (ac.length : Int) := by omega
        have C1 : Hid (∀ W, Od W (.slice au4 L.length cu4) L → Calls Tryd.prog 23 #[.slice au4 L.length cu4, .agg (prv p).toArray] W fun e w' => ∃ u, e = .returned (.tuple #[u, .int .i64 (addE L p)]) ∧ Od w' u (addL L p) ∧ Below W.heap.size W w') := Lib.hid (fun W h => radd_any _ L p W h HTk.out.nl.ok HTk.out.nl.len HPo.out)
        have C2 : Hid (∀ W, Tb W tb L → Hm W → Calls Tryd.prog 17 #[.pointer (some ⟨tb, 0, none⟩), .agg (prv p).toArray] W fun e w' => e = .returned (.int .i64 (addE L p)) ∧ Tb w' tb (addL L p) ∧ W.grownBy w' (some tb)) := Lib.hid (fun W h hm => add_any tb L p W h HPo.out hm)
        have C3 : Hid (∀ W, Od W (.slice au4 L.length cu4) L → Calls Tryd.prog 24 #[.slice au4 L.length cu4, .agg (bu p.1).toArray] W fun e w' => ∃ u, e = .returned (.tuple #[u, .int .i64 (dropE L p.1)]) ∧ Od w' u (dropL L p.1) ∧ Below W.heap.size W w') := Lib.hid (fun W h => rdrop_any _ L p.1 W h HTk.out.nl.ok HTk.out.nl.len HPo.out.1)
        have C4 : Hid (∀ W, Tb W tb L → Calls Tryd.prog 18 #[.pointer (some ⟨tb, 0, none⟩), .agg (bu p.1).toArray] W fun e w' => e = .returned (.int .i64 (dropE L p.1)) ∧ Tb w' tb (dropL L p.1) ∧ W.grownBy w' (some tb)) := Lib.hid (fun W h => drop_any tb L p.1 W h HPo.out.1)
        have CF := Lib.hid (fun W N (h : Tb W tb N) => four_any tb N p.2 W h HPo.out.2)
        have CS := Lib.hid (fun W N (h : Tb W tb N) => six_any tb N p.1 W h HPo.out.1)
        have CG := Lib.hid (fun W u N (h : Od W u N) (hn : Nl N) => rfour_any u N p.2 W h.rs hn.ok (by have := hn.len; omega) HPo.out.2)
        have CH := Lib.hid (fun W u N (h : Od W u N) (hn : Nl N) => rsix_any u N p.1 W h.rs hn.ok (by have := hn.len; omega) HPo.out.1)
        have CI := Lib.hid (fun W N (h : Tb W tb N) => all_any tb N W h)
        have CJ := Lib.hid (fun W N (h : Tb W tb N) => len_any tb N W h)
        have hq1 := hpr
        have HZt : Hid (tb < wr.heap.size) := Lib.hid HTk.out.lt
        clear hpr hcd hok hbl
        generalize addE L p = AE at *
        generalize dropE L p.1 = DE at *
        generalize addL L p = LA at *
        generalize dropL L p.1 = LD at *
        generalize bu p.1 = VF at *
        generalize bu p.2 = VX at *
        generalize hPV : prv p = PV at *
        clear hPV
        have ht := (bk_new wr 38 ([.int .u8 0, .int .u8 0, .int .u8 0, .int .u8 0, .int .u8 0, .int .u8 0, .int .u8 0, .int .u8 0, .int .u8 0, .int .u8 0, .int .u8 0, .int .u8 0, .int .u8 0, .int .u8 0, .int .u8 0, .int .u8 0, .int .u8 0, .int .u8 0, .int .u8 0, .int .u8 0] : List Value).toArray).there PV.toArray.size (by have := HL_PV.out; simp; omega)
        go_upto_region 18 with (first | (refine wpList_load_mid rfl 38 _ rfl b2 (o2 + k * 21 + 1) rfl PV _ hq1 Tryd.underlying38 rfl HI_PV.out ?_) | (refine wpList_store_mid rfl 38 _ _ rfl wr.heap.size 0 PV.toArray rfl rfl ht (by simpa using HI_PV.out) HO_PV.out ?_))
        have HK5 := Lib.hid (HK4.out.put 38 ([.int .u8 0, .int .u8 0, .int .u8 0, .int .u8 0, .int .u8 0, .int .u8 0, .int .u8 0, .int .u8 0, .int .u8 0, .int .u8 0, .int .u8 0, .int .u8 0, .int .u8 0, .int .u8 0, .int .u8 0, .int .u8 0, .int .u8 0, .int .u8 0, .int .u8 0, .int .u8 0] : List Value).toArray PV (by have := HL_PV.out; simp; omega))
        have HW5 : Hid (Below wr.heap.size wr ((wr.alloc (.cells ([.int .u8 0, .int .u8 0, .int .u8 0, .int .u8 0, .int .u8 0, .int .u8 0, .int .u8 0, .int .u8 0, .int .u8 0, .int .u8 0, .int .u8 0, .int .u8 0, .int .u8 0, .int .u8 0, .int .u8 0, .int .u8 0, .int .u8 0, .int .u8 0, .int .u8 0, .int .u8 0] : List Value).toArray 38)).setCells wr.heap.size 0 PV)) := Lib.hid (below_sets PV (Nat.le_refl _) 0 _ ((Below.refl _ _).alloc (Nat.le_refl _) _))
        clear ht hq1 HK4
        generalize (wr.alloc (.cells ([.int .u8 0, .int .u8 0, .int .u8 0, .int .u8 0, .int .u8 0, .int .u8 0, .int .u8 0, .int .u8 0, .int .u8 0, .int .u8 0, .int .u8 0, .int .u8 0, .int .u8 0, .int .u8 0, .int .u8 0, .int .u8 0, .int .u8 0, .int .u8 0, .int .u8 0, .int .u8 0] : List Value).toArray 38)).setCells wr.heap.size 0 PV = w5 at *
        have HT5 := Lib.hid (HTk.out.below HW5.out)
        have HO5 := Lib.hid (HOk.out.below HW5.out)
        have hcd := HCd.out _ HW5.out
        have HGn : Hid (wr.heap.size ≠ tb) := Lib.hid (by have := HZt.out; omega)
        clear HTk HOk HCd
        generalize wr.heap.size = g10 at *
        by_cases d0 : d = 0
        · subst d0
          have hr0 := HK5.out.hd.range
          go_wp2_with (((with_reducible (change wpList _ _ _ _ _ _)); ((refine wpList_load_mid rfl 38 _ rfl (g10) (0) rfl (PV) _ hr0 Tryd.underlying38 rfl HI_PV.out ?_))))
          clear hr0
          refine (C1.out _ HO5.out).mono ?_
          rintro e w6 ⟨u6, rfl, ho6, hb6⟩
          have HK6 := Lib.hid (HK5.out.below hb6 (Nat.le_refl _))
          have HT6 := Lib.hid (HT5.out.below hb6)
          have HO6 := Lib.hid ho6
          obtain ⟨au6, cu6, rfl, _⟩ := own_shape ho6
          clear hb6 ho6 HK5 HT5 HO5
          have hr0 := HK6.out.hd.range
          go_wp2_with (((with_reducible (change wpList _ _ _ _ _ _)); ((refine wpList_load_mid rfl 38 _ rfl (g10) (0) rfl (PV) _ hr0 Tryd.underlying38 rfl HI_PV.out ?_))))
          clear hr0 hcd
          refine (C2.out _ HT6.out (HM.out _ HK6.out.2.1)).mono ?_
          rintro e w7 ⟨rfl, ht7, hg7⟩
          have HK7 := Lib.hid (HK6.out.grown hg7 (fun y hy h => HGn.out (by rw [List.mem_singleton.1 hy] at h; exact Option.some.inj h)) (fun j hj => by cases hj; exact HZ4.out))
          have HTn := Lib.hid ht7
          have HOn := Lib.hid (HO6.out.other HT6.out hg7)
          clear ht7 hg7 HK6 HT6 HO6
          have qa : (AE != AE) = false := by simp
          go_upto_region 29 with (fail)
          clear qa
          have HNl := Lib.hid HTn.out.nl
          have T : Hid (∀ W, Below w7.heap.size w7 W → Tb W tb LA) := Lib.hid (fun W hW => HTn.out.below hW)
          have O : Hid (∀ W, Below w7.heap.size w7 W → Od W (.slice au6 LA.length cu6) LA) := Lib.hid (fun W hW => HOn.out.below hW)
          have HR7 := Lib.hid (Below.refl w7.heap.size w7)
          have HI_FA : Hid ((Tryd.prog.info? 36).map (·.size) = some (bu (fourA LA p.2)).length) := Lib.hid (Tryd.infoU4 _ (fourA_len HNl.out _))
          have HO_FA : Hid ((bu (fourA LA p.2)).toArray.all (·.oneCell') = true) := Lib.hid (bu_one _)
          have HL_FA : Hid ((bu (fourA LA p.2)).length = 4) := Lib.hid (by rw [bu_len]; exact fourA_len HNl.out _)
          have HI_SX : Hid ((Tryd.prog.info? 23).map (·.size) = some (bu (sixA LA p.1)).length) := Lib.hid (Tryd.infoU6 _ (sixA_len HNl.out _))
          have HO_SX : Hid ((bu (sixA LA p.1)).toArray.all (·.oneCell') = true) := Lib.hid (bu_one _)
          have HL_SX : Hid ((bu (sixA LA p.1)).length = 16) := Lib.hid (by rw [bu_len]; exact sixA_len HNl.out _)
          have hq4 : ∀ W, (binOp .neq 36 (.agg (bu (fourA LA p.2)).toArray) (.agg (bu (fourA LA p.2)).toArray)).run Tryd.prog W = .ok (.bool false) W := fun W => by
            have h := nequ4 (fourA LA p.2) (fourA LA p.2) (fourA_len HNl.out _) (fourA_len HNl.out _) W
            rwa [show (!decide (fourA LA p.2 = fourA LA p.2)) = false by simp] at h
          have hq6 : ∀ W, (binOp .neq 23 (.agg (bu (sixA LA p.1)).toArray) (.agg (bu (sixA LA p.1)).toArray)).run Tryd.prog W = .ok (.bool false) W := fun W => by
            have h := nequ6 (sixA LA p.1) (sixA LA p.1) (sixA_len HNl.out _) (sixA_len HNl.out _) W
            rwa [show (!decide (sixA LA p.1 = sixA LA p.1)) = false by simp] at h
          have HQ4 := Lib.hid hq4
          have HQ6 := Lib.hid hq6
          clear hq4 hq6
          have CF2 := Lib.hid (fun W hW => CF.out W LA (T.out W hW))
          have CG2 := Lib.hid (fun W hW => CG.out W _ LA (O.out W hW) HNl.out)
          have CS2 := Lib.hid (fun W hW => CS.out W LA (T.out W hW))
          have CH2 := Lib.hid (fun W hW => CH.out W _ LA (O.out W hW) HNl.out)
          generalize fourI LA p.2 = o4 at *
          generalize sixI LA p.1 = o6 at *
          generalize bu (fourA LA p.2) = FA at *
          generalize bu (sixA LA p.1) = SX at *
          have hr0 := (HRp.out _ _ HK7.out.hd).2
          go_wp2_with (((with_reducible (change wpList _ _ _ _ _ _)); ((refine wpList_load_mid rfl 23 _ rfl (g10) (0 + 4) rfl (VX) _ hr0 Tryd.underlying23 rfl HI_VX.out ?_))))
          clear hr0
          refine (CF2.out _ HR7.out).mono ?_
          rintro e w8 ⟨rfl, bb⟩
          have HK8 := Lib.hid (HK7.out.below bb (Nat.le_refl _))
          have HR8 := Lib.hid (HR7.out.trans (bb.mono HR7.out.size))
          clear bb HK7 HR7
          have hR := below_sets FA HR8.out.size 0 _ (HR8.out.alloc HR8.out.size (.cells ([.int .u8 0, .int .u8 0, .int .u8 0, .int .u8 0] : List Value).toArray 36))
          have HR9 := Lib.hid hR
          clear hR HR8
          have ht := (bk_new w8 36 ([.int .u8 0, .int .u8 0, .int .u8 0, .int .u8 0] : List Value).toArray).there FA.toArray.size (by have := HL_FA.out; simp; omega)
          go_upto_region 30 with (((with_reducible (change wpList _ _ _ _ _ _)); ((refine wpList_store_mid rfl 36 _ _ rfl w8.heap.size 0 FA.toArray rfl rfl ht (by simpa using HI_FA.out) HO_FA.out ?_))))
          have HK9 := Lib.hid (HK8.out.put 36 ([.int .u8 0, .int .u8 0, .int .u8 0, .int .u8 0] : List Value).toArray FA (by have := HL_FA.out; simp; omega))
          clear ht HK8
          generalize (w8.alloc (.cells ([.int .u8 0, .int .u8 0, .int .u8 0, .int .u8 0] : List Value).toArray 36)).setCells w8.heap.size 0 FA = w9 at *
          generalize w8.heap.size = g15 at *
          have hr0 := (HRp.out _ _ HK9.out.tl.hd).2
          go_wp2_with (((with_reducible (change wpList _ _ _ _ _ _)); ((refine wpList_load_mid rfl 23 _ rfl (g10) (0 + 4) rfl (VX) _ hr0 Tryd.underlying23 rfl HI_VX.out ?_))))
          clear hr0
          refine (CG2.out _ HR9.out).mono ?_
          rintro e w10 ⟨rfl, bb⟩
          have HK10 := Lib.hid (HK9.out.below bb (Nat.le_refl _))
          have HR10 := Lib.hid (HR9.out.trans (bb.mono HR9.out.size))
          clear bb HK9 HR9
          have hR := below_sets FA HR10.out.size 0 _ (HR10.out.alloc HR10.out.size (.cells ([.int .u8 0, .int .u8 0, .int .u8 0, .int .u8 0] : List Value).toArray 36))
          have HR11 := Lib.hid hR
          clear hR HR10
          have ht := (bk_new w10 36 ([.int .u8 0, .int .u8 0, .int .u8 0, .int .u8 0] : List Value).toArray).there FA.toArray.size (by have := HL_FA.out; simp; omega)
          go_upto_region 31 with (((with_reducible (change wpList _ _ _ _ _ _)); ((refine wpList_store_mid rfl 36 _ _ rfl w10.heap.size 0 FA.toArray rfl rfl ht (by simpa using HI_FA.out) HO_FA.out ?_))))
          have HK11 := Lib.hid (HK10.out.put 36 ([.int .u8 0, .int .u8 0, .int .u8 0, .int .u8 0] : List Value).toArray FA (by have := HL_FA.out; simp; omega))
          clear ht HK10
          generalize (w10.alloc (.cells ([.int .u8 0, .int .u8 0, .int .u8 0, .int .u8 0] : List Value).toArray 36)).setCells w10.heap.size 0 FA = w11 at *
          generalize w10.heap.size = g17 at *
          have hr0 := (HRp.out _ _ HK11.out.tl.tl.hd).1
          go_wp2_with (((with_reducible (change wpList _ _ _ _ _ _)); ((refine wpList_load_mid rfl 36 _ rfl (g10) (0) rfl (VF) _ hr0 Tryd.underlying36 rfl HI_VF.out ?_))))
          clear hr0
          refine (CS2.out _ HR11.out).mono ?_
          rintro e w12 ⟨rfl, bb⟩
          have HK12 := Lib.hid (HK11.out.below bb (Nat.le_refl _))
          have HR12 := Lib.hid (HR11.out.trans (bb.mono HR11.out.size))
          clear bb HK11 HR11
          have hR := below_sets SX HR12.out.size 0 _ (HR12.out.alloc HR12.out.size (.cells ([.int .u8 0, .int .u8 0, .int .u8 0, .int .u8 0, .int .u8 0, .int .u8 0, .int .u8 0, .int .u8 0, .int .u8 0, .int .u8 0, .int .u8 0, .int .u8 0, .int .u8 0, .int .u8 0, .int .u8 0, .int .u8 0] : List Value).toArray 23))
          have HR13 := Lib.hid hR
          clear hR HR12
          have ht := (bk_new w12 23 ([.int .u8 0, .int .u8 0, .int .u8 0, .int .u8 0, .int .u8 0, .int .u8 0, .int .u8 0, .int .u8 0, .int .u8 0, .int .u8 0, .int .u8 0, .int .u8 0, .int .u8 0, .int .u8 0, .int .u8 0, .int .u8 0] : List Value).toArray).there SX.toArray.size (by have := HL_SX.out; simp; omega)
          go_upto_region 32 with (((with_reducible (change wpList _ _ _ _ _ _)); ((refine wpList_store_mid rfl 23 _ _ rfl w12.heap.size 0 SX.toArray rfl rfl ht (by simpa using HI_SX.out) HO_SX.out ?_))))
          have HK13 := Lib.hid (HK12.out.put 23 ([.int .u8 0, .int .u8 0, .int .u8 0, .int .u8 0, .int .u8 0, .int .u8 0, .int .u8 0, .int .u8 0, .int .u8 0, .int .u8 0, .int .u8 0, .int .u8 0, .int .u8 0, .int .u8 0, .int .u8 0, .int .u8 0] : List Value).toArray SX (by have := HL_SX.out; simp; omega))
          clear ht HK12
          generalize (w12.alloc (.cells ([.int .u8 0, .int .u8 0, .int .u8 0, .int .u8 0, .int .u8 0, .int .u8 0, .int .u8 0, .int .u8 0, .int .u8 0, .int .u8 0, .int .u8 0, .int .u8 0, .int .u8 0, .int .u8 0, .int .u8 0, .int .u8 0] : List Value).toArray 23)).setCells w12.heap.size 0 SX = w13 at *
          generalize w12.heap.size = g19 at *
          have hr0 := (HRp.out _ _ HK13.out.tl.tl.tl.hd).1
          go_wp2_with (((with_reducible (change wpList _ _ _ _ _ _)); ((refine wpList_load_mid rfl 36 _ rfl (g10) (0) rfl (VF) _ hr0 Tryd.underlying36 rfl HI_VF.out ?_))))
          clear hr0
          refine (CH2.out _ HR13.out).mono ?_
          rintro e w14 ⟨rfl, bb⟩
          have HK14 := Lib.hid (HK13.out.below bb (Nat.le_refl _))
          have HR14 := Lib.hid (HR13.out.trans (bb.mono HR13.out.size))
          clear bb HK13 HR13
          have hR := below_sets SX HR14.out.size 0 _ (HR14.out.alloc HR14.out.size (.cells ([.int .u8 0, .int .u8 0, .int .u8 0, .int .u8 0, .int .u8 0, .int .u8 0, .int .u8 0, .int .u8 0, .int .u8 0, .int .u8 0, .int .u8 0, .int .u8 0, .int .u8 0, .int .u8 0, .int .u8 0, .int .u8 0] : List Value).toArray 23))
          have HR15 := Lib.hid hR
          clear hR HR14
          have ht := (bk_new w14 23 ([.int .u8 0, .int .u8 0, .int .u8 0, .int .u8 0, .int .u8 0, .int .u8 0, .int .u8 0, .int .u8 0, .int .u8 0, .int .u8 0, .int .u8 0, .int .u8 0, .int .u8 0, .int .u8 0, .int .u8 0, .int .u8 0] : List Value).toArray).there SX.toArray.size (by have := HL_SX.out; simp; omega)
          go_upto_region 33 with (((with_reducible (change wpList _ _ _ _ _ _)); ((refine wpList_store_mid rfl 23 _ _ rfl w14.heap.size 0 SX.toArray rfl rfl ht (by simpa using HI_SX.out) HO_SX.out ?_))))
          have HK15 := Lib.hid (HK14.out.put 23 ([.int .u8 0, .int .u8 0, .int .u8 0, .int .u8 0, .int .u8 0, .int .u8 0, .int .u8 0, .int .u8 0, .int .u8 0, .int .u8 0, .int .u8 0, .int .u8 0, .int .u8 0, .int .u8 0, .int .u8 0, .int .u8 0] : List Value).toArray SX (by have := HL_SX.out; simp; omega))
          clear ht HK14
          generalize (w14.alloc (.cells ([.int .u8 0, .int .u8 0, .int .u8 0, .int .u8 0, .int .u8 0, .int .u8 0, .int .u8 0, .int .u8 0, .int .u8 0, .int .u8 0, .int .u8 0, .int .u8 0, .int .u8 0, .int .u8 0, .int .u8 0, .int .u8 0] : List Value).toArray 23)).setCells w14.heap.size 0 SX = w15 at *
          generalize w14.heap.size = g21 at *
          have hq4 := HQ4.out
          have hq6 := HQ6.out
          have hr0 := HK15.out.tl.tl.tl.hd.range
          have hr1 := HK15.out.tl.tl.hd.range
          have hr2 := HK15.out.tl.hd.range
          have hr3 := HK15.out.hd.range
          have q4 : (o4 != o4) = false := by simp
          have q6 : (o6 != o6) = false := by simp
          have hle := HNl.out.len
          go_wp2_with (((with_reducible (change wpList _ _ _ _ _ _)); (first | (refine wpList_load_mid rfl 36 _ rfl (g15) (0) rfl (FA) _ hr0 Tryd.underlying36 rfl HI_FA.out ?_) | (refine wpList_load_mid rfl 36 _ rfl (g17) (0) rfl (FA) _ hr1 Tryd.underlying36 rfl HI_FA.out ?_) | (refine wpList_load_if (by rfl) 23 _ rfl (g19) (0) rfl (SX) _ hr2 Tryd.underlying23 rfl HI_SX.out ?_) | (refine wpList_load_if (by rfl) 23 _ rfl (g21) (0) rfl (SX) _ hr3 Tryd.underlying23 rfl HI_SX.out ?_))))
          clear hr0 hr1 hr2 hr3 hq4 hq6 q4 q6
          refine (CJ.out _ _ (T.out _ HR15.out)).mono ?_
          rintro e w9 ⟨rfl, rfl⟩
          go_wp2_with (fail)
          refine (CI.out _ _ (T.out _ HR15.out)).mono ?_
          rintro e w16 ⟨u8, rfl, hu8, bb⟩
          have HK16 := Lib.hid (HK15.out.below bb (Nat.le_refl _))
          have HR16 := Lib.hid (HR15.out.trans (bb.mono HR15.out.size))
          clear bb HK15 HR15
          have CSm := Lib.hid (same_self u8 _ LA w16 (own_rs hu8) (O.out _ HR16.out).rs HNl.out.ok (by omega))
          clear hu8
          go_wp2_with (fail)
          refine (CSm.out).mono ?_
          rintro e w17 ⟨rfl, bb⟩
          have HK17 := Lib.hid (HK16.out.below bb (Nat.le_refl _))
          have HR17 := Lib.hid (HR16.out.trans (bb.mono HR16.out.size))
          clear bb HK16 HR16
          have HTe := Lib.hid (T.out _ HR17.out)
          have HOe := Lib.hid (O.out _ HR17.out)
          have HKe : Hid (Kp w w.heap.size [] w17) := Lib.hid ⟨fun y hy => (by cases hy), HK17.out.2⟩
          clear T O HK17 HR17 CSm CF2 CG2 CS2 CH2 CF CG CS CH CI CJ C1 C2 C3 C4
          go_wp2_with (fail)
          go_roundw
          case rel => exact ⟨k + 1, LA, hlt, by go_num, HTe.out, HOe.out, HKe.out⟩
          case measure => simp [intOf]; omega
        by_cases d1 : d = 1
        · subst d1
          have hd0 : ((1 : Int) == 0) = false := by decide
          clear d0
          have hr0 := (HRp.out _ _ HK5.out.hd).1
          go_wp2_with (((with_reducible (change wpList _ _ _ _ _ _)); ((refine wpList_load_mid rfl 36 _ rfl (g10) (0) rfl (VF) _ hr0 Tryd.underlying36 rfl HI_VF.out ?_))))
          clear hr0
          refine (C3.out _ HO5.out).mono ?_
          rintro e w6 ⟨u6, rfl, ho6, hb6⟩
          have HK6 := Lib.hid (HK5.out.below hb6 (Nat.le_refl _))
          have HT6 := Lib.hid (HT5.out.below hb6)
          have HO6 := Lib.hid ho6
          obtain ⟨au6, cu6, rfl, _⟩ := own_shape ho6
          clear hb6 ho6 HK5 HT5 HO5
          have hr0 := (HRp.out _ _ HK6.out.hd).1
          go_wp2_with (((with_reducible (change wpList _ _ _ _ _ _)); ((refine wpList_load_mid rfl 36 _ rfl (g10) (0) rfl (VF) _ hr0 Tryd.underlying36 rfl HI_VF.out ?_))))
          clear hr0 hcd
          refine (C4.out _ HT6.out).mono ?_
          rintro e w7 ⟨rfl, ht7, hg7⟩
          have HK7 := Lib.hid (HK6.out.grown hg7 (fun y hy h => HGn.out (by rw [List.mem_singleton.1 hy] at h; exact Option.some.inj h)) (fun j hj => by cases hj; exact HZ4.out))
          have HTn := Lib.hid ht7
          have HOn := Lib.hid (HO6.out.other HT6.out hg7)
          clear ht7 hg7 HK6 HT6 HO6
          have qa : (DE != DE) = false := by simp
          go_upto_region 29 with (fail)
          clear qa
          have HNl := Lib.hid HTn.out.nl
          have T : Hid (∀ W, Below w7.heap.size w7 W → Tb W tb LD) := Lib.hid (fun W hW => HTn.out.below hW)
          have O : Hid (∀ W, Below w7.heap.size w7 W → Od W (.slice au6 LD.length cu6) LD) := Lib.hid (fun W hW => HOn.out.below hW)
          have HR7 := Lib.hid (Below.refl w7.heap.size w7)
          have HI_FA : Hid ((Tryd.prog.info? 36).map (·.size) = some (bu (fourA LD p.2)).length) := Lib.hid (Tryd.infoU4 _ (fourA_len HNl.out _))
          have HO_FA : Hid ((bu (fourA LD p.2)).toArray.all (·.oneCell') = true) := Lib.hid (bu_one _)
          have HL_FA : Hid ((bu (fourA LD p.2)).length = 4) := Lib.hid (by rw [bu_len]; exact fourA_len HNl.out _)
          have HI_SX : Hid ((Tryd.prog.info? 23).map (·.size) = some (bu (sixA LD p.1)).length) := Lib.hid (Tryd.infoU6 _ (sixA_len HNl.out _))
          have HO_SX : Hid ((bu (sixA LD p.1)).toArray.all (·.oneCell') = true) := Lib.hid (bu_one _)
          have HL_SX : Hid ((bu (sixA LD p.1)).length = 16) := Lib.hid (by rw [bu_len]; exact sixA_len HNl.out _)
          have hq4 : ∀ W, (binOp .neq 36 (.agg (bu (fourA LD p.2)).toArray) (.agg (bu (fourA LD p.2)).toArray)).run Tryd.prog W = .ok (.bool false) W := fun W => by
            have h := nequ4 (fourA LD p.2) (fourA LD p.2) (fourA_len HNl.out _) (fourA_len HNl.out _) W
            rwa [show (!decide (fourA LD p.2 = fourA LD p.2)) = false by simp] at h
          have hq6 : ∀ W, (binOp .neq 23 (.agg (bu (sixA LD p.1)).toArray) (.agg (bu (sixA LD p.1)).toArray)).run Tryd.prog W = .ok (.bool false) W := fun W => by
            have h := nequ6 (sixA LD p.1) (sixA LD p.1) (sixA_len HNl.out _) (sixA_len HNl.out _) W
            rwa [show (!decide (sixA LD p.1 = sixA LD p.1)) = false by simp] at h
          have HQ4 := Lib.hid hq4
          have HQ6 := Lib.hid hq6
          clear hq4 hq6
          have CF2 := Lib.hid (fun W hW => CF.out W LD (T.out W hW))
          have CG2 := Lib.hid (fun W hW => CG.out W _ LD (O.out W hW) HNl.out)
          have CS2 := Lib.hid (fun W hW => CS.out W LD (T.out W hW))
          have CH2 := Lib.hid (fun W hW => CH.out W _ LD (O.out W hW) HNl.out)
          generalize fourI LD p.2 = o4 at *
          generalize sixI LD p.1 = o6 at *
          generalize bu (fourA LD p.2) = FA at *
          generalize bu (sixA LD p.1) = SX at *
          have hr0 := (HRp.out _ _ HK7.out.hd).2
          go_wp2_with (((with_reducible (change wpList _ _ _ _ _ _)); ((refine wpList_load_mid rfl 23 _ rfl (g10) (0 + 4) rfl (VX) _ hr0 Tryd.underlying23 rfl HI_VX.out ?_))))
          clear hr0
          refine (CF2.out _ HR7.out).mono ?_
          rintro e w8 ⟨rfl, bb⟩
          have HK8 := Lib.hid (HK7.out.below bb (Nat.le_refl _))
          have HR8 := Lib.hid (HR7.out.trans (bb.mono HR7.out.size))
          clear bb HK7 HR7
          have hR := below_sets FA HR8.out.size 0 _ (HR8.out.alloc HR8.out.size (.cells ([.int .u8 0, .int .u8 0, .int .u8 0, .int .u8 0] : List Value).toArray 36))
          have HR9 := Lib.hid hR
          clear hR HR8
          have ht := (bk_new w8 36 ([.int .u8 0, .int .u8 0, .int .u8 0, .int .u8 0] : List Value).toArray).there FA.toArray.size (by have := HL_FA.out; simp; omega)
          go_upto_region 30 with (((with_reducible (change wpList _ _ _ _ _ _)); ((refine wpList_store_mid rfl 36 _ _ rfl w8.heap.size 0 FA.toArray rfl rfl ht (by simpa using HI_FA.out) HO_FA.out ?_))))
          have HK9 := Lib.hid (HK8.out.put 36 ([.int .u8 0, .int .u8 0, .int .u8 0, .int .u8 0] : List Value).toArray FA (by have := HL_FA.out; simp; omega))
          clear ht HK8
          generalize (w8.alloc (.cells ([.int .u8 0, .int .u8 0, .int .u8 0, .int .u8 0] : List Value).toArray 36)).setCells w8.heap.size 0 FA = w9 at *
          generalize w8.heap.size = g15 at *
          have hr0 := (HRp.out _ _ HK9.out.tl.hd).2
          go_wp2_with (((with_reducible (change wpList _ _ _ _ _ _)); ((refine wpList_load_mid rfl 23 _ rfl (g10) (0 + 4) rfl (VX) _ hr0 Tryd.underlying23 rfl HI_VX.out ?_))))
          clear hr0
          refine (CG2.out _ HR9.out).mono ?_
          rintro e w10 ⟨rfl, bb⟩
          have HK10 := Lib.hid (HK9.out.below bb (Nat.le_refl _))
          have HR10 := Lib.hid (HR9.out.trans (bb.mono HR9.out.size))
          clear bb HK9 HR9
          have hR := below_sets FA HR10.out.size 0 _ (HR10.out.alloc HR10.out.size (.cells ([.int .u8 0, .int .u8 0, .int .u8 0, .int .u8 0] : List Value).toArray 36))
          have HR11 := Lib.hid hR
          clear hR HR10
          have ht := (bk_new w10 36 ([.int .u8 0, .int .u8 0, .int .u8 0, .int .u8 0] : List Value).toArray).there FA.toArray.size (by have := HL_FA.out; simp; omega)
          go_upto_region 31 with (((with_reducible (change wpList _ _ _ _ _ _)); ((refine wpList_store_mid rfl 36 _ _ rfl w10.heap.size 0 FA.toArray rfl rfl ht (by simpa using HI_FA.out) HO_FA.out ?_))))
          have HK11 := Lib.hid (HK10.out.put 36 ([.int .u8 0, .int .u8 0, .int .u8 0, .int .u8 0] : List Value).toArray FA (by have := HL_FA.out; simp; omega))
          clear ht HK10
          generalize (w10.alloc (.cells ([.int .u8 0, .int .u8 0, .int .u8 0, .int .u8 0] : List Value).toArray 36)).setCells w10.heap.size 0 FA = w11 at *
          generalize w10.heap.size = g17 at *
          have hr0 := (HRp.out _ _ HK11.out.tl.tl.hd).1
          go_wp2_with (((with_reducible (change wpList _ _ _ _ _ _)); ((refine wpList_load_mid rfl 36 _ rfl (g10) (0) rfl (VF) _ hr0 Tryd.underlying36 rfl HI_VF.out ?_))))
          clear hr0
          refine (CS2.out _ HR11.out).mono ?_
          rintro e w12 ⟨rfl, bb⟩
          have HK12 := Lib.hid (HK11.out.below bb (Nat.le_refl _))
          have HR12 := Lib.hid (HR11.out.trans (bb.mono HR11.out.size))
          clear bb HK11 HR11
          have hR := below_sets SX HR12.out.size 0 _ (HR12.out.alloc HR12.out.size (.cells ([.int .u8 0, .int .u8 0, .int .u8 0, .int .u8 0, .int .u8 0, .int .u8 0, .int .u8 0, .int .u8 0, .int .u8 0, .int .u8 0, .int .u8 0, .int .u8 0, .int .u8 0, .int .u8 0, .int .u8 0, .int .u8 0] : List Value).toArray 23))
          have HR13 := Lib.hid hR
          clear hR HR12
          have ht := (bk_new w12 23 ([.int .u8 0, .int .u8 0, .int .u8 0, .int .u8 0, .int .u8 0, .int .u8 0, .int .u8 0, .int .u8 0, .int .u8 0, .int .u8 0, .int .u8 0, .int .u8 0, .int .u8 0, .int .u8 0, .int .u8 0, .int .u8 0] : List Value).toArray).there SX.toArray.size (by have := HL_SX.out; simp; omega)
          go_upto_region 32 with (((with_reducible (change wpList _ _ _ _ _ _)); ((refine wpList_store_mid rfl 23 _ _ rfl w12.heap.size 0 SX.toArray rfl rfl ht (by simpa using HI_SX.out) HO_SX.out ?_))))
          have HK13 := Lib.hid (HK12.out.put 23 ([.int .u8 0, .int .u8 0, .int .u8 0, .int .u8 0, .int .u8 0, .int .u8 0, .int .u8 0, .int .u8 0, .int .u8 0, .int .u8 0, .int .u8 0, .int .u8 0, .int .u8 0, .int .u8 0, .int .u8 0, .int .u8 0] : List Value).toArray SX (by have := HL_SX.out; simp; omega))
          clear ht HK12
          generalize (w12.alloc (.cells ([.int .u8 0, .int .u8 0, .int .u8 0, .int .u8 0, .int .u8 0, .int .u8 0, .int .u8 0, .int .u8 0, .int .u8 0, .int .u8 0, .int .u8 0, .int .u8 0, .int .u8 0, .int .u8 0, .int .u8 0, .int .u8 0] : List Value).toArray 23)).setCells w12.heap.size 0 SX = w13 at *
          generalize w12.heap.size = g19 at *
          have hr0 := (HRp.out _ _ HK13.out.tl.tl.tl.hd).1
          go_wp2_with (((with_reducible (change wpList _ _ _ _ _ _)); ((refine wpList_load_mid rfl 36 _ rfl (g10) (0) rfl (VF) _ hr0 Tryd.underlying36 rfl HI_VF.out ?_))))
          clear hr0
          refine (CH2.out _ HR13.out).mono ?_
          rintro e w14 ⟨rfl, bb⟩
          have HK14 := Lib.hid (HK13.out.below bb (Nat.le_refl _))
          have HR14 := Lib.hid (HR13.out.trans (bb.mono HR13.out.size))
          clear bb HK13 HR13
          have hR := below_sets SX HR14.out.size 0 _ (HR14.out.alloc HR14.out.size (.cells ([.int .u8 0, .int .u8 0, .int .u8 0, .int .u8 0, .int .u8 0, .int .u8 0, .int .u8 0, .int .u8 0, .int .u8 0, .int .u8 0, .int .u8 0, .int .u8 0, .int .u8 0, .int .u8 0, .int .u8 0, .int .u8 0] : List Value).toArray 23))
          have HR15 := Lib.hid hR
          clear hR HR14
          have ht := (bk_new w14 23 ([.int .u8 0, .int .u8 0, .int .u8 0, .int .u8 0, .int .u8 0, .int .u8 0, .int .u8 0, .int .u8 0, .int .u8 0, .int .u8 0, .int .u8 0, .int .u8 0, .int .u8 0, .int .u8 0, .int .u8 0, .int .u8 0] : List Value).toArray).there SX.toArray.size (by have := HL_SX.out; simp; omega)
          go_upto_region 33 with (((with_reducible (change wpList _ _ _ _ _ _)); ((refine wpList_store_mid rfl 23 _ _ rfl w14.heap.size 0 SX.toArray rfl rfl ht (by simpa using HI_SX.out) HO_SX.out ?_))))
          have HK15 := Lib.hid (HK14.out.put 23 ([.int .u8 0, .int .u8 0, .int .u8 0, .int .u8 0, .int .u8 0, .int .u8 0, .int .u8 0, .int .u8 0, .int .u8 0, .int .u8 0, .int .u8 0, .int .u8 0, .int .u8 0, .int .u8 0, .int .u8 0, .int .u8 0] : List Value).toArray SX (by have := HL_SX.out; simp; omega))
          clear ht HK14
          generalize (w14.alloc (.cells ([.int .u8 0, .int .u8 0, .int .u8 0, .int .u8 0, .int .u8 0, .int .u8 0, .int .u8 0, .int .u8 0, .int .u8 0, .int .u8 0, .int .u8 0, .int .u8 0, .int .u8 0, .int .u8 0, .int .u8 0, .int .u8 0] : List Value).toArray 23)).setCells w14.heap.size 0 SX = w15 at *
          generalize w14.heap.size = g21 at *
          have hq4 := HQ4.out
          have hq6 := HQ6.out
          have hr0 := HK15.out.tl.tl.tl.hd.range
          have hr1 := HK15.out.tl.tl.hd.range
          have hr2 := HK15.out.tl.hd.range
          have hr3 := HK15.out.hd.range
          have q4 : (o4 != o4) = false := by simp
          have q6 : (o6 != o6) = false := by simp
          have hle := HNl.out.len
          go_wp2_with (((with_reducible (change wpList _ _ _ _ _ _)); (first | (refine wpList_load_mid rfl 36 _ rfl (g15) (0) rfl (FA) _ hr0 Tryd.underlying36 rfl HI_FA.out ?_) | (refine wpList_load_mid rfl 36 _ rfl (g17) (0) rfl (FA) _ hr1 Tryd.underlying36 rfl HI_FA.out ?_) | (refine wpList_load_if (by rfl) 23 _ rfl (g19) (0) rfl (SX) _ hr2 Tryd.underlying23 rfl HI_SX.out ?_) | (refine wpList_load_if (by rfl) 23 _ rfl (g21) (0) rfl (SX) _ hr3 Tryd.underlying23 rfl HI_SX.out ?_))))
          clear hr0 hr1 hr2 hr3 hq4 hq6 q4 q6
          refine (CJ.out _ _ (T.out _ HR15.out)).mono ?_
          rintro e w9 ⟨rfl, rfl⟩
          go_wp2_with (fail)
          refine (CI.out _ _ (T.out _ HR15.out)).mono ?_
          rintro e w16 ⟨u8, rfl, hu8, bb⟩
          have HK16 := Lib.hid (HK15.out.below bb (Nat.le_refl _))
          have HR16 := Lib.hid (HR15.out.trans (bb.mono HR15.out.size))
          clear bb HK15 HR15
          have CSm := Lib.hid (same_self u8 _ LD w16 (own_rs hu8) (O.out _ HR16.out).rs HNl.out.ok (by omega))
          clear hu8
          go_wp2_with (fail)
          refine (CSm.out).mono ?_
          rintro e w17 ⟨rfl, bb⟩
          have HK17 := Lib.hid (HK16.out.below bb (Nat.le_refl _))
          have HR17 := Lib.hid (HR16.out.trans (bb.mono HR16.out.size))
          clear bb HK16 HR16
          have HTe := Lib.hid (T.out _ HR17.out)
          have HOe := Lib.hid (O.out _ HR17.out)
          have HKe : Hid (Kp w w.heap.size [] w17) := Lib.hid ⟨fun y hy => (by cases hy), HK17.out.2⟩
          clear T O HK17 HR17 CSm CF2 CG2 CS2 CH2 CF CG CS CH CI CJ C1 C2 C3 C4
          go_wp2_with (fail)
          go_roundw
          case rel => exact ⟨k + 1, LD, hlt, by go_num, HTe.out, HOe.out, HKe.out⟩
          case measure => simp [intOf]; omega
        have hd0 : (d == 0) = false := by simpa using d0
        have hd1 : (d == 1) = false := by simpa using d1
        clear d0 d1
        go_upto_region 29 with (fail)
        clear hd0 hd1 hcd
        have HTn := HT5
        have HOn := HO5
        clear HT5 HO5
        have HNl := Lib.hid HTn.out.nl
        have T : Hid (∀ W, Below w5.heap.size w5 W → Tb W tb L) := Lib.hid (fun W hW => HTn.out.below hW)
        have O : Hid (∀ W, Below w5.heap.size w5 W → Od W (.slice au4 L.length cu4) L) := Lib.hid (fun W hW => HOn.out.below hW)
        have HR5 := Lib.hid (Below.refl w5.heap.size w5)
        have HI_FA : Hid ((Tryd.prog.info? 36).map (·.size) = some (bu (fourA L p.2)).length) := Lib.hid (Tryd.infoU4 _ (fourA_len HNl.out _))
        have HO_FA : Hid ((bu (fourA L p.2)).toArray.all (·.oneCell') = true) := Lib.hid (bu_one _)
        have HL_FA : Hid ((bu (fourA L p.2)).length = 4) := Lib.hid (by rw [bu_len]; exact fourA_len HNl.out _)
        have HI_SX : Hid ((Tryd.prog.info? 23).map (·.size) = some (bu (sixA L p.1)).length) := Lib.hid (Tryd.infoU6 _ (sixA_len HNl.out _))
        have HO_SX : Hid ((bu (sixA L p.1)).toArray.all (·.oneCell') = true) := Lib.hid (bu_one _)
        have HL_SX : Hid ((bu (sixA L p.1)).length = 16) := Lib.hid (by rw [bu_len]; exact sixA_len HNl.out _)
        have hq4 : ∀ W, (binOp .neq 36 (.agg (bu (fourA L p.2)).toArray) (.agg (bu (fourA L p.2)).toArray)).run Tryd.prog W = .ok (.bool false) W := fun W => by
          have h := nequ4 (fourA L p.2) (fourA L p.2) (fourA_len HNl.out _) (fourA_len HNl.out _) W
          rwa [show (!decide (fourA L p.2 = fourA L p.2)) = false by simp] at h
        have hq6 : ∀ W, (binOp .neq 23 (.agg (bu (sixA L p.1)).toArray) (.agg (bu (sixA L p.1)).toArray)).run Tryd.prog W = .ok (.bool false) W := fun W => by
          have h := nequ6 (sixA L p.1) (sixA L p.1) (sixA_len HNl.out _) (sixA_len HNl.out _) W
          rwa [show (!decide (sixA L p.1 = sixA L p.1)) = false by simp] at h
        have HQ4 := Lib.hid hq4
        have HQ6 := Lib.hid hq6
        clear hq4 hq6
        have CF2 := Lib.hid (fun W hW => CF.out W L (T.out W hW))
        have CG2 := Lib.hid (fun W hW => CG.out W _ L (O.out W hW) HNl.out)
        have CS2 := Lib.hid (fun W hW => CS.out W L (T.out W hW))
        have CH2 := Lib.hid (fun W hW => CH.out W _ L (O.out W hW) HNl.out)
        generalize fourI L p.2 = o4 at *
        generalize sixI L p.1 = o6 at *
        generalize bu (fourA L p.2) = FA at *
        generalize bu (sixA L p.1) = SX at *
        have hr0 := (HRp.out _ _ HK5.out.hd).2
        go_wp2_with (((with_reducible (change wpList _ _ _ _ _ _)); ((refine wpList_load_mid rfl 23 _ rfl (g10) (0 + 4) rfl (VX) _ hr0 Tryd.underlying23 rfl HI_VX.out ?_))))
        clear hr0
        refine (CF2.out _ HR5.out).mono ?_
        rintro e w6 ⟨rfl, bb⟩
        have HK6 := Lib.hid (HK5.out.below bb (Nat.le_refl _))
        have HR6 := Lib.hid (HR5.out.trans (bb.mono HR5.out.size))
        clear bb HK5 HR5
        have hR := below_sets FA HR6.out.size 0 _ (HR6.out.alloc HR6.out.size (.cells ([.int .u8 0, .int .u8 0, .int .u8 0, .int .u8 0] : List Value).toArray 36))
        have HR7 := Lib.hid hR
        clear hR HR6
        have ht := (bk_new w6 36 ([.int .u8 0, .int .u8 0, .int .u8 0, .int .u8 0] : List Value).toArray).there FA.toArray.size (by have := HL_FA.out; simp; omega)
        go_upto_region 30 with (((with_reducible (change wpList _ _ _ _ _ _)); ((refine wpList_store_mid rfl 36 _ _ rfl w6.heap.size 0 FA.toArray rfl rfl ht (by simpa using HI_FA.out) HO_FA.out ?_))))
        have HK7 := Lib.hid (HK6.out.put 36 ([.int .u8 0, .int .u8 0, .int .u8 0, .int .u8 0] : List Value).toArray FA (by have := HL_FA.out; simp; omega))
        clear ht HK6
        generalize (w6.alloc (.cells ([.int .u8 0, .int .u8 0, .int .u8 0, .int .u8 0] : List Value).toArray 36)).setCells w6.heap.size 0 FA = w7 at *
        generalize w6.heap.size = g15 at *
        have hr0 := (HRp.out _ _ HK7.out.tl.hd).2
        go_wp2_with (((with_reducible (change wpList _ _ _ _ _ _)); ((refine wpList_load_mid rfl 23 _ rfl (g10) (0 + 4) rfl (VX) _ hr0 Tryd.underlying23 rfl HI_VX.out ?_))))
        clear hr0
        refine (CG2.out _ HR7.out).mono ?_
        rintro e w8 ⟨rfl, bb⟩
        have HK8 := Lib.hid (HK7.out.below bb (Nat.le_refl _))
        have HR8 := Lib.hid (HR7.out.trans (bb.mono HR7.out.size))
        clear bb HK7 HR7
        have hR := below_sets FA HR8.out.size 0 _ (HR8.out.alloc HR8.out.size (.cells ([.int .u8 0, .int .u8 0, .int .u8 0, .int .u8 0] : List Value).toArray 36))
        have HR9 := Lib.hid hR
        clear hR HR8
        have ht := (bk_new w8 36 ([.int .u8 0, .int .u8 0, .int .u8 0, .int .u8 0] : List Value).toArray).there FA.toArray.size (by have := HL_FA.out; simp; omega)
        go_upto_region 31 with (((with_reducible (change wpList _ _ _ _ _ _)); ((refine wpList_store_mid rfl 36 _ _ rfl w8.heap.size 0 FA.toArray rfl rfl ht (by simpa using HI_FA.out) HO_FA.out ?_))))
        have HK9 := Lib.hid (HK8.out.put 36 ([.int .u8 0, .int .u8 0, .int .u8 0, .int .u8 0] : List Value).toArray FA (by have := HL_FA.out; simp; omega))
        clear ht HK8
        generalize (w8.alloc (.cells ([.int .u8 0, .int .u8 0, .int .u8 0, .int .u8 0] : List Value).toArray 36)).setCells w8.heap.size 0 FA = w9 at *
        generalize w8.heap.size = g17 at *
        have hr0 := (HRp.out _ _ HK9.out.tl.tl.hd).1
        go_wp2_with (((with_reducible (change wpList _ _ _ _ _ _)); ((refine wpList_load_mid rfl 36 _ rfl (g10) (0) rfl (VF) _ hr0 Tryd.underlying36 rfl HI_VF.out ?_))))
        clear hr0
        refine (CS2.out _ HR9.out).mono ?_
        rintro e w10 ⟨rfl, bb⟩
        have HK10 := Lib.hid (HK9.out.below bb (Nat.le_refl _))
        have HR10 := Lib.hid (HR9.out.trans (bb.mono HR9.out.size))
        clear bb HK9 HR9
        have hR := below_sets SX HR10.out.size 0 _ (HR10.out.alloc HR10.out.size (.cells ([.int .u8 0, .int .u8 0, .int .u8 0, .int .u8 0, .int .u8 0, .int .u8 0, .int .u8 0, .int .u8 0, .int .u8 0, .int .u8 0, .int .u8 0, .int .u8 0, .int .u8 0, .int .u8 0, .int .u8 0, .int .u8 0] : List Value).toArray 23))
        have HR11 := Lib.hid hR
        clear hR HR10
        have ht := (bk_new w10 23 ([.int .u8 0, .int .u8 0, .int .u8 0, .int .u8 0, .int .u8 0, .int .u8 0, .int .u8 0, .int .u8 0, .int .u8 0, .int .u8 0, .int .u8 0, .int .u8 0, .int .u8 0, .int .u8 0, .int .u8 0, .int .u8 0] : List Value).toArray).there SX.toArray.size (by have := HL_SX.out; simp; omega)
        go_upto_region 32 with (((with_reducible (change wpList _ _ _ _ _ _)); ((refine wpList_store_mid rfl 23 _ _ rfl w10.heap.size 0 SX.toArray rfl rfl ht (by simpa using HI_SX.out) HO_SX.out ?_))))
        have HK11 := Lib.hid (HK10.out.put 23 ([.int .u8 0, .int .u8 0, .int .u8 0, .int .u8 0, .int .u8 0, .int .u8 0, .int .u8 0, .int .u8 0, .int .u8 0, .int .u8 0, .int .u8 0, .int .u8 0, .int .u8 0, .int .u8 0, .int .u8 0, .int .u8 0] : List Value).toArray SX (by have := HL_SX.out; simp; omega))
        clear ht HK10
        generalize (w10.alloc (.cells ([.int .u8 0, .int .u8 0, .int .u8 0, .int .u8 0, .int .u8 0, .int .u8 0, .int .u8 0, .int .u8 0, .int .u8 0, .int .u8 0, .int .u8 0, .int .u8 0, .int .u8 0, .int .u8 0, .int .u8 0, .int .u8 0] : List Value).toArray 23)).setCells w10.heap.size 0 SX = w11 at *
        generalize w10.heap.size = g19 at *
        have hr0 := (HRp.out _ _ HK11.out.tl.tl.tl.hd).1
        go_wp2_with (((with_reducible (change wpList _ _ _ _ _ _)); ((refine wpList_load_mid rfl 36 _ rfl (g10) (0) rfl (VF) _ hr0 Tryd.underlying36 rfl HI_VF.out ?_))))
        clear hr0
        refine (CH2.out _ HR11.out).mono ?_
        rintro e w12 ⟨rfl, bb⟩
        have HK12 := Lib.hid (HK11.out.below bb (Nat.le_refl _))
        have HR12 := Lib.hid (HR11.out.trans (bb.mono HR11.out.size))
        clear bb HK11 HR11
        have hR := below_sets SX HR12.out.size 0 _ (HR12.out.alloc HR12.out.size (.cells ([.int .u8 0, .int .u8 0, .int .u8 0, .int .u8 0, .int .u8 0, .int .u8 0, .int .u8 0, .int .u8 0, .int .u8 0, .int .u8 0, .int .u8 0, .int .u8 0, .int .u8 0, .int .u8 0, .int .u8 0, .int .u8 0] : List Value).toArray 23))
        have HR13 := Lib.hid hR
        clear hR HR12
        have ht := (bk_new w12 23 ([.int .u8 0, .int .u8 0, .int .u8 0, .int .u8 0, .int .u8 0, .int .u8 0, .int .u8 0, .int .u8 0, .int .u8 0, .int .u8 0, .int .u8 0, .int .u8 0, .int .u8 0, .int .u8 0, .int .u8 0, .int .u8 0] : List Value).toArray).there SX.toArray.size (by have := HL_SX.out; simp; omega)
        go_upto_region 33 with (((with_reducible (change wpList _ _ _ _ _ _)); ((refine wpList_store_mid rfl 23 _ _ rfl w12.heap.size 0 SX.toArray rfl rfl ht (by simpa using HI_SX.out) HO_SX.out ?_))))
        have HK13 := Lib.hid (HK12.out.put 23 ([.int .u8 0, .int .u8 0, .int .u8 0, .int .u8 0, .int .u8 0, .int .u8 0, .int .u8 0, .int .u8 0, .int .u8 0, .int .u8 0, .int .u8 0, .int .u8 0, .int .u8 0, .int .u8 0, .int .u8 0, .int .u8 0] : List Value).toArray SX (by have := HL_SX.out; simp; omega))
        clear ht HK12
        generalize (w12.alloc (.cells ([.int .u8 0, .int .u8 0, .int .u8 0, .int .u8 0, .int .u8 0, .int .u8 0, .int .u8 0, .int .u8 0, .int .u8 0, .int .u8 0, .int .u8 0, .int .u8 0, .int .u8 0, .int .u8 0, .int .u8 0, .int .u8 0] : List Value).toArray 23)).setCells w12.heap.size 0 SX = w13 at *
        generalize w12.heap.size = g21 at *
        have hq4 := HQ4.out
        have hq6 := HQ6.out
        have hr0 := HK13.out.tl.tl.tl.hd.range
        have hr1 := HK13.out.tl.tl.hd.range
        have hr2 := HK13.out.tl.hd.range
        have hr3 := HK13.out.hd.range
        have q4 : (o4 != o4) = false := by simp
        have q6 : (o6 != o6) = false := by simp
        have hle := HNl.out.len
        go_wp2_with (((with_reducible (change wpList _ _ _ _ _ _)); (first | (refine wpList_load_mid rfl 36 _ rfl (g15) (0) rfl (FA) _ hr0 Tryd.underlying36 rfl HI_FA.out ?_) | (refine wpList_load_mid rfl 36 _ rfl (g17) (0) rfl (FA) _ hr1 Tryd.underlying36 rfl HI_FA.out ?_) | (refine wpList_load_if (by rfl) 23 _ rfl (g19) (0) rfl (SX) _ hr2 Tryd.underlying23 rfl HI_SX.out ?_) | (refine wpList_load_if (by rfl) 23 _ rfl (g21) (0) rfl (SX) _ hr3 Tryd.underlying23 rfl HI_SX.out ?_))))
        clear hr0 hr1 hr2 hr3 hq4 hq6 q4 q6
        refine (CJ.out _ _ (T.out _ HR13.out)).mono ?_
        rintro e w9 ⟨rfl, rfl⟩
        go_wp2_with (fail)
        refine (CI.out _ _ (T.out _ HR13.out)).mono ?_
        rintro e w14 ⟨u8, rfl, hu8, bb⟩
        have HK14 := Lib.hid (HK13.out.below bb (Nat.le_refl _))
        have HR14 := Lib.hid (HR13.out.trans (bb.mono HR13.out.size))
        clear bb HK13 HR13
        have CSm := Lib.hid (same_self u8 _ L w14 (own_rs hu8) (O.out _ HR14.out).rs HNl.out.ok (by omega))
        clear hu8
        go_wp2_with (fail)
        refine (CSm.out).mono ?_
        rintro e w15 ⟨rfl, bb⟩
        have HK15 := Lib.hid (HK14.out.below bb (Nat.le_refl _))
        have HR15 := Lib.hid (HR14.out.trans (bb.mono HR14.out.size))
        clear bb HK14 HR14
        have HTe := Lib.hid (T.out _ HR15.out)
        have HOe := Lib.hid (O.out _ HR15.out)
        have HKe : Hid (Kp w w.heap.size [] w15) := Lib.hid ⟨fun y hy => (by cases hy), HK15.out.2⟩
        clear T O HK15 HR15 CSm CF2 CG2 CS2 CH2 CF CG CS CH CI CJ C1 C2 C3 C4
        go_wp2_with (fail)
        go_roundw
        case rel => exact ⟨k + 1, L, hlt, by go_num, HTe.out, HOe.out, HKe.out⟩
        case measure => simp [intOf]; omega
      · obtain rfl : k = ac.length := by omega
        go_wp2_with fail
        go_ret
        exact ⟨rfl, HK4.out.2.1⟩
  · have q1 : (newE l != 0) = true := by simpa using h0
    generalize newE l = E1 at *
    clear h0
    go_wp2_with fail
    refine (CR.out).mono ?_
    rintro e w3 ⟨hb3, u, rfl, ho⟩
    have HB3 := Lib.hid (HB2.out.trans (hb3.mono HB2.out.size))
    have CN0 := Lib.hid (new_nil w3 (HM.out _ HB3.out))
    obtain ⟨au, cu, rfl, _⟩ := own_shape ho
    clear hb3 ho CR
    have q2 : (E1 != E1) = false := by simp
    go_wp2_with fail
    refine (CN0.out).mono ?_
    rintro e w4 ⟨hb4, rfl, hT⟩
    have HB4 := Lib.hid (HB3.out.trans (hb4.mono HB3.out.size))
    have HT3 := Lib.hid hT
    have HO3 : Hid (Od w4 (.slice none 0 0) []) := Lib.hid (own_nil _ _)
    have HZ3 := Lib.hid hT.lt
    have HZ4 : Hid (w.heap.size ≤ w3.heap.size) := Lib.hid HB3.out.size
    clear hb4 hT CN0 q1 q2 h1 h2
    generalize w3.heap.size = tb at *
    go_wp2_with fail
    go_loopw [7, 9] (fun u i wr => ∃ (k : Nat) (L : Kv), k ≤ ac.length ∧ i = .int .i64 k ∧ Tb wr tb L ∧ Od wr u L ∧ Kp w w.heap.size [] wr) (fun _ i _ => ac.length - (intOf i).toNat)
    case atStart => exact ⟨0, [], Nat.zero_le _, rfl, HT3.out, HO3.out, ⟨fun y hy => (by cases hy), HB4.out, HB4.out.size⟩⟩
    case round =>
      obtain ⟨k, L, hk, rfl, ht, ho, hkp⟩ := hrel
      have HK4 := Lib.hid hkp
      have HTk := Lib.hid ht
      have HOk := Lib.hid ho
      obtain ⟨au4, cu4, rfl, _⟩ := own_shape ho
      clear ht ho hkp HT3 HO3
      by_cases hlt : k < ac.length
      · skip
        obtain ⟨_, _, hsh, _, hS⟩ := HAs.out _ HK4.out.2.1
        obtain ⟨hok, b2, o2, e2, hbl, hcd, hpr⟩ := hS k hlt
        obtain rfl : xo = some ⟨b2, o2, none⟩ := by
          cases hsh
          exact e2
        have HPo := Lib.hid hok
        have HBl : Hid (b2 < w.heap.size ∨ True) := Lib.hid (.inr trivial)
        generalize hda : ac[k].1 = d at *
        generalize hpa : ac[k].2 = p at *
        clear hda hpa hS hsh e2 HBl
        have HI_VF : Hid ((Tryd.prog.info? 36).map (·.size) = some (bu p.1).length) := Lib.hid (Tryd.infoU4 _ (HPo.out.1))
        have HO_VF : Hid ((bu p.1).toArray.all (·.oneCell') = true) := Lib.hid (bu_one _)
        have HL_VF : Hid ((bu p.1).length = 4) := Lib.hid (by rw [bu_len]; exact HPo.out.1)
        have HI_VX : Hid ((Tryd.prog.info? 23).map (·.size) = some (bu p.2).length) := Lib.hid (Tryd.infoU6 _ (HPo.out.2))
        have HO_VX : Hid ((bu p.2).toArray.all (·.oneCell') = true) := Lib.hid (bu_one _)
        have HL_VX : Hid ((bu p.2).length = 16) := Lib.hid (by rw [bu_len]; exact HPo.out.2)
        have HI_PV : Hid ((Tryd.prog.info? 38).map (·.size) = some (prv p).length) := Lib.hid (Tryd.infoP _ (HPo.out))
        have HO_PV : Hid ((prv p).toArray.all (·.oneCell') = true) := Lib.hid (prv_ones _)
        have HL_PV : Hid ((prv p).length = 20) := Lib.hid (prv_len (HPo.out))
        have HRp : Hid (∀ W g, Bk W g 38 (prv p).toArray → W.rangeAt g 0 (bu p.1) ∧ W.rangeAt g (0 + 4) (bu p.2)) := Lib.hid (fun W g h => ⟨range_f h.range, range_x h.range HPo.out⟩)
        have HCd : Hid (∀ W, Below wr.heap.size wr W → W.cell? ⟨b2, o2 + k * 21, none⟩ = some (.int .i64 d)) := Lib.hid (fun W hW => (hW.cell (show (⟨b2, o2 + k * 21, none⟩ : Addr).block < wr.heap.size from hbl)).trans hcd)
        have hk2 : (k : Int) < (ac.length : Int) := by omega
        have C1 : Hid (∀ W, Od W (.slice au4 L.length cu4) L → Calls Tryd.prog 23 #[.slice au4 L.length cu4, .agg (prv p).toArray] W fun e w' => ∃ u, e = .returned (.tuple #[u, .int .i64 (addE L p)]) ∧ Od w' u (addL L p) ∧ Below W.heap.size W w') := Lib.hid (fun W h => radd_any _ L p W h HTk.out.nl.ok HTk.out.nl.len HPo.out)
        have C2 : Hid (∀ W, Tb W tb L → Hm W → Calls Tryd.prog 17 #[.pointer (some ⟨tb, 0, none⟩), .agg (prv p).toArray] W fun e w' => e = .returned (.int .i64 (addE L p)) ∧ Tb w' tb (addL L p) ∧ W.grownBy w' (some tb)) := Lib.hid (fun W h hm => add_any tb L p W h HPo.out hm)
        have C3 : Hid (∀ W, Od W (.slice au4 L.length cu4) L → Calls Tryd.prog 24 #[.slice au4 L.length cu4, .agg (bu p.1).toArray] W fun e w' => ∃ u, e = .returned (.tuple #[u, .int .i64 (dropE L p.1)]) ∧ Od w' u (dropL L p.1) ∧ Below W.heap.size W w') := Lib.hid (fun W h => rdrop_any _ L p.1 W h HTk.out.nl.ok HTk.out.nl.len HPo.out.1)
        have C4 : Hid (∀ W, Tb W tb L → Calls Tryd.prog 18 #[.pointer (some ⟨tb, 0, none⟩), .agg (bu p.1).toArray] W fun e w' => e = .returned (.int .i64 (dropE L p.1)) ∧ Tb w' tb (dropL L p.1) ∧ W.grownBy w' (some tb)) := Lib.hid (fun W h => drop_any tb L p.1 W h HPo.out.1)
        have CF := Lib.hid (fun W N (h : Tb W tb N) => four_any tb N p.2 W h HPo.out.2)
        have CS := Lib.hid (fun W N (h : Tb W tb N) => six_any tb N p.1 W h HPo.out.1)
        have CG := Lib.hid (fun W u N (h : Od W u N) (hn : Nl N) => rfour_any u N p.2 W h.rs hn.ok (by have := hn.len; omega) HPo.out.2)
        have CH := Lib.hid (fun W u N (h : Od W u N) (hn : Nl N) => rsix_any u N p.1 W h.rs hn.ok (by have := hn.len; omega) HPo.out.1)
        have CI := Lib.hid (fun W N (h : Tb W tb N) => all_any tb N W h)
        have CJ := Lib.hid (fun W N (h : Tb W tb N) => len_any tb N W h)
        have hq1 := hpr
        have HZt : Hid (tb < wr.heap.size) := Lib.hid HTk.out.lt
        clear hpr hcd hok hbl
        generalize addE L p = AE at *
        generalize dropE L p.1 = DE at *
        generalize addL L p = LA at *
        generalize dropL L p.1 = LD at *
        generalize bu p.1 = VF at *
        generalize bu p.2 = VX at *
        generalize hPV : prv p = PV at *
        clear hPV
        have ht := (bk_new wr 38 ([.int .u8 0, .int .u8 0, .int .u8 0, .int .u8 0, .int .u8 0, .int .u8 0, .int .u8 0, .int .u8 0, .int .u8 0, .int .u8 0, .int .u8 0, .int .u8 0, .int .u8 0, .int .u8 0, .int .u8 0, .int .u8 0, .int .u8 0, .int .u8 0, .int .u8 0, .int .u8 0] : List Value).toArray).there PV.toArray.size (by have := HL_PV.out; simp; omega)
        go_upto_region 18 with (first | (refine wpList_load_mid rfl 38 _ rfl b2 (o2 + k * 21 + 1) rfl PV _ hq1 Tryd.underlying38 rfl HI_PV.out ?_) | (refine wpList_store_mid rfl 38 _ _ rfl wr.heap.size 0 PV.toArray rfl rfl ht (by simpa using HI_PV.out) HO_PV.out ?_))
        have HK5 := Lib.hid (HK4.out.put 38 ([.int .u8 0, .int .u8 0, .int .u8 0, .int .u8 0, .int .u8 0, .int .u8 0, .int .u8 0, .int .u8 0, .int .u8 0, .int .u8 0, .int .u8 0, .int .u8 0, .int .u8 0, .int .u8 0, .int .u8 0, .int .u8 0, .int .u8 0, .int .u8 0, .int .u8 0, .int .u8 0] : List Value).toArray PV (by have := HL_PV.out; simp; omega))
        have HW5 : Hid (Below wr.heap.size wr ((wr.alloc (.cells ([.int .u8 0, .int .u8 0, .int .u8 0, .int .u8 0, .int .u8 0, .int .u8 0, .int .u8 0, .int .u8 0, .int .u8 0, .int .u8 0, .int .u8 0, .int .u8 0, .int .u8 0, .int .u8 0, .int .u8 0, .int .u8 0, .int .u8 0, .int .u8 0, .int .u8 0, .int .u8 0] : List Value).toArray 38)).setCells wr.heap.size 0 PV)) := Lib.hid (below_sets PV (Nat.le_refl _) 0 _ ((Below.refl _ _).alloc (Nat.le_refl _) _))
        clear ht hq1 HK4
        generalize (wr.alloc (.cells ([.int .u8 0, .int .u8 0, .int .u8 0, .int .u8 0, .int .u8 0, .int .u8 0, .int .u8 0, .int .u8 0, .int .u8 0, .int .u8 0, .int .u8 0, .int .u8 0, .int .u8 0, .int .u8 0, .int .u8 0, .int .u8 0, .int .u8 0, .int .u8 0, .int .u8 0, .int .u8 0] : List Value).toArray 38)).setCells wr.heap.size 0 PV = w5 at *
        have HT5 := Lib.hid (HTk.out.below HW5.out)
        have HO5 := Lib.hid (HOk.out.below HW5.out)
        have hcd := HCd.out _ HW5.out
        have HGn : Hid (wr.heap.size ≠ tb) := Lib.hid (by have := HZt.out; omega)
        clear HTk HOk HCd
        generalize wr.heap.size = g10 at *
        by_cases d0 : d = 0
        · subst d0
          have hr0 := HK5.out.hd.range
          go_wp2_with (((with_reducible (change wpList _ _ _ _ _ _)); ((refine wpList_load_mid rfl 38 _ rfl (g10) (0) rfl (PV) _ hr0 Tryd.underlying38 rfl HI_PV.out ?_))))
          clear hr0
          refine (C1.out _ HO5.out).mono ?_
          rintro e w6 ⟨u6, rfl, ho6, hb6⟩
          have HK6 := Lib.hid (HK5.out.below hb6 (Nat.le_refl _))
          have HT6 := Lib.hid (HT5.out.below hb6)
          have HO6 := Lib.hid ho6
          obtain ⟨au6, cu6, rfl, _⟩ := own_shape ho6
          clear hb6 ho6 HK5 HT5 HO5
          have hr0 := HK6.out.hd.range
          go_wp2_with (((with_reducible (change wpList _ _ _ _ _ _)); ((refine wpList_load_mid rfl 38 _ rfl (g10) (0) rfl (PV) _ hr0 Tryd.underlying38 rfl HI_PV.out ?_))))
          clear hr0 hcd
          refine (C2.out _ HT6.out (HM.out _ HK6.out.2.1)).mono ?_
          rintro e w7 ⟨rfl, ht7, hg7⟩
          have HK7 := Lib.hid (HK6.out.grown hg7 (fun y hy h => HGn.out (by rw [List.mem_singleton.1 hy] at h; exact Option.some.inj h)) (fun j hj => by cases hj; exact HZ4.out))
          have HTn := Lib.hid ht7
          have HOn := Lib.hid (HO6.out.other HT6.out hg7)
          clear ht7 hg7 HK6 HT6 HO6
          have qa : (AE != AE) = false := by simp
          go_upto_region 29 with (fail)
          clear qa
          have HNl := Lib.hid HTn.out.nl
          have T : Hid (∀ W, Below w7.heap.size w7 W → Tb W tb LA) := Lib.hid (fun W hW => HTn.out.below hW)
          have O : Hid (∀ W, Below w7.heap.size w7 W → Od W (.slice au6 LA.length cu6) LA) := Lib.hid (fun W hW => HOn.out.below hW)
          have HR7 := Lib.hid (Below.refl w7.heap.size w7)
          have HI_FA : Hid ((Tryd.prog.info? 36).map (·.size) = some (bu (fourA LA p.2)).length) := Lib.hid (Tryd.infoU4 _ (fourA_len HNl.out _))
          have HO_FA : Hid ((bu (fourA LA p.2)).toArray.all (·.oneCell') = true) := Lib.hid (bu_one _)
          have HL_FA : Hid ((bu (fourA LA p.2)).length = 4) := Lib.hid (by rw [bu_len]; exact fourA_len HNl.out _)
          have HI_SX : Hid ((Tryd.prog.info? 23).map (·.size) = some (bu (sixA LA p.1)).length) := Lib.hid (Tryd.infoU6 _ (sixA_len HNl.out _))
          have HO_SX : Hid ((bu (sixA LA p.1)).toArray.all (·.oneCell') = true) := Lib.hid (bu_one _)
          have HL_SX : Hid ((bu (sixA LA p.1)).length = 16) := Lib.hid (by rw [bu_len]; exact sixA_len HNl.out _)
          have hq4 : ∀ W, (binOp .neq 36 (.agg (bu (fourA LA p.2)).toArray) (.agg (bu (fourA LA p.2)).toArray)).run Tryd.prog W = .ok (.bool false) W := fun W => by
            have h := nequ4 (fourA LA p.2) (fourA LA p.2) (fourA_len HNl.out _) (fourA_len HNl.out _) W
            rwa [show (!decide (fourA LA p.2 = fourA LA p.2)) = false by simp] at h
          have hq6 : ∀ W, (binOp .neq 23 (.agg (bu (sixA LA p.1)).toArray) (.agg (bu (sixA LA p.1)).toArray)).run Tryd.prog W = .ok (.bool false) W := fun W => by
            have h := nequ6 (sixA LA p.1) (sixA LA p.1) (sixA_len HNl.out _) (sixA_len HNl.out _) W
            rwa [show (!decide (sixA LA p.1 = sixA LA p.1)) = false by simp] at h
          have HQ4 := Lib.hid hq4
          have HQ6 := Lib.hid hq6
          clear hq4 hq6
          have CF2 := Lib.hid (fun W hW => CF.out W LA (T.out W hW))
          have CG2 := Lib.hid (fun W hW => CG.out W _ LA (O.out W hW) HNl.out)
          have CS2 := Lib.hid (fun W hW => CS.out W LA (T.out W hW))
          have CH2 := Lib.hid (fun W hW => CH.out W _ LA (O.out W hW) HNl.out)
          generalize fourI LA p.2 = o4 at *
          generalize sixI LA p.1 = o6 at *
          generalize bu (fourA LA p.2) = FA at *
          generalize bu (sixA LA p.1) = SX at *
          have hr0 := (HRp.out _ _ HK7.out.hd).2
          go_wp2_with (((with_reducible (change wpList _ _ _ _ _ _)); ((refine wpList_load_mid rfl 23 _ rfl (g10) (0 + 4) rfl (VX) _ hr0 Tryd.underlying23 rfl HI_VX.out ?_))))
          clear hr0
          refine (CF2.out _ HR7.out).mono ?_
          rintro e w8 ⟨rfl, bb⟩
          have HK8 := Lib.hid (HK7.out.below bb (Nat.le_refl _))
          have HR8 := Lib.hid (HR7.out.trans (bb.mono HR7.out.size))
          clear bb HK7 HR7
          have hR := below_sets FA HR8.out.size 0 _ (HR8.out.alloc HR8.out.size (.cells ([.int .u8 0, .int .u8 0, .int .u8 0, .int .u8 0] : List Value).toArray 36))
          have HR9 := Lib.hid hR
          clear hR HR8
          have ht := (bk_new w8 36 ([.int .u8 0, .int .u8 0, .int .u8 0, .int .u8 0] : List Value).toArray).there FA.toArray.size (by have := HL_FA.out; simp; omega)
          go_upto_region 30 with (((with_reducible (change wpList _ _ _ _ _ _)); ((refine wpList_store_mid rfl 36 _ _ rfl w8.heap.size 0 FA.toArray rfl rfl ht (by simpa using HI_FA.out) HO_FA.out ?_))))
          have HK9 := Lib.hid (HK8.out.put 36 ([.int .u8 0, .int .u8 0, .int .u8 0, .int .u8 0] : List Value).toArray FA (by have := HL_FA.out; simp; omega))
          clear ht HK8
          generalize (w8.alloc (.cells ([.int .u8 0, .int .u8 0, .int .u8 0, .int .u8 0] : List Value).toArray 36)).setCells w8.heap.size 0 FA = w9 at *
          generalize w8.heap.size = g15 at *
          have hr0 := (HRp.out _ _ HK9.out.tl.hd).2
          go_wp2_with (((with_reducible (change wpList _ _ _ _ _ _)); ((refine wpList_load_mid rfl 23 _ rfl (g10) (0 + 4) rfl (VX) _ hr0 Tryd.underlying23 rfl HI_VX.out ?_))))
          clear hr0
          refine (CG2.out _ HR9.out).mono ?_
          rintro e w10 ⟨rfl, bb⟩
          have HK10 := Lib.hid (HK9.out.below bb (Nat.le_refl _))
          have HR10 := Lib.hid (HR9.out.trans (bb.mono HR9.out.size))
          clear bb HK9 HR9
          have hR := below_sets FA HR10.out.size 0 _ (HR10.out.alloc HR10.out.size (.cells ([.int .u8 0, .int .u8 0, .int .u8 0, .int .u8 0] : List Value).toArray 36))
          have HR11 := Lib.hid hR
          clear hR HR10
          have ht := (bk_new w10 36 ([.int .u8 0, .int .u8 0, .int .u8 0, .int .u8 0] : List Value).toArray).there FA.toArray.size (by have := HL_FA.out; simp; omega)
          go_upto_region 31 with (((with_reducible (change wpList _ _ _ _ _ _)); ((refine wpList_store_mid rfl 36 _ _ rfl w10.heap.size 0 FA.toArray rfl rfl ht (by simpa using HI_FA.out) HO_FA.out ?_))))
          have HK11 := Lib.hid (HK10.out.put 36 ([.int .u8 0, .int .u8 0, .int .u8 0, .int .u8 0] : List Value).toArray FA (by have := HL_FA.out; simp; omega))
          clear ht HK10
          generalize (w10.alloc (.cells ([.int .u8 0, .int .u8 0, .int .u8 0, .int .u8 0] : List Value).toArray 36)).setCells w10.heap.size 0 FA = w11 at *
          generalize w10.heap.size = g17 at *
          have hr0 := (HRp.out _ _ HK11.out.tl.tl.hd).1
          go_wp2_with (((with_reducible (change wpList _ _ _ _ _ _)); ((refine wpList_load_mid rfl 36 _ rfl (g10) (0) rfl (VF) _ hr0 Tryd.underlying36 rfl HI_VF.out ?_))))
          clear hr0
          refine (CS2.out _ HR11.out).mono ?_
          rintro e w12 ⟨rfl, bb⟩
          have HK12 := Lib.hid (HK11.out.below bb (Nat.le_refl _))
          have HR12 := Lib.hid (HR11.out.trans (bb.mono HR11.out.size))
          clear bb HK11 HR11
          have hR := below_sets SX HR12.out.size 0 _ (HR12.out.alloc HR12.out.size (.cells ([.int .u8 0, .int .u8 0, .int .u8 0, .int .u8 0, .int .u8 0, .int .u8 0, .int .u8 0, .int .u8 0, .int .u8 0, .int .u8 0, .int .u8 0, .int .u8 0, .int .u8 0, .int .u8 0, .int .u8 0, .int .u8 0] : List Value).toArray 23))
          have HR13 := Lib.hid hR
          clear hR HR12
          have ht := (bk_new w12 23 ([.int .u8 0, .int .u8 0, .int .u8 0, .int .u8 0, .int .u8 0, .int .u8 0, .int .u8 0, .int .u8 0, .int .u8 0, .int .u8 0, .int .u8 0, .int .u8 0, .int .u8 0, .int .u8 0, .int .u8 0, .int .u8 0] : List Value).toArray).there SX.toArray.size (by have := HL_SX.out; simp; omega)
          go_upto_region 32 with (((with_reducible (change wpList _ _ _ _ _ _)); ((refine wpList_store_mid rfl 23 _ _ rfl w12.heap.size 0 SX.toArray rfl rfl ht (by simpa using HI_SX.out) HO_SX.out ?_))))
          have HK13 := Lib.hid (HK12.out.put 23 ([.int .u8 0, .int .u8 0, .int .u8 0, .int .u8 0, .int .u8 0, .int .u8 0, .int .u8 0, .int .u8 0, .int .u8 0, .int .u8 0, .int .u8 0, .int .u8 0, .int .u8 0, .int .u8 0, .int .u8 0, .int .u8 0] : List Value).toArray SX (by have := HL_SX.out; simp; omega))
          clear ht HK12
          generalize (w12.alloc (.cells ([.int .u8 0, .int .u8 0, .int .u8 0, .int .u8 0, .int .u8 0, .int .u8 0, .int .u8 0, .int .u8 0, .int .u8 0, .int .u8 0, .int .u8 0, .int .u8 0, .int .u8 0, .int .u8 0, .int .u8 0, .int .u8 0] : List Value).toArray 23)).setCells w12.heap.size 0 SX = w13 at *
          generalize w12.heap.size = g19 at *
          have hr0 := (HRp.out _ _ HK13.out.tl.tl.tl.hd).1
          go_wp2_with (((with_reducible (change wpList _ _ _ _ _ _)); ((refine wpList_load_mid rfl 36 _ rfl (g10) (0) rfl (VF) _ hr0 Tryd.underlying36 rfl HI_VF.out ?_))))
          clear hr0
          refine (CH2.out _ HR13.out).mono ?_
          rintro e w14 ⟨rfl, bb⟩
          have HK14 := Lib.hid (HK13.out.below bb (Nat.le_refl _))
          have HR14 := Lib.hid (HR13.out.trans (bb.mono HR13.out.size))
          clear bb HK13 HR13
          have hR := below_sets SX HR14.out.size 0 _ (HR14.out.alloc HR14.out.size (.cells ([.int .u8 0, .int .u8 0, .int .u8 0, .int .u8 0, .int .u8 0, .int .u8 0, .int .u8 0, .int .u8 0, .int .u8 0, .int .u8 0, .int .u8 0, .int .u8 0, .int .u8 0, .int .u8 0, .int .u8 0, .int .u8 0] : List Value).toArray 23))
          have HR15 := Lib.hid hR
          clear hR HR14
          have ht := (bk_new w14 23 ([.int .u8 0, .int .u8 0, .int .u8 0, .int .u8 0, .int .u8 0, .int .u8 0, .int .u8 0, .int .u8 0, .int .u8 0, .int .u8 0, .int .u8 0, .int .u8 0, .int .u8 0, .int .u8 0, .int .u8 0, .int .u8 0] : List Value).toArray).there SX.toArray.size (by have := HL_SX.out; simp; omega)
          go_upto_region 33 with (((with_reducible (change wpList _ _ _ _ _ _)); ((refine wpList_store_mid rfl 23 _ _ rfl w14.heap.size 0 SX.toArray rfl rfl ht (by simpa using HI_SX.out) HO_SX.out ?_))))
          have HK15 := Lib.hid (HK14.out.put 23 ([.int .u8 0, .int .u8 0, .int .u8 0, .int .u8 0, .int .u8 0, .int .u8 0, .int .u8 0, .int .u8 0, .int .u8 0, .int .u8 0, .int .u8 0, .int .u8 0, .int .u8 0, .int .u8 0, .int .u8 0, .int .u8 0] : List Value).toArray SX (by have := HL_SX.out; simp; omega))
          clear ht HK14
          generalize (w14.alloc (.cells ([.int .u8 0, .int .u8 0, .int .u8 0, .int .u8 0, .int .u8 0, .int .u8 0, .int .u8 0, .int .u8 0, .int .u8 0, .int .u8 0, .int .u8 0, .int .u8 0, .int .u8 0, .int .u8 0, .int .u8 0, .int .u8 0] : List Value).toArray 23)).setCells w14.heap.size 0 SX = w15 at *
          generalize w14.heap.size = g21 at *
          have hq4 := HQ4.out
          have hq6 := HQ6.out
          have hr0 := HK15.out.tl.tl.tl.hd.range
          have hr1 := HK15.out.tl.tl.hd.range
          have hr2 := HK15.out.tl.hd.range
          have hr3 := HK15.out.hd.range
          have q4 : (o4 != o4) = false := by simp
          have q6 : (o6 != o6) = false := by simp
          have hle := HNl.out.len
          go_wp2_with (((with_reducible (change wpList _ _ _ _ _ _)); (first | (refine wpList_load_mid rfl 36 _ rfl (g15) (0) rfl (FA) _ hr0 Tryd.underlying36 rfl HI_FA.out ?_) | (refine wpList_load_mid rfl 36 _ rfl (g17) (0) rfl (FA) _ hr1 Tryd.underlying36 rfl HI_FA.out ?_) | (refine wpList_load_if (by rfl) 23 _ rfl (g19) (0) rfl (SX) _ hr2 Tryd.underlying23 rfl HI_SX.out ?_) | (refine wpList_load_if (by rfl) 23 _ rfl (g21) (0) rfl (SX) _ hr3 Tryd.underlying23 rfl HI_SX.out ?_))))
          clear hr0 hr1 hr2 hr3 hq4 hq6 q4 q6
          refine (CJ.out _ _ (T.out _ HR15.out)).mono ?_
          rintro e w9 ⟨rfl, rfl⟩
          go_wp2_with (fail)
          refine (CI.out _ _ (T.out _ HR15.out)).mono ?_
          rintro e w16 ⟨u8, rfl, hu8, bb⟩
          have HK16 := Lib.hid (HK15.out.below bb (Nat.le_refl _))
          have HR16 := Lib.hid (HR15.out.trans (bb.mono HR15.out.size))
          clear bb HK15 HR15
          have CSm := Lib.hid (same_self u8 _ LA w16 (own_rs hu8) (O.out _ HR16.out).rs HNl.out.ok (by omega))
          clear hu8
          go_wp2_with (fail)
          refine (CSm.out).mono ?_
          rintro e w17 ⟨rfl, bb⟩
          have HK17 := Lib.hid (HK16.out.below bb (Nat.le_refl _))
          have HR17 := Lib.hid (HR16.out.trans (bb.mono HR16.out.size))
          clear bb HK16 HR16
          have HTe := Lib.hid (T.out _ HR17.out)
          have HOe := Lib.hid (O.out _ HR17.out)
          have HKe : Hid (Kp w w.heap.size [] w17) := Lib.hid ⟨fun y hy => (by cases hy), HK17.out.2⟩
          clear T O HK17 HR17 CSm CF2 CG2 CS2 CH2 CF CG CS CH CI CJ C1 C2 C3 C4
          go_wp2_with (fail)
          go_roundw
          case rel => exact ⟨k + 1, LA, hlt, by go_num, HTe.out, HOe.out, HKe.out⟩
          case measure => simp [intOf]; omega
        by_cases d1 : d = 1
        · subst d1
          have hd0 : ((1 : Int) == 0) = false := by decide
          clear d0
          have hr0 := (HRp.out _ _ HK5.out.hd).1
          go_wp2_with (((with_reducible (change wpList _ _ _ _ _ _)); ((refine wpList_load_mid rfl 36 _ rfl (g10) (0) rfl (VF) _ hr0 Tryd.underlying36 rfl HI_VF.out ?_))))
          clear hr0
          refine (C3.out _ HO5.out).mono ?_
          rintro e w6 ⟨u6, rfl, ho6, hb6⟩
          have HK6 := Lib.hid (HK5.out.below hb6 (Nat.le_refl _))
          have HT6 := Lib.hid (HT5.out.below hb6)
          have HO6 := Lib.hid ho6
          obtain ⟨au6, cu6, rfl, _⟩ := own_shape ho6
          clear hb6 ho6 HK5 HT5 HO5
          have hr0 := (HRp.out _ _ HK6.out.hd).1
          go_wp2_with (((with_reducible (change wpList _ _ _ _ _ _)); ((refine wpList_load_mid rfl 36 _ rfl (g10) (0) rfl (VF) _ hr0 Tryd.underlying36 rfl HI_VF.out ?_))))
          clear hr0 hcd
          refine (C4.out _ HT6.out).mono ?_
          rintro e w7 ⟨rfl, ht7, hg7⟩
          have HK7 := Lib.hid (HK6.out.grown hg7 (fun y hy h => HGn.out (by rw [List.mem_singleton.1 hy] at h; exact Option.some.inj h)) (fun j hj => by cases hj; exact HZ4.out))
          have HTn := Lib.hid ht7
          have HOn := Lib.hid (HO6.out.other HT6.out hg7)
          clear ht7 hg7 HK6 HT6 HO6
          have qa : (DE != DE) = false := by simp
          go_upto_region 29 with (fail)
          clear qa
          have HNl := Lib.hid HTn.out.nl
          have T : Hid (∀ W, Below w7.heap.size w7 W → Tb W tb LD) := Lib.hid (fun W hW => HTn.out.below hW)
          have O : Hid (∀ W, Below w7.heap.size w7 W → Od W (.slice au6 LD.length cu6) LD) := Lib.hid (fun W hW => HOn.out.below hW)
          have HR7 := Lib.hid (Below.refl w7.heap.size w7)
          have HI_FA : Hid ((Tryd.prog.info? 36).map (·.size) = some (bu (fourA LD p.2)).length) := Lib.hid (Tryd.infoU4 _ (fourA_len HNl.out _))
          have HO_FA : Hid ((bu (fourA LD p.2)).toArray.all (·.oneCell') = true) := Lib.hid (bu_one _)
          have HL_FA : Hid ((bu (fourA LD p.2)).length = 4) := Lib.hid (by rw [bu_len]; exact fourA_len HNl.out _)
          have HI_SX : Hid ((Tryd.prog.info? 23).map (·.size) = some (bu (sixA LD p.1)).length) := Lib.hid (Tryd.infoU6 _ (sixA_len HNl.out _))
          have HO_SX : Hid ((bu (sixA LD p.1)).toArray.all (·.oneCell') = true) := Lib.hid (bu_one _)
          have HL_SX : Hid ((bu (sixA LD p.1)).length = 16) := Lib.hid (by rw [bu_len]; exact sixA_len HNl.out _)
          have hq4 : ∀ W, (binOp .neq 36 (.agg (bu (fourA LD p.2)).toArray) (.agg (bu (fourA LD p.2)).toArray)).run Tryd.prog W = .ok (.bool false) W := fun W => by
            have h := nequ4 (fourA LD p.2) (fourA LD p.2) (fourA_len HNl.out _) (fourA_len HNl.out _) W
            rwa [show (!decide (fourA LD p.2 = fourA LD p.2)) = false by simp] at h
          have hq6 : ∀ W, (binOp .neq 23 (.agg (bu (sixA LD p.1)).toArray) (.agg (bu (sixA LD p.1)).toArray)).run Tryd.prog W = .ok (.bool false) W := fun W => by
            have h := nequ6 (sixA LD p.1) (sixA LD p.1) (sixA_len HNl.out _) (sixA_len HNl.out _) W
            rwa [show (!decide (sixA LD p.1 = sixA LD p.1)) = false by simp] at h
          have HQ4 := Lib.hid hq4
          have HQ6 := Lib.hid hq6
          clear hq4 hq6
          have CF2 := Lib.hid (fun W hW => CF.out W LD (T.out W hW))
          have CG2 := Lib.hid (fun W hW => CG.out W _ LD (O.out W hW) HNl.out)
          have CS2 := Lib.hid (fun W hW => CS.out W LD (T.out W hW))
          have CH2 := Lib.hid (fun W hW => CH.out W _ LD (O.out W hW) HNl.out)
          generalize fourI LD p.2 = o4 at *
          generalize sixI LD p.1 = o6 at *
          generalize bu (fourA LD p.2) = FA at *
          generalize bu (sixA LD p.1) = SX at *
          have hr0 := (HRp.out _ _ HK7.out.hd).2
          go_wp2_with (((with_reducible (change wpList _ _ _ _ _ _)); ((refine wpList_load_mid rfl 23 _ rfl (g10) (0 + 4) rfl (VX) _ hr0 Tryd.underlying23 rfl HI_VX.out ?_))))
          clear hr0
          refine (CF2.out _ HR7.out).mono ?_
          rintro e w8 ⟨rfl, bb⟩
          have HK8 := Lib.hid (HK7.out.below bb (Nat.le_refl _))
          have HR8 := Lib.hid (HR7.out.trans (bb.mono HR7.out.size))
          clear bb HK7 HR7
          have hR := below_sets FA HR8.out.size 0 _ (HR8.out.alloc HR8.out.size (.cells ([.int .u8 0, .int .u8 0, .int .u8 0, .int .u8 0] : List Value).toArray 36))
          have HR9 := Lib.hid hR
          clear hR HR8
          have ht := (bk_new w8 36 ([.int .u8 0, .int .u8 0, .int .u8 0, .int .u8 0] : List Value).toArray).there FA.toArray.size (by have := HL_FA.out; simp; omega)
          go_upto_region 30 with (((with_reducible (change wpList _ _ _ _ _ _)); ((refine wpList_store_mid rfl 36 _ _ rfl w8.heap.size 0 FA.toArray rfl rfl ht (by simpa using HI_FA.out) HO_FA.out ?_))))
          have HK9 := Lib.hid (HK8.out.put 36 ([.int .u8 0, .int .u8 0, .int .u8 0, .int .u8 0] : List Value).toArray FA (by have := HL_FA.out; simp; omega))
          clear ht HK8
          generalize (w8.alloc (.cells ([.int .u8 0, .int .u8 0, .int .u8 0, .int .u8 0] : List Value).toArray 36)).setCells w8.heap.size 0 FA = w9 at *
          generalize w8.heap.size = g15 at *
          have hr0 := (HRp.out _ _ HK9.out.tl.hd).2
          go_wp2_with (((with_reducible (change wpList _ _ _ _ _ _)); ((refine wpList_load_mid rfl 23 _ rfl (g10) (0 + 4) rfl (VX) _ hr0 Tryd.underlying23 rfl HI_VX.out ?_))))
          clear hr0
          refine (CG2.out _ HR9.out).mono ?_
          rintro e w10 ⟨rfl, bb⟩
          have HK10 := Lib.hid (HK9.out.below bb (Nat.le_refl _))
          have HR10 := Lib.hid (HR9.out.trans (bb.mono HR9.out.size))
          clear bb HK9 HR9
          have hR := below_sets FA HR10.out.size 0 _ (HR10.out.alloc HR10.out.size (.cells ([.int .u8 0, .int .u8 0, .int .u8 0, .int .u8 0] : List Value).toArray 36))
          have HR11 := Lib.hid hR
          clear hR HR10
          have ht := (bk_new w10 36 ([.int .u8 0, .int .u8 0, .int .u8 0, .int .u8 0] : List Value).toArray).there FA.toArray.size (by have := HL_FA.out; simp; omega)
          go_upto_region 31 with (((with_reducible (change wpList _ _ _ _ _ _)); ((refine wpList_store_mid rfl 36 _ _ rfl w10.heap.size 0 FA.toArray rfl rfl ht (by simpa using HI_FA.out) HO_FA.out ?_))))
          have HK11 := Lib.hid (HK10.out.put 36 ([.int .u8 0, .int .u8 0, .int .u8 0, .int .u8 0] : List Value).toArray FA (by have := HL_FA.out; simp; omega))
          clear ht HK10
          generalize (w10.alloc (.cells ([.int .u8 0, .int .u8 0, .int .u8 0, .int .u8 0] : List Value).toArray 36)).setCells w10.heap.size 0 FA = w11 at *
          generalize w10.heap.size = g17 at *
          have hr0 := (HRp.out _ _ HK11.out.tl.tl.hd).1
          go_wp2_with (((with_reducible (change wpList _ _ _ _ _ _)); ((refine wpList_load_mid rfl 36 _ rfl (g10) (0) rfl (VF) _ hr0 Tryd.underlying36 rfl HI_VF.out ?_))))
          clear hr0
          refine (CS2.out _ HR11.out).mono ?_
          rintro e w12 ⟨rfl, bb⟩
          have HK12 := Lib.hid (HK11.out.below bb (Nat.le_refl _))
          have HR12 := Lib.hid (HR11.out.trans (bb.mono HR11.out.size))
          clear bb HK11 HR11
          have hR := below_sets SX HR12.out.size 0 _ (HR12.out.alloc HR12.out.size (.cells ([.int .u8 0, .int .u8 0, .int .u8 0, .int .u8 0, .int .u8 0, .int .u8 0, .int .u8 0, .int .u8 0, .int .u8 0, .int .u8 0, .int .u8 0, .int .u8 0, .int .u8 0, .int .u8 0, .int .u8 0, .int .u8 0] : List Value).toArray 23))
          have HR13 := Lib.hid hR
          clear hR HR12
          have ht := (bk_new w12 23 ([.int .u8 0, .int .u8 0, .int .u8 0, .int .u8 0, .int .u8 0, .int .u8 0, .int .u8 0, .int .u8 0, .int .u8 0, .int .u8 0, .int .u8 0, .int .u8 0, .int .u8 0, .int .u8 0, .int .u8 0, .int .u8 0] : List Value).toArray).there SX.toArray.size (by have := HL_SX.out; simp; omega)
          go_upto_region 32 with (((with_reducible (change wpList _ _ _ _ _ _)); ((refine wpList_store_mid rfl 23 _ _ rfl w12.heap.size 0 SX.toArray rfl rfl ht (by simpa using HI_SX.out) HO_SX.out ?_))))
          have HK13 := Lib.hid (HK12.out.put 23 ([.int .u8 0, .int .u8 0, .int .u8 0, .int .u8 0, .int .u8 0, .int .u8 0, .int .u8 0, .int .u8 0, .int .u8 0, .int .u8 0, .int .u8 0, .int .u8 0, .int .u8 0, .int .u8 0, .int .u8 0, .int .u8 0] : List Value).toArray SX (by have := HL_SX.out; simp; omega))
          clear ht HK12
          generalize (w12.alloc (.cells ([.int .u8 0, .int .u8 0, .int .u8 0, .int .u8 0, .int .u8 0, .int .u8 0, .int .u8 0, .int .u8 0, .int .u8 0, .int .u8 0, .int .u8 0, .int .u8 0, .int .u8 0, .int .u8 0, .int .u8 0, .int .u8 0] : List Value).toArray 23)).setCells w12.heap.size 0 SX = w13 at *
          generalize w12.heap.size = g19 at *
          have hr0 := (HRp.out _ _ HK13.out.tl.tl.tl.hd).1
          go_wp2_with (((with_reducible (change wpList _ _ _ _ _ _)); ((refine wpList_load_mid rfl 36 _ rfl (g10) (0) rfl (VF) _ hr0 Tryd.underlying36 rfl HI_VF.out ?_))))
          clear hr0
          refine (CH2.out _ HR13.out).mono ?_
          rintro e w14 ⟨rfl, bb⟩
          have HK14 := Lib.hid (HK13.out.below bb (Nat.le_refl _))
          have HR14 := Lib.hid (HR13.out.trans (bb.mono HR13.out.size))
          clear bb HK13 HR13
          have hR := below_sets SX HR14.out.size 0 _ (HR14.out.alloc HR14.out.size (.cells ([.int .u8 0, .int .u8 0, .int .u8 0, .int .u8 0, .int .u8 0, .int .u8 0, .int .u8 0, .int .u8 0, .int .u8 0, .int .u8 0, .int .u8 0, .int .u8 0, .int .u8 0, .int .u8 0, .int .u8 0, .int .u8 0] : List Value).toArray 23))
          have HR15 := Lib.hid hR
          clear hR HR14
          have ht := (bk_new w14 23 ([.int .u8 0, .int .u8 0, .int .u8 0, .int .u8 0, .int .u8 0, .int .u8 0, .int .u8 0, .int .u8 0, .int .u8 0, .int .u8 0, .int .u8 0, .int .u8 0, .int .u8 0, .int .u8 0, .int .u8 0, .int .u8 0] : List Value).toArray).there SX.toArray.size (by have := HL_SX.out; simp; omega)
          go_upto_region 33 with (((with_reducible (change wpList _ _ _ _ _ _)); ((refine wpList_store_mid rfl 23 _ _ rfl w14.heap.size 0 SX.toArray rfl rfl ht (by simpa using HI_SX.out) HO_SX.out ?_))))
          have HK15 := Lib.hid (HK14.out.put 23 ([.int .u8 0, .int .u8 0, .int .u8 0, .int .u8 0, .int .u8 0, .int .u8 0, .int .u8 0, .int .u8 0, .int .u8 0, .int .u8 0, .int .u8 0, .int .u8 0, .int .u8 0, .int .u8 0, .int .u8 0, .int .u8 0] : List Value).toArray SX (by have := HL_SX.out; simp; omega))
          clear ht HK14
          generalize (w14.alloc (.cells ([.int .u8 0, .int .u8 0, .int .u8 0, .int .u8 0, .int .u8 0, .int .u8 0, .int .u8 0, .int .u8 0, .int .u8 0, .int .u8 0, .int .u8 0, .int .u8 0, .int .u8 0, .int .u8 0, .int .u8 0, .int .u8 0] : List Value).toArray 23)).setCells w14.heap.size 0 SX = w15 at *
          generalize w14.heap.size = g21 at *
          have hq4 := HQ4.out
          have hq6 := HQ6.out
          have hr0 := HK15.out.tl.tl.tl.hd.range
          have hr1 := HK15.out.tl.tl.hd.range
          have hr2 := HK15.out.tl.hd.range
          have hr3 := HK15.out.hd.range
          have q4 : (o4 != o4) = false := by simp
          have q6 : (o6 != o6) = false := by simp
          have hle := HNl.out.len
          go_wp2_with (((with_reducible (change wpList _ _ _ _ _ _)); (first | (refine wpList_load_mid rfl 36 _ rfl (g15) (0) rfl (FA) _ hr0 Tryd.underlying36 rfl HI_FA.out ?_) | (refine wpList_load_mid rfl 36 _ rfl (g17) (0) rfl (FA) _ hr1 Tryd.underlying36 rfl HI_FA.out ?_) | (refine wpList_load_if (by rfl) 23 _ rfl (g19) (0) rfl (SX) _ hr2 Tryd.underlying23 rfl HI_SX.out ?_) | (refine wpList_load_if (by rfl) 23 _ rfl (g21) (0) rfl (SX) _ hr3 Tryd.underlying23 rfl HI_SX.out ?_))))
          clear hr0 hr1 hr2 hr3 hq4 hq6 q4 q6
          refine (CJ.out _ _ (T.out _ HR15.out)).mono ?_
          rintro e w9 ⟨rfl, rfl⟩
          go_wp2_with (fail)
          refine (CI.out _ _ (T.out _ HR15.out)).mono ?_
          rintro e w16 ⟨u8, rfl, hu8, bb⟩
          have HK16 := Lib.hid (HK15.out.below bb (Nat.le_refl _))
          have HR16 := Lib.hid (HR15.out.trans (bb.mono HR15.out.size))
          clear bb HK15 HR15
          have CSm := Lib.hid (same_self u8 _ LD w16 (own_rs hu8) (O.out _ HR16.out).rs HNl.out.ok (by omega))
          clear hu8
          go_wp2_with (fail)
          refine (CSm.out).mono ?_
          rintro e w17 ⟨rfl, bb⟩
          have HK17 := Lib.hid (HK16.out.below bb (Nat.le_refl _))
          have HR17 := Lib.hid (HR16.out.trans (bb.mono HR16.out.size))
          clear bb HK16 HR16
          have HTe := Lib.hid (T.out _ HR17.out)
          have HOe := Lib.hid (O.out _ HR17.out)
          have HKe : Hid (Kp w w.heap.size [] w17) := Lib.hid ⟨fun y hy => (by cases hy), HK17.out.2⟩
          clear T O HK17 HR17 CSm CF2 CG2 CS2 CH2 CF CG CS CH CI CJ C1 C2 C3 C4
          go_wp2_with (fail)
          go_roundw
          case rel => exact ⟨k + 1, LD, hlt, by go_num, HTe.out, HOe.out, HKe.out⟩
          case measure => simp [intOf]; omega
        have hd0 : (d == 0) = false := by simpa using d0
        have hd1 : (d == 1) = false := by simpa using d1
        clear d0 d1
        go_upto_region 29 with (fail)
        clear hd0 hd1 hcd
        have HTn := HT5
        have HOn := HO5
        clear HT5 HO5
        have HNl := Lib.hid HTn.out.nl
        have T : Hid (∀ W, Below w5.heap.size w5 W → Tb W tb L) := Lib.hid (fun W hW => HTn.out.below hW)
        have O : Hid (∀ W, Below w5.heap.size w5 W → Od W (.slice au4 L.length cu4) L) := Lib.hid (fun W hW => HOn.out.below hW)
        have HR5 := Lib.hid (Below.refl w5.heap.size w5)
        have HI_FA : Hid ((Tryd.prog.info? 36).map (·.size) = some (bu (fourA L p.2)).length) := Lib.hid (Tryd.infoU4 _ (fourA_len HNl.out _))
        have HO_FA : Hid ((bu (fourA L p.2)).toArray.all (·.oneCell') = true) := Lib.hid (bu_one _)
        have HL_FA : Hid ((bu (fourA L p.2)).length = 4) := Lib.hid (by rw [bu_len]; exact fourA_len HNl.out _)
        have HI_SX : Hid ((Tryd.prog.info? 23).map (·.size) = some (bu (sixA L p.1)).length) := Lib.hid (Tryd.infoU6 _ (sixA_len HNl.out _))
        have HO_SX : Hid ((bu (sixA L p.1)).toArray.all (·.oneCell') = true) := Lib.hid (bu_one _)
        have HL_SX : Hid ((bu (sixA L p.1)).length = 16) := Lib.hid (by rw [bu_len]; exact sixA_len HNl.out _)
        have hq4 : ∀ W, (binOp .neq 36 (.agg (bu (fourA L p.2)).toArray) (.agg (bu (fourA L p.2)).toArray)).run Tryd.prog W = .ok (.bool false) W := fun W => by
          have h := nequ4 (fourA L p.2) (fourA L p.2) (fourA_len HNl.out _) (fourA_len HNl.out _) W
          rwa [show (!decide (fourA L p.2 = fourA L p.2)) = false by simp] at h
        have hq6 : ∀ W, (binOp .neq 23 (.agg (bu (sixA L p.1)).toArray) (.agg (bu (sixA L p.1)).toArray)).run Tryd.prog W = .ok (.bool false) W := fun W => by
          have h := nequ6 (sixA L p.1) (sixA L p.1) (sixA_len HNl.out _) (sixA_len HNl.out _) W
          rwa [show (!decide (sixA L p.1 = sixA L p.1)) = false by simp] at h
        have HQ4 := Lib.hid hq4
        have HQ6 := Lib.hid hq6
        clear hq4 hq6
        have CF2 := Lib.hid (fun W hW => CF.out W L (T.out W hW))
        have CG2 := Lib.hid (fun W hW => CG.out W _ L (O.out W hW) HNl.out)
        have CS2 := Lib.hid (fun W hW => CS.out W L (T.out W hW))
        have CH2 := Lib.hid (fun W hW => CH.out W _ L (O.out W hW) HNl.out)
        generalize fourI L p.2 = o4 at *
        generalize sixI L p.1 = o6 at *
        generalize bu (fourA L p.2) = FA at *
        generalize bu (sixA L p.1) = SX at *
        have hr0 := (HRp.out _ _ HK5.out.hd).2
        go_wp2_with (((with_reducible (change wpList _ _ _ _ _ _)); ((refine wpList_load_mid rfl 23 _ rfl (g10) (0 + 4) rfl (VX) _ hr0 Tryd.underlying23 rfl HI_VX.out ?_))))
        clear hr0
        refine (CF2.out _ HR5.out).mono ?_
        rintro e w6 ⟨rfl, bb⟩
        have HK6 := Lib.hid (HK5.out.below bb (Nat.le_refl _))
        have HR6 := Lib.hid (HR5.out.trans (bb.mono HR5.out.size))
        clear bb HK5 HR5
        have hR := below_sets FA HR6.out.size 0 _ (HR6.out.alloc HR6.out.size (.cells ([.int .u8 0, .int .u8 0, .int .u8 0, .int .u8 0] : List Value).toArray 36))
        have HR7 := Lib.hid hR
        clear hR HR6
        have ht := (bk_new w6 36 ([.int .u8 0, .int .u8 0, .int .u8 0, .int .u8 0] : List Value).toArray).there FA.toArray.size (by have := HL_FA.out; simp; omega)
        go_upto_region 30 with (((with_reducible (change wpList _ _ _ _ _ _)); ((refine wpList_store_mid rfl 36 _ _ rfl w6.heap.size 0 FA.toArray rfl rfl ht (by simpa using HI_FA.out) HO_FA.out ?_))))
        have HK7 := Lib.hid (HK6.out.put 36 ([.int .u8 0, .int .u8 0, .int .u8 0, .int .u8 0] : List Value).toArray FA (by have := HL_FA.out; simp; omega))
        clear ht HK6
        generalize (w6.alloc (.cells ([.int .u8 0, .int .u8 0, .int .u8 0, .int .u8 0] : List Value).toArray 36)).setCells w6.heap.size 0 FA = w7 at *
        generalize w6.heap.size = g15 at *
        have hr0 := (HRp.out _ _ HK7.out.tl.hd).2
        go_wp2_with (((with_reducible (change wpList _ _ _ _ _ _)); ((refine wpList_load_mid rfl 23 _ rfl (g10) (0 + 4) rfl (VX) _ hr0 Tryd.underlying23 rfl HI_VX.out ?_))))
        clear hr0
        refine (CG2.out _ HR7.out).mono ?_
        rintro e w8 ⟨rfl, bb⟩
        have HK8 := Lib.hid (HK7.out.below bb (Nat.le_refl _))
        have HR8 := Lib.hid (HR7.out.trans (bb.mono HR7.out.size))
        clear bb HK7 HR7
        have hR := below_sets FA HR8.out.size 0 _ (HR8.out.alloc HR8.out.size (.cells ([.int .u8 0, .int .u8 0, .int .u8 0, .int .u8 0] : List Value).toArray 36))
        have HR9 := Lib.hid hR
        clear hR HR8
        have ht := (bk_new w8 36 ([.int .u8 0, .int .u8 0, .int .u8 0, .int .u8 0] : List Value).toArray).there FA.toArray.size (by have := HL_FA.out; simp; omega)
        go_upto_region 31 with (((with_reducible (change wpList _ _ _ _ _ _)); ((refine wpList_store_mid rfl 36 _ _ rfl w8.heap.size 0 FA.toArray rfl rfl ht (by simpa using HI_FA.out) HO_FA.out ?_))))
        have HK9 := Lib.hid (HK8.out.put 36 ([.int .u8 0, .int .u8 0, .int .u8 0, .int .u8 0] : List Value).toArray FA (by have := HL_FA.out; simp; omega))
        clear ht HK8
        generalize (w8.alloc (.cells ([.int .u8 0, .int .u8 0, .int .u8 0, .int .u8 0] : List Value).toArray 36)).setCells w8.heap.size 0 FA = w9 at *
        generalize w8.heap.size = g17 at *
        have hr0 := (HRp.out _ _ HK9.out.tl.tl.hd).1
        go_wp2_with (((with_reducible (change wpList _ _ _ _ _ _)); ((refine wpList_load_mid rfl 36 _ rfl (g10) (0) rfl (VF) _ hr0 Tryd.underlying36 rfl HI_VF.out ?_))))
        clear hr0
        refine (CS2.out _ HR9.out).mono ?_
        rintro e w10 ⟨rfl, bb⟩
        have HK10 := Lib.hid (HK9.out.below bb (Nat.le_refl _))
        have HR10 := Lib.hid (HR9.out.trans (bb.mono HR9.out.size))
        clear bb HK9 HR9
        have hR := below_sets SX HR10.out.size 0 _ (HR10.out.alloc HR10.out.size (.cells ([.int .u8 0, .int .u8 0, .int .u8 0, .int .u8 0, .int .u8 0, .int .u8 0, .int .u8 0, .int .u8 0, .int .u8 0, .int .u8 0, .int .u8 0, .int .u8 0, .int .u8 0, .int .u8 0, .int .u8 0, .int .u8 0] : List Value).toArray 23))
        have HR11 := Lib.hid hR
        clear hR HR10
        have ht := (bk_new w10 23 ([.int .u8 0, .int .u8 0, .int .u8 0, .int .u8 0, .int .u8 0, .int .u8 0, .int .u8 0, .int .u8 0, .int .u8 0, .int .u8 0, .int .u8 0, .int .u8 0, .int .u8 0, .int .u8 0, .int .u8 0, .int .u8 0] : List Value).toArray).there SX.toArray.size (by have := HL_SX.out; simp; omega)
        go_upto_region 32 with (((with_reducible (change wpList _ _ _ _ _ _)); ((refine wpList_store_mid rfl 23 _ _ rfl w10.heap.size 0 SX.toArray rfl rfl ht (by simpa using HI_SX.out) HO_SX.out ?_))))
        have HK11 := Lib.hid (HK10.out.put 23 ([.int .u8 0, .int .u8 0, .int .u8 0, .int .u8 0, .int .u8 0, .int .u8 0, .int .u8 0, .int .u8 0, .int .u8 0, .int .u8 0, .int .u8 0, .int .u8 0, .int .u8 0, .int .u8 0, .int .u8 0, .int .u8 0] : List Value).toArray SX (by have := HL_SX.out; simp; omega))
        clear ht HK10
        generalize (w10.alloc (.cells ([.int .u8 0, .int .u8 0, .int .u8 0, .int .u8 0, .int .u8 0, .int .u8 0, .int .u8 0, .int .u8 0, .int .u8 0, .int .u8 0, .int .u8 0, .int .u8 0, .int .u8 0, .int .u8 0, .int .u8 0, .int .u8 0] : List Value).toArray 23)).setCells w10.heap.size 0 SX = w11 at *
        generalize w10.heap.size = g19 at *
        have hr0 := (HRp.out _ _ HK11.out.tl.tl.tl.hd).1
        go_wp2_with (((with_reducible (change wpList _ _ _ _ _ _)); ((refine wpList_load_mid rfl 36 _ rfl (g10) (0) rfl (VF) _ hr0 Tryd.underlying36 rfl HI_VF.out ?_))))
        clear hr0
        refine (CH2.out _ HR11.out).mono ?_
        rintro e w12 ⟨rfl, bb⟩
        have HK12 := Lib.hid (HK11.out.below bb (Nat.le_refl _))
        have HR12 := Lib.hid (HR11.out.trans (bb.mono HR11.out.size))
        clear bb HK11 HR11
        have hR := below_sets SX HR12.out.size 0 _ (HR12.out.alloc HR12.out.size (.cells ([.int .u8 0, .int .u8 0, .int .u8 0, .int .u8 0, .int .u8 0, .int .u8 0, .int .u8 0, .int .u8 0, .int .u8 0, .int .u8 0, .int .u8 0, .int .u8 0, .int .u8 0, .int .u8 0, .int .u8 0, .int .u8 0] : List Value).toArray 23))
        have HR13 := Lib.hid hR
        clear hR HR12
        have ht := (bk_new w12 23 ([.int .u8 0, .int .u8 0, .int .u8 0, .int .u8 0, .int .u8 0, .int .u8 0, .int .u8 0, .int .u8 0, .int .u8 0, .int .u8 0, .int .u8 0, .int .u8 0, .int .u8 0, .int .u8 0, .int .u8 0, .int .u8 0] : List Value).toArray).there SX.toArray.size (by have := HL_SX.out; simp; omega)
        go_upto_region 33 with (((with_reducible (change wpList _ _ _ _ _ _)); ((refine wpList_store_mid rfl 23 _ _ rfl w12.heap.size 0 SX.toArray rfl rfl ht (by simpa using HI_SX.out) HO_SX.out ?_))))
        have HK13 := Lib.hid (HK12.out.put 23 ([.int .u8 0, .int .u8 0, .int .u8 0, .int .u8 0, .int .u8 0, .int .u8 0, .int .u8 0, .int .u8 0, .int .u8 0, .int .u8 0, .int .u8 0, .int .u8 0, .int .u8 0, .int .u8 0, .int .u8 0, .int .u8 0] : List Value).toArray SX (by have := HL_SX.out; simp; omega))
        clear ht HK12
        generalize (w12.alloc (.cells ([.int .u8 0, .int .u8 0, .int .u8 0, .int .u8 0, .int .u8 0, .int .u8 0, .int .u8 0, .int .u8 0, .int .u8 0, .int .u8 0, .int .u8 0, .int .u8 0, .int .u8 0, .int .u8 0, .int .u8 0, .int .u8 0] : List Value).toArray 23)).setCells w12.heap.size 0 SX = w13 at *
        generalize w12.heap.size = g21 at *
        have hq4 := HQ4.out
        have hq6 := HQ6.out
        have hr0 := HK13.out.tl.tl.tl.hd.range
        have hr1 := HK13.out.tl.tl.hd.range
        have hr2 := HK13.out.tl.hd.range
        have hr3 := HK13.out.hd.range
        have q4 : (o4 != o4) = false := by simp
        have q6 : (o6 != o6) = false := by simp
        have hle := HNl.out.len
        go_wp2_with (((with_reducible (change wpList _ _ _ _ _ _)); (first | (refine wpList_load_mid rfl 36 _ rfl (g15) (0) rfl (FA) _ hr0 Tryd.underlying36 rfl HI_FA.out ?_) | (refine wpList_load_mid rfl 36 _ rfl (g17) (0) rfl (FA) _ hr1 Tryd.underlying36 rfl HI_FA.out ?_) | (refine wpList_load_if (by rfl) 23 _ rfl (g19) (0) rfl (SX) _ hr2 Tryd.underlying23 rfl HI_SX.out ?_) | (refine wpList_load_if (by rfl) 23 _ rfl (g21) (0) rfl (SX) _ hr3 Tryd.underlying23 rfl HI_SX.out ?_))))
        clear hr0 hr1 hr2 hr3 hq4 hq6 q4 q6
        refine (CJ.out _ _ (T.out _ HR13.out)).mono ?_
        rintro e w9 ⟨rfl, rfl⟩
        go_wp2_with (fail)
        refine (CI.out _ _ (T.out _ HR13.out)).mono ?_
        rintro e w14 ⟨u8, rfl, hu8, bb⟩
        have HK14 := Lib.hid (HK13.out.below bb (Nat.le_refl _))
        have HR14 := Lib.hid (HR13.out.trans (bb.mono HR13.out.size))
        clear bb HK13 HR13
        have CSm := Lib.hid (same_self u8 _ L w14 (own_rs hu8) (O.out _ HR14.out).rs HNl.out.ok (by omega))
        clear hu8
        go_wp2_with (fail)
        refine (CSm.out).mono ?_
        rintro e w15 ⟨rfl, bb⟩
        have HK15 := Lib.hid (HK14.out.below bb (Nat.le_refl _))
        have HR15 := Lib.hid (HR14.out.trans (bb.mono HR14.out.size))
        clear bb HK14 HR14
        have HTe := Lib.hid (T.out _ HR15.out)
        have HOe := Lib.hid (O.out _ HR15.out)
        have HKe : Hid (Kp w w.heap.size [] w15) := Lib.hid ⟨fun y hy => (by cases hy), HK15.out.2⟩
        clear T O HK15 HR15 CSm CF2 CG2 CS2 CH2 CF CG CS CH CI CJ C1 C2 C3 C4
        go_wp2_with (fail)
        go_roundw
        case rel => exact ⟨k + 1, L, hlt, by go_num, HTe.out, HOe.out, HKe.out⟩
        case measure => simp [intOf]; omega
      · obtain rfl : k = ac.length := by omega
        go_wp2_with fail
        go_ret
        exact ⟨rfl, HK4.out.2.1⟩
end Go.Proofs.YtchdagdmbjpmcaaDoor
