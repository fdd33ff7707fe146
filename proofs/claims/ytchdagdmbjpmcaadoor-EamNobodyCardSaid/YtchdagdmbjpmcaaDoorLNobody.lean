/-
  Proved here: the law EamNobody answers true.
  Conditions: a pair of addresses of their lengths; the program's lists of martian addresses stand.
-/
import Derived.Test.YtchdagdmbjpmcaaDoorEc
namespace Go.Proofs.YtchdagdmbjpmcaaDoor
open Go.RowKit

set_option maxRecDepth 100000 in
set_option maxHeartbeats 8000000 in
theorem eamNobody_any (p : List UInt8 × List UInt8) (w : World) (hp : okPr p) (hm : Hm w) :
    Calls Tryd.prog 6 #[.agg (prv p).toArray] w fun e w' => e = .returned (.bool true) ∧ Below w.heap.size w w' := by
  have HM : Hid (∀ W, Below w.heap.size w W → Hm W) := Lib.hid (fun W hW => hm.below hW)
  have CA : Hid (∀ W, Below w.heap.size w W → Calls Tryd.prog 21 #[] W fun e w' => e = .returned (.bool true) ∧ Below W.heap.size W w') := Lib.hid (fun W hW => awake_true W (hm.below hW))
  have CF := Lib.hid (fun W => four_nil p.2 W)
  have CS := Lib.hid (fun W => six_nil p.1 W)
  have CB : Hid (∀ W b, Tb W b [] → Calls Tryd.prog 25 #[.pointer (some ⟨b, 0, none⟩), .agg (bu p.2).toArray] W fun e w' => e = .returned (.tuple #[.agg (bu (List.replicate 4 0)).toArray, .bool false]) ∧ Below W.heap.size W w') := Lib.hid (fun W b hT => four_any b [] p.2 W hT hp.2)
  have CR : Hid (∀ W, Calls Tryd.prog 23 #[.slice none 0 0, .agg (prv p).toArray] W fun e w' => ∃ u, e = .returned (.tuple #[u, .int .i64 (addE [] p)]) ∧ Od w' u (addL [] p) ∧ Below W.heap.size W w') := Lib.hid (fun W => radd_any (.slice none 0 0) [] p W (own_nil _ _) okPs_nil (Nat.zero_le _) hp)
  have CN := Lib.hid (fun W => add_nil p W)
  have CD := Lib.hid (fun W => drop_nil p.1 W hp.1)
  have CE : Hid (∀ W b, Tb W b [] → Calls Tryd.prog 18 #[.pointer (some ⟨b, 0, none⟩), .agg (bu p.1).toArray] W fun e w' => e = .returned (.int .i64 4) ∧ Tb w' b [] ∧ W.grownBy w' (some b)) := Lib.hid (fun W b hT => drop_any b [] p.1 W hT hp.1)
  have CG : Hid (∀ W b, Tb W b [] → Hm W → Calls Tryd.prog 17 #[.pointer (some ⟨b, 0, none⟩), .agg (prv p).toArray] W fun e w' => e = .returned (.int .i64 (addE [] p)) ∧ Tb w' b (addL [] p) ∧ W.grownBy w' (some b)) := Lib.hid (fun W b hT h => add_any b [] p W hT hp h)
  have CL := Lib.hid (fun W b l (hT : Tb W b l) => len_any b l W hT)
  have CLn := Lib.hid len_nil
  have CAn := Lib.hid all_nil
  have HAl : Hid ((addL [] p).length ≤ 16) := Lib.hid ((Nl.nil.add hp).len)
  have HI_VF : Hid ((Tryd.prog.info? 36).map (·.size) = some (bu p.1).length) := Lib.hid (Tryd.infoU4 _ (hp.1))
  have HO_VF : Hid ((bu p.1).toArray.all (·.oneCell') = true) := Lib.hid (bu_one _)
  have HL_VF : Hid ((bu p.1).length = 4) := Lib.hid (by rw [bu_len]; exact hp.1)
  have HI_VX : Hid ((Tryd.prog.info? 23).map (·.size) = some (bu p.2).length) := Lib.hid (Tryd.infoU6 _ (hp.2))
  have HO_VX : Hid ((bu p.2).toArray.all (·.oneCell') = true) := Lib.hid (bu_one _)
  have HL_VX : Hid ((bu p.2).length = 16) := Lib.hid (by rw [bu_len]; exact hp.2)
  have HI_PV : Hid ((Tryd.prog.info? 38).map (·.size) = some (prv p).length) := Lib.hid (Tryd.infoP _ (hp))
  have HO_PV : Hid ((prv p).toArray.all (·.oneCell') = true) := Lib.hid (prv_ones _)
  have HL_PV : Hid ((prv p).length = 20) := Lib.hid (prv_len (hp))
  have HI_N4 : Hid ((Tryd.prog.info? 36).map (·.size) = some (bu (List.replicate 4 0)).length) := Lib.hid (Tryd.infoU4 _ (rfl))
  have HO_N4 : Hid ((bu (List.replicate 4 0)).toArray.all (·.oneCell') = true) := Lib.hid (bu_one _)
  have HL_N4 : Hid ((bu (List.replicate 4 0)).length = 4) := Lib.hid (by rw [bu_len]; exact rfl)
  have HI_N6 : Hid ((Tryd.prog.info? 23).map (·.size) = some (bu (List.replicate 16 0)).length) := Lib.hid (Tryd.infoU6 _ (rfl))
  have HO_N6 : Hid ((bu (List.replicate 16 0)).toArray.all (·.oneCell') = true) := Lib.hid (bu_one _)
  have HL_N6 : Hid ((bu (List.replicate 16 0)).length = 16) := Lib.hid (by rw [bu_len]; exact rfl)
  have HK1 := Lib.hid ((Kp.start w).new 38 (prv p))
  have HFr : Hid (∀ W, Kp w w.heap.size [(w.heap.size, 38, prv p)] W → W.rangeAt w.heap.size 0 (bu p.1)) := Lib.hid (fun W k => range_f k.hd.range)
  have HP := Lib.hid hp
  have HXr : Hid (∀ W, Kp w w.heap.size [(w.heap.size, 38, prv p)] W → W.rangeAt w.heap.size (0 + 4) (bu p.2)) := Lib.hid (fun W k => range_x k.hd.range HP.out)
  clear hp hm HP
  generalize addE [] p = E at *
  generalize addL [] p = L2 at *
  generalize bu p.1 = VF at *
  generalize bu p.2 = VX at *
  generalize bu (List.replicate 4 0) = N4 at *
  generalize bu (List.replicate 16 0) = N6 at *
  generalize hPV : prv p = PV at *
  clear hPV
  generalize hw1 : w.alloc (.cells PV.toArray 38) = w1 at *
  go_enter Tryd.func6, Tryd.ntmps6
  go_upto_region 1 with (fail)
  clear hw1
  go_wp2_with (fail)
  refine (CA.out _ HK1.out.2.1).mono ?_
  rintro e w2 ⟨rfl, bb⟩
  have HK2 := Lib.hid (HK1.out.below bb (Nat.le_refl _))
  clear bb HK1
  go_upto_region 4 with (fail)
  have hbt := Tryd.bTable w2
  have HT := Lib.hid (tb_new w2)
  have HBW := Lib.hid (HK2.out.alloc (.cells #[.slice none 0 0, .map none, .map none] 62))
  have HGe : Hid (w.heap.size ≤ w2.heap.size ∧ w.heap.size ≠ w2.heap.size) := Lib.hid ⟨HK2.out.2.2, HK2.out.ne (w.heap.size, 38, PV) (by simp)⟩
  generalize hw : w2.alloc (.cells #[.slice none 0 0, .map none, .map none] 62) = w20 at *
  go_upto_region 5 with (fail)
  clear hw hbt HK2
  generalize w2.heap.size = b at *
  have HT : Hid (∀ W, Below w20.heap.size w20 W → Tb W b []) := Lib.hid (fun W hW => HT.out.below hW)
  have HK20 := HBW
  clear HBW
  have HR20 := Lib.hid (Below.refl w20.heap.size w20)
  have hr0 := HXr.out _ HK20.out
  go_wp2_with (((with_reducible (change wpList _ _ _ _ _ _)); ((refine wpList_load_mid rfl 23 _ rfl (w.heap.size) (0 + 4) rfl (VX) _ hr0 Tryd.underlying23 rfl HI_VX.out ?_))))
  clear hr0
  refine (CF.out _).mono ?_
  rintro e w21 ⟨rfl, bb⟩
  have HK21 := Lib.hid (HK20.out.below bb (Nat.le_refl _))
  have HR21 := Lib.hid (HR20.out.trans (bb.mono HR20.out.size))
  clear bb HK20 HR20
  have hR := below_sets N4 HR21.out.size 0 _ (HR21.out.alloc HR21.out.size (.cells ([.int .u8 0, .int .u8 0, .int .u8 0, .int .u8 0] : List Value).toArray 36))
  have HR22 := Lib.hid hR
  clear hR HR21
  have ht := (bk_new w21 36 ([.int .u8 0, .int .u8 0, .int .u8 0, .int .u8 0] : List Value).toArray).there N4.toArray.size (by have := HL_N4.out; simp; omega)
  go_upto_region 6 with (((with_reducible (change wpList _ _ _ _ _ _)); ((refine wpList_store_mid rfl 36 _ _ rfl w21.heap.size 0 N4.toArray rfl rfl ht (by simpa using HI_N4.out) HO_N4.out ?_))))
  have HK22 := Lib.hid (HK21.out.put 36 ([.int .u8 0, .int .u8 0, .int .u8 0, .int .u8 0] : List Value).toArray N4 (by have := HL_N4.out; simp; omega))
  clear ht HK21
  generalize (w21.alloc (.cells ([.int .u8 0, .int .u8 0, .int .u8 0, .int .u8 0] : List Value).toArray 36)).setCells w21.heap.size 0 N4 = w22 at *
  generalize w21.heap.size = g5 at *
  have hr0 := HFr.out _ HK22.out.tl
  go_wp2_with (((with_reducible (change wpList _ _ _ _ _ _)); ((refine wpList_load_mid rfl 36 _ rfl (w.heap.size) (0) rfl (VF) _ hr0 Tryd.underlying36 rfl HI_VF.out ?_))))
  clear hr0
  refine (CS.out _).mono ?_
  rintro e w23 ⟨rfl, bb⟩
  have HK23 := Lib.hid (HK22.out.below bb (Nat.le_refl _))
  have HR23 := Lib.hid (HR22.out.trans (bb.mono HR22.out.size))
  clear bb HK22 HR22
  have hR := below_sets N6 HR23.out.size 0 _ (HR23.out.alloc HR23.out.size (.cells ([.int .u8 0, .int .u8 0, .int .u8 0, .int .u8 0, .int .u8 0, .int .u8 0, .int .u8 0, .int .u8 0, .int .u8 0, .int .u8 0, .int .u8 0, .int .u8 0, .int .u8 0, .int .u8 0, .int .u8 0, .int .u8 0] : List Value).toArray 23))
  have HR24 := Lib.hid hR
  clear hR HR23
  have ht := (bk_new w23 23 ([.int .u8 0, .int .u8 0, .int .u8 0, .int .u8 0, .int .u8 0, .int .u8 0, .int .u8 0, .int .u8 0, .int .u8 0, .int .u8 0, .int .u8 0, .int .u8 0, .int .u8 0, .int .u8 0, .int .u8 0, .int .u8 0] : List Value).toArray).there N6.toArray.size (by have := HL_N6.out; simp; omega)
  go_upto_region 7 with (((with_reducible (change wpList _ _ _ _ _ _)); ((refine wpList_store_mid rfl 23 _ _ rfl w23.heap.size 0 N6.toArray rfl rfl ht (by simpa using HI_N6.out) HO_N6.out ?_))))
  have HK24 := Lib.hid (HK23.out.put 23 ([.int .u8 0, .int .u8 0, .int .u8 0, .int .u8 0, .int .u8 0, .int .u8 0, .int .u8 0, .int .u8 0, .int .u8 0, .int .u8 0, .int .u8 0, .int .u8 0, .int .u8 0, .int .u8 0, .int .u8 0, .int .u8 0] : List Value).toArray N6 (by have := HL_N6.out; simp; omega))
  clear ht HK23
  generalize (w23.alloc (.cells ([.int .u8 0, .int .u8 0, .int .u8 0, .int .u8 0, .int .u8 0, .int .u8 0, .int .u8 0, .int .u8 0, .int .u8 0, .int .u8 0, .int .u8 0, .int .u8 0, .int .u8 0, .int .u8 0, .int .u8 0, .int .u8 0] : List Value).toArray 23)).setCells w23.heap.size 0 N6 = w24 at *
  generalize w23.heap.size = g7 at *
  have hr0 := HXr.out _ HK24.out.tl.tl
  go_wp2_with (((with_reducible (change wpList _ _ _ _ _ _)); ((refine wpList_load_mid rfl 23 _ rfl (w.heap.size) (0 + 4) rfl (VX) _ hr0 Tryd.underlying23 rfl HI_VX.out ?_))))
  clear hr0
  refine (CB.out _ _ (HT.out _ HR24.out)).mono ?_
  rintro e w25 ⟨rfl, bb⟩
  have HK25 := Lib.hid (HK24.out.below bb (Nat.le_refl _))
  have HR25 := Lib.hid (HR24.out.trans (bb.mono HR24.out.size))
  clear bb HK24 HR24
  have hR := below_sets N4 HR25.out.size 0 _ (HR25.out.alloc HR25.out.size (.cells ([.int .u8 0, .int .u8 0, .int .u8 0, .int .u8 0] : List Value).toArray 36))
  have HR26 := Lib.hid hR
  clear hR HR25
  have ht := (bk_new w25 36 ([.int .u8 0, .int .u8 0, .int .u8 0, .int .u8 0] : List Value).toArray).there N4.toArray.size (by have := HL_N4.out; simp; omega)
  go_upto_region 8 with (((with_reducible (change wpList _ _ _ _ _ _)); ((refine wpList_store_mid rfl 36 _ _ rfl w25.heap.size 0 N4.toArray rfl rfl ht (by simpa using HI_N4.out) HO_N4.out ?_))))
  have HK26 := Lib.hid (HK25.out.put 36 ([.int .u8 0, .int .u8 0, .int .u8 0, .int .u8 0] : List Value).toArray N4 (by have := HL_N4.out; simp; omega))
  clear ht HK25
  generalize (w25.alloc (.cells ([.int .u8 0, .int .u8 0, .int .u8 0, .int .u8 0] : List Value).toArray 36)).setCells w25.heap.size 0 N4 = w26 at *
  generalize w25.heap.size = g9 at *
  have hr0 := HK26.out.tl.tl.tl.hd.range
  go_wp2_with (((with_reducible (change wpList _ _ _ _ _ _)); ((refine wpList_load_mid rfl 38 _ rfl (w.heap.size) (0) rfl (PV) _ hr0 Tryd.underlying38 rfl HI_PV.out ?_))))
  clear hr0
  refine (CR.out _).mono ?_
  rintro e w27 ⟨u, rfl, hu, bb⟩
  have HK27 := Lib.hid (HK26.out.below bb (Nat.le_refl _))
  have HR27 := Lib.hid (HR26.out.trans (bb.mono HR26.out.size))
  clear bb HK26 HR26
  obtain ⟨au, cu, rfl, _⟩ := own_shape hu
  clear hu
  have hr0 := HK27.out.tl.tl.tl.hd.range
  go_wp2_with (((with_reducible (change wpList _ _ _ _ _ _)); ((refine wpList_load_mid rfl 38 _ rfl (w.heap.size) (0) rfl (PV) _ hr0 Tryd.underlying38 rfl HI_PV.out ?_))))
  clear hr0
  refine (CN.out _).mono ?_
  rintro e w28 ⟨rfl, bb⟩
  have HK28 := Lib.hid (HK27.out.below bb (Nat.le_refl _))
  have HR28 := Lib.hid (HR27.out.trans (bb.mono HR27.out.size))
  clear bb HK27 HR27
  have hr0 := HFr.out _ HK28.out.tl.tl.tl
  go_wp2_with (((with_reducible (change wpList _ _ _ _ _ _)); ((refine wpList_load_if (by rfl) 36 _ rfl (w.heap.size) (0) rfl (VF) _ hr0 Tryd.underlying36 rfl HI_VF.out ?_))))
  clear hr0
  refine (CD.out _).mono ?_
  rintro e w29 ⟨rfl, bb⟩
  have HK29 := Lib.hid (HK28.out.below bb (Nat.le_refl _))
  have HR29 := Lib.hid (HR28.out.trans (bb.mono HR28.out.size))
  clear bb HK28 HR28
  have hr0 := HFr.out _ HK29.out.tl.tl.tl
  go_wp2_with (((with_reducible (change wpList _ _ _ _ _ _)); ((refine wpList_load_if (by rfl) 36 _ rfl (w.heap.size) (0) rfl (VF) _ hr0 Tryd.underlying36 rfl HI_VF.out ?_))))
  clear hr0
  refine (CE.out _ _ (HT.out _ HR29.out)).mono ?_
  rintro e w30 ⟨rfl, hT, hg⟩
  have hlow := HK29.out.tl.tl.tl
  have HK30 := Lib.hid (hlow.grown hg (fun x hx h => HGe.out.2 (by rw [List.mem_singleton.1 hx] at h; exact Option.some.inj h)) (fun j hj => by cases hj; exact HGe.out.1))
  have HT : Hid (∀ W, Below w30.heap.size w30 W → Tb W b []) := Lib.hid (fun W hW => hT.below hW)
  have HR30 := Lib.hid (Below.refl w30.heap.size w30)
  clear hT hg hlow HK29 HR29
  go_wp2_with (fail)
  refine (CLn.out _).mono ?_
  rintro e w9 ⟨rfl, rfl⟩
  go_wp2_with (fail)
  refine (CAn.out _).mono ?_
  rintro e w9 ⟨rfl, rfl⟩
  go_wp2_with (fail)
  refine (CL.out _ _ _ (HT.out _ HR30.out)).mono ?_
  rintro e w9 ⟨rfl, rfl⟩
  have hr0 := HK30.out.hd.range
  go_wp2_with (((with_reducible (change wpList _ _ _ _ _ _)); ((refine wpList_load_if (by rfl) 38 _ rfl (w.heap.size) (0) rfl (PV) _ hr0 Tryd.underlying38 rfl HI_PV.out ?_))))
  clear hr0
  refine (CG.out _ _ (HT.out _ HR30.out) (HM.out _ HK30.out.2.1)).mono ?_
  rintro e w31 ⟨rfl, hT, hg⟩
  have hlow := HK30.out
  have HK31 := Lib.hid (hlow.grown hg (fun x hx h => HGe.out.2 (by rw [List.mem_singleton.1 hx] at h; exact Option.some.inj h)) (fun j hj => by cases hj; exact HGe.out.1))
  have HT : Hid (∀ W, Below w31.heap.size w31 W → Tb W b L2) := Lib.hid (fun W hW => hT.below hW)
  have HR31 := Lib.hid (Below.refl w31.heap.size w31)
  clear hT hg hlow HK30 HR30
  go_wp2_with (fail)
  refine (CL.out _ _ _ (HT.out _ HR31.out)).mono ?_
  rintro e w9 ⟨rfl, rfl⟩
  go_wp2_with (fail)
  go_ret
  exact ⟨rfl, HK31.out.2.1⟩
end Go.Proofs.YtchdagdmbjpmcaaDoor
