/-
  Proved here: the law EamTurned answers true.
  Conditions: a slice that reads as pairs of addresses of their lengths; the program's lists of martian addresses stand.
-/
import Derived.Test.YtchdagdmbjpmcaaDoorGd
namespace Go.Proofs.YtchdagdmbjpmcaaDoor
open Go.RowKit

set_option maxRecDepth 100000 in
set_option maxHeartbeats 8000000 in
theorem eamTurned_any (v : Value) (l : Kv) (w : World) (hR : Rs w v l) (hl : okPs l) (hm : Hm w) :
    Calls Tryd.prog 9 #[v] w fun e w' => e = .returned (.bool true) ∧ Below w.heap.size w w' := by
  have HR : Hid (∀ W, Below w.heap.size w W → Rs W v l) := Lib.hid (fun W hW => hR.below hW)
  have HL := Lib.hid hl
  have HM : Hid (∀ W, Below w.heap.size w W → Hm W) := Lib.hid (fun W hW => hm.below hW)
  have CA : Hid (∀ W, Below w.heap.size w W → Calls Tryd.prog 21 #[] W fun e w' => e = .returned (.bool true) ∧ Below W.heap.size W w') := Lib.hid (fun W hW => awake_true W (hm.below hW))
  obtain ⟨ao, cap, rfl, _, _⟩ := hR.shape
  clear hR hl hm
  go_enter Tryd.func9, Tryd.ntmps9
  go_wp2_with fail
  refine (CA.out _ (Below.refl _ _)).mono ?_
  rintro e w1 ⟨rfl, hb1⟩
  have HB1 := Lib.hid hb1
  clear hb1 CA
  by_cases h100 : 100 < l.length
  · have h1 : (100 : Int) < (l.length : Int) := by omega
    clear h100
    go_wp2_with fail
    go_ret
    exact ⟨rfl, HB1.out⟩
  have h1 : ¬ (100 : Int) < (l.length : Int) := by omega
  have hn : l.length ≤ 100 := by omega
  clear h100
  go_upto_region 6 with (fail)
  have hs1 : (-1 : Int) ≤ (l.length : Int) - 1 := by omega
  go_wp2_with fail
  go_loopw [3, 4] (fun u i wr => ∃ k : Nat, k ≤ l.length ∧ i = .int .i64 ((k : Int) - 1) ∧ wr.ownsRow w.heap.size 38 20 u (l.drop k).reverse.length (prV (l.drop k).reverse) ∧ Below w.heap.size w wr) (fun _ i _ => (intOf i + 1).toNat)
  case atStart => exact ⟨l.length, Nat.le_refl _, rfl, by rw [List.drop_length]; exact own_nil _ _, HB1.out⟩
  case round =>
    obtain ⟨k, hk, rfl, hu, hb⟩ := hrel
    have HU := Lib.hid hu
    have HB := Lib.hid hb
    obtain ⟨au, cu, rfl, _⟩ := own_shape hu
    clear hu hb h1 hs1
    by_cases h0 : 0 < k
    · obtain ⟨j, rfl⟩ : ∃ j, k = j + 1 := ⟨k - 1, by omega⟩
      have hj : j < l.length := by omega
      have e1 : ((j + 1 : Nat) : Int) - 1 = (j : Int) := by omega
      rw [e1]
      obtain ⟨_, _, hsh, _, hS⟩ := (HR.out _ HB.out).shape
      obtain ⟨b2, o2, e2, hbl, hr⟩ := hS j hj
      obtain rfl : ao = some ⟨b2, o2, none⟩ := by
        cases hsh
        exact e2
      have HOk := Lib.hid (okPs_at HL.out j hj)
      have hq1 := range_el hr HL.out j hj
      have HI_PV : Hid ((Tryd.prog.info? 38).map (·.size) = some (prv l[j]).length) := Lib.hid (Tryd.infoP _ (HOk.out))
      have HO_PV : Hid ((prv l[j]).toArray.all (·.oneCell') = true) := Lib.hid (prv_ones _)
      have HL_PV : Hid ((prv l[j]).length = 20) := Lib.hid (prv_len (HOk.out))
      have HBS := Lib.hid (bslice_one l[j] HOk.out)
      have HE : Hid ((l.drop (j + 1)).reverse ++ [l[j]] = (l.drop j).reverse) := Lib.hid (by rw [drop_at j hj, List.reverse_cons])
      have hj2 : (j : Int) < (l.length : Int) := by omega
      have HDl : Hid ((l.drop (j + 1)).reverse.length ≤ 100) := Lib.hid (by rw [List.length_reverse, List.length_drop]; omega)
      have hR1 := rs_lit wr l[j]
      obtain ⟨v2, w3, hr2, ho2, hg2, _⟩ := app_rs (wr.alloc (.cells (prv l[j]).toArray 38)) w.heap.size _ (.slice (some ⟨wr.heap.size, 0, none⟩) 1 1) (l.drop (j + 1)).reverse [l[j]] 40 (ow_below HU.out ((Below.refl _ _).alloc (Nat.le_refl _) _)) hR1 (okPs_one HOk.out) (by have := HDl.out; simp at this ⊢; omega) (by have := HB.out.size; simp; omega)
      have HBE : Hid (Below w.heap.size w w3) := Lib.hid ((HB.out.alloc HB.out.size _).grown hg2 (by have := HB.out.size; simp; omega) (fun k hk => (HU.out.lt k hk).1))
      have HO2 : Hid (w3.ownsRow w.heap.size 38 20 v2 (l.drop j).reverse.length (prV (l.drop j).reverse)) := Lib.hid (by rw [← HE.out]; exact ho2)
      clear hr hsh hS hbl e2 hR1 ho2 hg2 e1
      generalize prv l[j] = PV at *
      go_wp2_with (first | ((with_reducible (change wpList _ _ _ _ _ _)); (refine wpList_load_mid rfl 38 _ rfl b2 (o2 + j * 20) rfl PV _ hq1 Tryd.underlying38 rfl HI_PV.out ?_)) | ((with_reducible (change wpList _ _ _ _ _ _)); (refine wpList_bslice rfl rfl (by simp only [List.map_toArray]; rfl) (HBS.out _) ?_)) | (at_builtin; refine Lib.wpList_append_run _ rfl _ _ _ _ rfl _ _ rfl rfl _ _ hr2 ?_))
      go_roundw
      case rel => exact ⟨j, by omega, by go_num, HO2.out, HBE.out⟩
      case measure => simp [intOf]
    · obtain rfl : k = 0 := by omega
      have HU0 : Hid (wr.ownsRow w.heap.size 38 20 (.slice au (l.drop 0).reverse.length cu) l.reverse.length (prV l.reverse)) := Lib.hid (by have := HU.out; rwa [List.drop_zero] at this ⊢)
      rw [List.drop_zero] at HU0 ⊢
      clear HU HB1
      obtain ⟨r, hrv⟩ : ∃ r, r = l.reverse := ⟨_, rfl⟩
      have HRe : Hid (newE r = 0 ↔ newE l = 0) := Lib.hid (by rw [hrv]; exact newE_rev l)
      have HRk : Hid (okPs r) := Lib.hid (by rw [hrv]; exact okPs_rev HL.out)
      have HRn : Hid (r.length = l.length) := Lib.hid (by rw [hrv, List.length_reverse])
      have HRg' : Hid (Good l → Good r) := Lib.hid (fun h => by rw [hrv]; exact h.rev)
      have HRm : Hid (∀ p ∈ l, p ∈ r) := Lib.hid (fun p hp => by rw [hrv]; exact List.mem_reverse.2 hp)
      rw [← hrv] at HU0 ⊢
      clear hrv
      have CN := Lib.hid (new_any (.slice ao l.length cap) l wr (HR.out _ HB.out) HL.out (by omega) (HM.out _ HB.out))
      go_wp2_with fail
      refine (CN.out).mono ?_
      rintro e w2 ⟨hb2, hcase⟩
      have HB2 := Lib.hid hb2
      have HBw2 := Lib.hid (HB.out.trans (hb2.mono HB.out.size))
      have HU2 := Lib.hid (ow_below HU0.out hb2)
      clear hb2 CN
      have CM := Lib.hid (new_any (.slice au r.length cu) r w2 (own_rs HU2.out) (HRk.out) (by rw [HRn.out]; omega) (HM.out _ HBw2.out))
      rcases hcase with ⟨h0, rfl, hT⟩ | ⟨h0, rfl⟩
      rotate_left
      · have h00 : newE r ≠ 0 := fun h => h0 (HRe.out.1 h)
        have q1 : (newE l == 0) = false := by simpa using h0
        have q2 : (newE l != 0) = true := by simpa using h0
        have q3 : (newE r == 0) = false := by simpa using h00
        generalize newE l = E1 at *
        generalize newE r = E2 at *
        clear h0
        go_wp2_with fail
        refine (CM.out).mono ?_
        rintro e w3 ⟨hb3, hcase⟩
        have HB3 := Lib.hid (HBw2.out.trans (hb3.mono HBw2.out.size))
        clear hb3 CM
        rcases hcase with ⟨h01, _⟩ | ⟨_, rfl⟩
        · exact absurd h01 h00
        · clear h00
          go_wp2_with fail
          go_ret
          exact ⟨rfl, HB3.out⟩
      · have HG := Lib.hid (newE_good.1 h0)
        rw [newL_good HG.out] at hT
        have HT1 := Lib.hid hT
        clear hT h0
        go_wp2_with fail
        refine (CM.out).mono ?_
        rintro e w3 ⟨hb3, hcase⟩
        have HB3 := Lib.hid (HBw2.out.trans (hb3.mono HBw2.out.size))
        have HT1 := Lib.hid (HT1.out.below hb3)
        have HU3 := Lib.hid (ow_below HU2.out hb3)
        clear hb3 CM
        rcases hcase with ⟨_, rfl, hT⟩ | ⟨h01, _⟩
        rotate_left
        · exact absurd (HRe.out.2 (newE_good.2 HG.out)) h01
        rw [newL_good (HRg'.out HG.out)] at hT
        have HT2 := Lib.hid hT
        clear hT HU2 HB2 HBw2 HU0 HB
        generalize wr.heap.size = b1 at *
        generalize w2.heap.size = b5 at *
        have T1 : Hid (∀ W, Below w3.heap.size w3 W → Tb W b1 l) := Lib.hid (fun W hW => HT1.out.below hW)
        have T2 : Hid (∀ W, Below w3.heap.size w3 W → Tb W b5 r) := Lib.hid (fun W hW => HT2.out.below hW)
        have HR3 : Hid (∀ W, Below w3.heap.size w3 W → Rs W (.slice ao l.length cap) l) := Lib.hid (fun W hW => HR.out _ (HB3.out.trans (hW.mono HB3.out.size)))
        have HM3 : Hid (∀ W, Below w3.heap.size w3 W → Hm W) := Lib.hid (fun W hW => HM.out _ (HB3.out.trans (hW.mono HB3.out.size)))
        have HBE : Hid (∀ W, Below w3.heap.size w3 W → Below w.heap.size w W) := Lib.hid (fun W hW => HB3.out.trans (hW.mono HB3.out.size))
        have HU4 : Hid (∀ W, Below w3.heap.size w3 W → Rs W (.slice au r.length cu) r) := Lib.hid (fun W hW => (own_rs HU3.out).below hW)
        clear HT1 HT2 HU3 HR HM HB3
        go_wp2_with fail
        go_loopw [9] (fun i wr => ∃ k : Nat, k ≤ l.length ∧ i = .int .i64 k ∧ Below w3.heap.size w3 wr) (fun i _ => l.length - (intOf i).toNat)
        case atStart => exact ⟨0, Nat.zero_le _, rfl, Below.refl _ _⟩
        case round =>
          obtain ⟨k, hk, rfl, hb⟩ := hrel
          have HB := Lib.hid hb
          clear hb
          by_cases hlt : k < l.length
          · obtain ⟨_, _, hsh, _, hS⟩ := (HR3.out _ HB.out).shape
            obtain ⟨b2, o2, e2, hbl, hr⟩ := hS k hlt
            obtain rfl : ao = some ⟨b2, o2, none⟩ := by
              cases hsh
              exact e2
            obtain ⟨p, hp⟩ : ∃ p, p = l[k] := ⟨_, rfl⟩
            have HPm : Hid (p ∈ l) := Lib.hid (by rw [hp]; exact List.getElem_mem hlt)
            have HOk := Lib.hid (HL.out p HPm.out)
            have HRg : Hid (∀ W, Below wr.heap.size wr W → W.rangeAt b2 (o2 + k * 20) (prv p)) := Lib.hid (fun W hW => range_below (by rw [hp]; exact range_el hr HL.out k hlt) hbl hW)
            have HRf : Hid (∀ W, Below wr.heap.size wr W → W.rangeAt b2 (o2 + k * 20) (bu p.1)) := Lib.hid (fun W hW => range_f (HRg.out W hW))
            have HRx : Hid (∀ W, Below wr.heap.size wr W → W.rangeAt b2 (o2 + k * 20 + 4) (bu p.2)) := Lib.hid (fun W hW => range_x (HRg.out W hW) HOk.out)
            have HI_VF : Hid ((Tryd.prog.info? 36).map (·.size) = some (bu p.1).length) := Lib.hid (Tryd.infoU4 _ (HOk.out.1))
            have HO_VF : Hid ((bu p.1).toArray.all (·.oneCell') = true) := Lib.hid (bu_one _)
            have HL_VF : Hid ((bu p.1).length = 4) := Lib.hid (by rw [bu_len]; exact HOk.out.1)
            have HI_VX : Hid ((Tryd.prog.info? 23).map (·.size) = some (bu p.2).length) := Lib.hid (Tryd.infoU6 _ (HOk.out.2))
            have HO_VX : Hid ((bu p.2).toArray.all (·.oneCell') = true) := Lib.hid (bu_one _)
            have HL_VX : Hid ((bu p.2).length = 16) := Lib.hid (by rw [bu_len]; exact HOk.out.2)
            have HI_PV : Hid ((Tryd.prog.info? 38).map (·.size) = some (prv p).length) := Lib.hid (Tryd.infoP _ (HOk.out))
            have HO_PV : Hid ((prv p).toArray.all (·.oneCell') = true) := Lib.hid (prv_ones _)
            have HL_PV : Hid ((prv p).length = 20) := Lib.hid (prv_len (HOk.out))
            have C4 : Hid (∀ W, Below wr.heap.size wr W → Calls Tryd.prog 25 #[.pointer (some ⟨b5, 0, none⟩), .agg (bu p.2).toArray] W fun e w' => e = .returned (.tuple #[.agg (bu p.1).toArray, .bool true]) ∧ Below W.heap.size W w') := Lib.hid (fun W hW => by
              have h := four_any b5 r p.2 W (T2.out W (HB.out.trans (hW.mono HB.out.size))) HOk.out.2
              have e := four_of (HRg'.out HG.out).ds (HRm.out p HPm.out)
              rwa [e.1, e.2] at h)
            have C6 : Hid (∀ W, Below wr.heap.size wr W → Calls Tryd.prog 16 #[.pointer (some ⟨b1, 0, none⟩), .agg (bu p.1).toArray] W fun e w' => e = .returned (.tuple #[.agg (bu p.2).toArray, .bool true]) ∧ Below W.heap.size W w') := Lib.hid (fun W hW => by
              have h := six_any b1 l p.1 W (T1.out W (HB.out.trans (hW.mono HB.out.size))) HOk.out.1
              have e := six_of HG.out.ds HPm.out
              rwa [e.1, e.2] at h)
            have CN5 : Hid (∀ W u, Rs W u (l ++ [p]) → Below wr.heap.size wr W → Calls Tryd.prog 14 #[u] W fun e w' => Below W.heap.size W w' ∧ e = .returned (.tuple #[.pointer none, .int .i64 5])) := Lib.hid (fun W u hu hW => by
              refine (new_any u (l ++ [p]) W hu (okPs_snoc HL.out HOk.out) (by simp; omega) (HM3.out W (HB.out.trans (hW.mono HB.out.size)))).mono ?_
              have e := newE_twice HG.out HPm.out
              rintro e' w' ⟨h1, ⟨h2, _⟩ | ⟨_, h3⟩⟩
              · rw [e] at h2; cases h2
              · rw [e] at h3; exact ⟨h1, h3⟩)
            have HRl : Hid (∀ W, Below wr.heap.size wr W → Rs W (.slice (some ⟨b2, o2, none⟩) l.length cap) l) := Lib.hid (fun W hW => HR3.out W (HB.out.trans (hW.mono HB.out.size)))
            have HBS := Lib.hid (bslice_one p HOk.out)
            have hq4 : ∀ W, (binOp .neq 36 (.agg (bu p.1).toArray) (.agg (bu p.1).toArray)).run Tryd.prog W = .ok (.bool false) W := fun W => by
              have h := nequ4 p.1 p.1 HOk.out.1 HOk.out.1 W
              rwa [show (!decide (p.1 = p.1)) = false by simp] at h
            have hq6 : ∀ W, (binOp .neq 23 (.agg (bu p.2).toArray) (.agg (bu p.2).toArray)).run Tryd.prog W = .ok (.bool false) W := fun W => by
              have h := nequ6 p.2 p.2 HOk.out.2 HOk.out.2 W
              rwa [show (!decide (p.2 = p.2)) = false by simp] at h
            have HQ4 := Lib.hid hq4
            have HQ6 := Lib.hid hq6
            have hk2 : (k : Int) < (l.length : Int) := by omega
            have HKw : Hid (Kp wr wr.heap.size [] wr) := Lib.hid (Kp.start wr)
            clear hr hsh hS hbl e2 hp hq4 hq6
            generalize bu p.1 = VF at *
            generalize bu p.2 = VX at *
            generalize hPV : prv p = PV at *
            have HPV := Lib.hid hPV
            clear hPV
            have HKr := HKw
            have hr0 := HRx.out _ (Below.refl _ wr)
            go_wp2_with (((with_reducible (change wpList _ _ _ _ _ _)); ((refine wpList_load_mid rfl 23 _ rfl (b2) (o2 + k * 20 + 4) rfl (VX) _ hr0 Tryd.underlying23 rfl HI_VX.out ?_))))
            clear hr0
            refine (C4.out _ (Below.refl _ wr)).mono ?_
            rintro e w5 ⟨rfl, bb⟩
            have HK5 := Lib.hid (HKw.out.below bb (Nat.le_refl _))
            clear bb HKw HKr
            have ht := (bk_new w5 36 ([.int .u8 0, .int .u8 0, .int .u8 0, .int .u8 0] : List Value).toArray).there VF.toArray.size (by have := HL_VF.out; simp; omega)
            go_upto_region 20 with (((with_reducible (change wpList _ _ _ _ _ _)); ((refine wpList_store_mid rfl 36 _ _ rfl w5.heap.size 0 VF.toArray rfl rfl ht (by simpa using HI_VF.out) HO_VF.out ?_))))
            have HK6 := Lib.hid (HK5.out.put 36 ([.int .u8 0, .int .u8 0, .int .u8 0, .int .u8 0] : List Value).toArray VF (by have := HL_VF.out; simp; omega))
            clear ht HK5
            generalize (w5.alloc (.cells ([.int .u8 0, .int .u8 0, .int .u8 0, .int .u8 0] : List Value).toArray 36)).setCells w5.heap.size 0 VF = w6 at *
            generalize w5.heap.size = g10 at *
            have hr0 := HRf.out _ HK6.out.2.1
            go_wp2_with (((with_reducible (change wpList _ _ _ _ _ _)); ((refine wpList_load_mid rfl 36 _ rfl (b2) (o2 + k * 20) rfl (VF) _ hr0 Tryd.underlying36 rfl HI_VF.out ?_))))
            clear hr0
            refine (C6.out _ HK6.out.2.1).mono ?_
            rintro e w7 ⟨rfl, bb⟩
            have HK7 := Lib.hid (HK6.out.below bb (Nat.le_refl _))
            clear bb HK6
            have ht := (bk_new w7 23 ([.int .u8 0, .int .u8 0, .int .u8 0, .int .u8 0, .int .u8 0, .int .u8 0, .int .u8 0, .int .u8 0, .int .u8 0, .int .u8 0, .int .u8 0, .int .u8 0, .int .u8 0, .int .u8 0, .int .u8 0, .int .u8 0] : List Value).toArray).there VX.toArray.size (by have := HL_VX.out; simp; omega)
            go_upto_region 21 with (((with_reducible (change wpList _ _ _ _ _ _)); ((refine wpList_store_mid rfl 23 _ _ rfl w7.heap.size 0 VX.toArray rfl rfl ht (by simpa using HI_VX.out) HO_VX.out ?_))))
            have HK8 := Lib.hid (HK7.out.put 23 ([.int .u8 0, .int .u8 0, .int .u8 0, .int .u8 0, .int .u8 0, .int .u8 0, .int .u8 0, .int .u8 0, .int .u8 0, .int .u8 0, .int .u8 0, .int .u8 0, .int .u8 0, .int .u8 0, .int .u8 0, .int .u8 0] : List Value).toArray VX (by have := HL_VX.out; simp; omega))
            clear ht HK7
            generalize (w7.alloc (.cells ([.int .u8 0, .int .u8 0, .int .u8 0, .int .u8 0, .int .u8 0, .int .u8 0, .int .u8 0, .int .u8 0, .int .u8 0, .int .u8 0, .int .u8 0, .int .u8 0, .int .u8 0, .int .u8 0, .int .u8 0, .int .u8 0] : List Value).toArray 23)).setCells w7.heap.size 0 VX = w8 at *
            generalize w7.heap.size = g12 at *
            have HX : Hid (∀ W, Below w8.heap.size w8 W → Below wr.heap.size wr W) := Lib.hid (fun W hW => HK8.out.2.1.trans (hW.mono HK8.out.2.2))
            refine wp_region_noPanic ?_
            refine wp_region_held_drew (S := fun W => Below w8.heap.size w8 W) (by kernel_rfl) ((Below.refl _ w8).drew) (fun hHeld => ?_)
            refine wpAnyH_take (i := 1) (oi := { dst := some 86, op := Op.move (Operand.tmp 0), type := 40, pos := "more.go:31", after := #[], guard := none }) (v := ?_) rfl (by kernel_rfl) (by kernel_rfl) (by kernel_rfl) (fun _ _ _ h => h) (Or.inl ⟨by rfl, ?_⟩) (by assumption) ?_
            rotate_left
            · (intro ww hSw; (try dsimp only at hSw); go_simp; try with_reducible rfl)
            (try simp only [Act.put, List.setIfInBounds_toArray, List.set_cons_zero, List.set_cons_succ])
            refine wpAnyH_take (i := 3) (oi := { dst := some 88, op := Op.move (Operand.tmp 0), type := 40, pos := "more.go:31", after := #[], guard := none }) (v := ?_) rfl (by kernel_rfl) (by kernel_rfl) (by kernel_rfl) (fun _ _ _ h => h) (Or.inl ⟨by rfl, ?_⟩) (by assumption) ?_
            rotate_left
            · (intro ww hSw; (try dsimp only at hSw); go_simp; try with_reducible rfl)
            (try simp only [Act.put, List.setIfInBounds_toArray, List.set_cons_zero, List.set_cons_succ])
            refine wpAnyH_take (i := 4) (oi := { dst := some 89, op := Op.move (Operand.tmp 9), type := 3, pos := "more.go:31", after := #[], guard := none }) (v := ?_) rfl (by kernel_rfl) (by kernel_rfl) (by kernel_rfl) (fun _ _ _ h => h) (Or.inl ⟨by rfl, ?_⟩) (by assumption) ?_
            rotate_left
            · (intro ww hSw; (try dsimp only at hSw); go_simp; try with_reducible rfl)
            (try simp only [Act.put, List.setIfInBounds_toArray, List.set_cons_zero, List.set_cons_succ])
            refine wpAnyH_take (i := 5) (oi := { dst := some 90, op := Op.indexAddr 40 (Operand.tmp 88) (Operand.tmp 89), type := 0, pos := "more.go:31", after := #[{ on := 3, ground := Ground.data }, { on := 4, ground := Ground.data }], guard := none }) (v := ?_) rfl (by kernel_rfl) (by kernel_rfl) (by kernel_rfl) (fun _ _ _ h => h) (Or.inl ⟨by rfl, ?_⟩) (by assumption) ?_
            rotate_left
            · (intro ww hSw; (try dsimp only at hSw); go_simp; try with_reducible rfl)
            (try simp only [Act.put, List.setIfInBounds_toArray, List.set_cons_zero, List.set_cons_succ])
            refine wpAnyH_take (i := 6) (oi := { dst := some 91, op := Op.load 38 (Operand.tmp 90), type := 38, pos := "more.go:31", after := #[{ on := 5, ground := Ground.data }], guard := none }) (v := .agg (PV).toArray) rfl (by kernel_rfl) (by kernel_rfl) (by kernel_rfl) (fun _ _ _ h => h) (yieldsIf_load_mid (by rfl) _ _ rfl (b2) (o2 + k * 20) rfl (PV) _ (fun ww hSw => HRg.out _ (HX.out _ hSw)) Tryd.underlying38 rfl HI_PV.out) (by assumption) ?_
            (try simp only [Act.put, List.setIfInBounds_toArray, List.set_cons_zero, List.set_cons_succ])
            refine wpAnyH_ready (rs := [0, 7]) (by kernel_rfl) (by simp) ?_
            refine AllReadyH.cons (o := { dst := some 85, op := Op.buildSlice 40 0 #[], type := 40, pos := "more.go:31", after := #[], guard := none }) rfl (fun K hK => ?_) (AllReadyH.cons (o := { dst := some 92, op := Op.buildSlice 40 1 #[(0, Operand.tmp 91)], type := 40, pos := "more.go:31", after := #[{ on := 6, ground := Ground.data }], guard := none }) rfl (fun K hK => ?_) AllReadyH.nil)
            · rw [if_pos (by rfl)]
              refine wp_bslice rfl (by simp only [List.map_toArray]; rfl) (Tryd.bsNone _) ?_
              refine hK.out _ _ (hHeld.alloc hHeld.size _) (fun hHeld => ?_)
              clear hK K
              (try simp only [Act.put, List.setIfInBounds_toArray, List.set_cons_zero, List.set_cons_succ])
              have hO0 := own_lit w8.drew
              refine wpAnyH_ready (rs := [2, 7]) (by kernel_rfl) (by simp) ?_
              refine AllReadyH.cons (o := { dst := some 87, op := Op.call { callee := Callee.builtin Builtin.append, args := #[Operand.tmp 85, Operand.tmp 86], argTypes := #[40, 40] }, type := 40, pos := "more.go:31", after := #[{ on := 0, ground := Ground.data }, { on := 1, ground := Ground.data }], guard := none }) rfl (fun K hK => ?_) (AllReadyH.cons (o := { dst := some 92, op := Op.buildSlice 40 1 #[(0, Operand.tmp 91)], type := 40, pos := "more.go:31", after := #[{ on := 6, ground := Ground.data }], guard := none }) rfl (fun K hK => ?_) AllReadyH.nil)
              · rw [if_pos (by rfl)]
                have hRl := HRl.out _ (HX.out _ hHeld)
                obtain ⟨v1, wA, hrA, hoA, hgA, _⟩ := app_rs (w8.drew.alloc (.cells #[] 38)) w8.heap.size _ _ [] l 40 (hO0) hRl HL.out (by simp; omega) hHeld.size
                rw [List.nil_append] at hoA
                refine Lib.wp_append_run _ _ _ _ _ rfl _ _ rfl rfl _ _ hrA ?_
                refine hK.out _ _ (hHeld.grown hgA hHeld.size (fun j hj => (hO0.lt j hj).1)) (fun hHeld => ?_)
                clear hK K
                (try simp only [Act.put, List.setIfInBounds_toArray, List.set_cons_zero, List.set_cons_succ])
                refine wpAnyH_ready (rs := [7]) (by kernel_rfl) (by simp) ?_
                refine AllReadyH.cons (o := { dst := some 92, op := Op.buildSlice 40 1 #[(0, Operand.tmp 91)], type := 40, pos := "more.go:31", after := #[{ on := 6, ground := Ground.data }], guard := none }) rfl (fun K hK => ?_) AllReadyH.nil
                rw [if_pos (by rfl)]
                refine wp_bslice rfl (by simp only [List.map_toArray]; rfl) (HBS.out _) ?_
                refine hK.out _ _ (hHeld.alloc hHeld.size _) (fun hHeld => ?_)
                clear hK K
                (try simp only [Act.put, List.setIfInBounds_toArray, List.set_cons_zero, List.set_cons_succ])
                have hB1 := bk_new wA 38 PV.toArray
                have hoA := ow_below hoA ((Below.refl _ wA).alloc (Nat.le_refl _) (.cells PV.toArray 38))
                refine wpAnyH_ready (rs := [8]) (by kernel_rfl) (by simp) ?_
                refine AllReadyH.cons (o := { dst := some 93, op := Op.call { callee := Callee.builtin Builtin.append, args := #[Operand.tmp 87, Operand.tmp 92], argTypes := #[40, 40] }, type := 40, pos := "more.go:31", after := #[{ on := 2, ground := Ground.data }, { on := 7, ground := Ground.data }, { on := 2, ground := Ground.chain }], guard := none }) rfl (fun K hK => ?_) AllReadyH.nil
                rw [if_pos (by rfl)]
                obtain ⟨v2, wB, hrB, hoB, hgB, _⟩ := app_rs (wA.alloc (.cells PV.toArray 38)) w8.heap.size v1 _ l [p] 40 hoA (.inr ⟨_, 1, rfl, Nat.le_refl _, .inr ⟨_, 0, rfl, hB1.lt, by rw [prV_one, HPV.out]; exact hB1.range⟩⟩) (okPs_one HOk.out) (by simp; omega) hHeld.size
                refine Lib.wp_append_run _ _ _ _ _ rfl _ _ rfl rfl _ _ hrB ?_
                refine hK.out _ _ (hHeld.grown hgB hHeld.size (fun j hj => (hoA.lt j hj).1)) (fun hHeld => ?_)
                clear hK K
                (try simp only [Act.put, List.setIfInBounds_toArray, List.set_cons_zero, List.set_cons_succ])
                refine wpAnyH_ready (rs := [9]) (by kernel_rfl) (by simp) ?_
                refine AllReadyH.cons (o := { dst := some 94, op := Op.call { callee := Callee.value (Operand.func 14), args := #[Operand.tmp 93], argTypes := #[40] }, type := 33, pos := "more.go:31", after := #[{ on := 8, ground := Ground.data }, { on := 8, ground := Ground.chain }], guard := none }) rfl (fun K hK => ?_) AllReadyH.nil
                go_simp
                ((with_reducible refine (CN5.out _ _ (own_rs hoB) (HX.out _ hHeld)).mono ?_); rintro e wC ⟨hbC, rfl⟩)
                refine hK.out _ _ (hHeld.trans (hbC.mono hHeld.size)) (fun hHeld => ?_)
                clear hK K
                (try simp only [Act.put, List.setIfInBounds_toArray, List.set_cons_zero, List.set_cons_succ])
                refine wpAnyH_take (i := 10) (oi := { dst := some 84, op := Op.move (Operand.tmp 94), type := 33, pos := "more.go:31", after := #[{ on := 9, ground := Ground.data }], guard := none }) (v := ?_) rfl (by kernel_rfl) (by kernel_rfl) (by kernel_rfl) (fun _ _ _ h => h) (Or.inl ⟨by rfl, ?_⟩) (by assumption) ?_
                rotate_left
                · (intro ww hSw; (try dsimp only at hSw); go_simp; try with_reducible rfl)
                (try simp only [Act.put, List.setIfInBounds_toArray, List.set_cons_zero, List.set_cons_succ])
                refine wpAnyH_take (i := 11) (oi := { dst := some 95, op := Op.extract (Operand.tmp 84) 0, type := 31, pos := "more.go:31", after := #[{ on := 10, ground := Ground.data }], guard := none }) (v := ?_) rfl (by kernel_rfl) (by kernel_rfl) (by kernel_rfl) (fun _ _ _ h => h) (Or.inl ⟨by rfl, ?_⟩) (by assumption) ?_
                rotate_left
                · (intro ww hSw; (try dsimp only at hSw); go_simp; try with_reducible rfl)
                (try simp only [Act.put, List.setIfInBounds_toArray, List.set_cons_zero, List.set_cons_succ])
                refine wpAnyH_take (i := 12) (oi := { dst := some 96, op := Op.extract (Operand.tmp 84) 1, type := 32, pos := "more.go:31", after := #[{ on := 10, ground := Ground.data }, { on := 13, ground := Ground.gcOnly Departure.lateStores }], guard := none }) (v := ?_) rfl (by kernel_rfl) (by kernel_rfl) (by kernel_rfl) (fun _ _ _ h => h) (Or.inl ⟨by rfl, ?_⟩) (by assumption) ?_
                rotate_left
                · (intro ww hSw; (try dsimp only at hSw); go_simp; try with_reducible rfl)
                (try simp only [Act.put, List.setIfInBounds_toArray, List.set_cons_zero, List.set_cons_succ])
                refine wpAnyH_take (i := 13) (oi := { dst := some 14, op := Op.assign (Operand.tmp 95), type := 31, pos := "more.go:31", after := #[{ on := 11, ground := Ground.data }, { on := 9, ground := Ground.chain }, { on := 0, ground := Ground.phase }, { on := 1, ground := Ground.phase }, { on := 2, ground := Ground.phase }, { on := 3, ground := Ground.phase }, { on := 4, ground := Ground.phase }, { on := 5, ground := Ground.phase }, { on := 6, ground := Ground.phase }, { on := 7, ground := Ground.phase }, { on := 8, ground := Ground.phase }, { on := 9, ground := Ground.phase }, { on := 10, ground := Ground.phase }, { on := 11, ground := Ground.phase }, { on := 12, ground := Ground.textOnly Departure.lateStores }], guard := none }) (v := ?_) rfl (by kernel_rfl) (by kernel_rfl) (by kernel_rfl) (fun _ _ _ h => h) (Or.inl ⟨by rfl, ?_⟩) (by assumption) ?_
                rotate_left
                · (intro ww hSw; (try dsimp only at hSw); go_simp; try with_reducible rfl)
                (try simp only [Act.put, List.setIfInBounds_toArray, List.set_cons_zero, List.set_cons_succ])
                refine wpAnyH_take (i := 14) (oi := { dst := some 15, op := Op.assign (Operand.tmp 96), type := 32, pos := "more.go:31", after := #[{ on := 12, ground := Ground.data }, { on := 13, ground := Ground.chain }, { on := 0, ground := Ground.phase }, { on := 1, ground := Ground.phase }, { on := 2, ground := Ground.phase }, { on := 3, ground := Ground.phase }, { on := 4, ground := Ground.phase }, { on := 5, ground := Ground.phase }, { on := 6, ground := Ground.phase }, { on := 7, ground := Ground.phase }, { on := 8, ground := Ground.phase }, { on := 9, ground := Ground.phase }, { on := 10, ground := Ground.phase }, { on := 11, ground := Ground.phase }, { on := 12, ground := Ground.phase }, { on := 13, ground := Ground.phase }], guard := none }) (v := ?_) rfl (by kernel_rfl) (by kernel_rfl) (by kernel_rfl) (fun _ _ _ h => h) (Or.inl ⟨by rfl, ?_⟩) (by assumption) ?_
                rotate_left
                · (intro ww hSw; (try dsimp only at hSw); go_simp; try with_reducible rfl)
                (try simp only [Act.put, List.setIfInBounds_toArray, List.set_cons_zero, List.set_cons_succ])
                refine wpAnyH_done (by kernel_rfl) ?_ _
                refine NoPanic.normal ?_
                have HKE : Hid (Kp wr wr.heap.size [(g12, 23, VX), (g10, 36, VF)] wC) := Lib.hid (HK8.out.below hHeld (Nat.le_refl _))
                clear hHeld hbC hoB hgB hoA hgA hB1 hO0
                have hq4 := HQ4.out
                have hq6 := HQ6.out
                go_upto_region 22 with (fail)
                refine wp_region_noPanic ?_
                refine wp_region_held_drew (S := fun W => Kp wr wr.heap.size [(g12, 23, VX), (g10, 36, VF)] W ∧ W.rangeAt b2 (o2 + k * 20) VF ∧ W.rangeAt b2 (o2 + k * 20 + 4) VX) (by kernel_rfl) (⟨HKE.out.drew, HRf.out _ HKE.out.2.1.drew, HRx.out _ HKE.out.2.1.drew⟩) (fun hHeld => ?_)
                refine wpAnyH_take (i := 0) (oi := { dst := some 97, op := Op.move (Operand.tmp 11), type := 4, pos := "more.go:32", after := #[], guard := none }) (v := ?_) rfl (by kernel_rfl) (by kernel_rfl) (by kernel_rfl) (fun _ _ _ h => h) (Or.inl ⟨by rfl, ?_⟩) (by assumption) ?_
                rotate_left
                · (intro ww hSw; (try dsimp only at hSw); go_simp; try with_reducible rfl)
                (try simp only [Act.put, List.setIfInBounds_toArray, List.set_cons_zero, List.set_cons_succ])
                refine wpAnyH_take (i := 1) (oi := { dst := some 98, op := Op.unOp UnOp.not 4 (Operand.tmp 97), type := 4, pos := "more.go:32", after := #[{ on := 0, ground := Ground.data }], guard := none }) (v := ?_) rfl (by kernel_rfl) (by kernel_rfl) (by kernel_rfl) (fun _ _ _ h => h) (Or.inl ⟨by rfl, ?_⟩) (by assumption) ?_
                rotate_left
                · (intro ww hSw; (try dsimp only at hSw); go_simp; try with_reducible rfl)
                (try simp only [Act.put, List.setIfInBounds_toArray, List.set_cons_zero, List.set_cons_succ])
                refine wpAnyH_take (i := 2) (oi := { dst := some 99, op := Op.move (Operand.tmp 98), type := 4, pos := "more.go:32", after := #[{ on := 1, ground := Ground.data }], guard := none }) (v := ?_) rfl (by kernel_rfl) (by kernel_rfl) (by kernel_rfl) (fun _ _ _ h => h) (Or.inl ⟨by rfl, ?_⟩) (by assumption) ?_
                rotate_left
                · (intro ww hSw; (try dsimp only at hSw); go_simp; try with_reducible rfl)
                (try simp only [Act.put, List.setIfInBounds_toArray, List.set_cons_zero, List.set_cons_succ])
                refine wpAnyH_take (i := 3) (oi := { dst := some 100, op := Op.move (Operand.tmp 13), type := 4, pos := "more.go:32", after := #[{ on := 2, ground := Ground.guard }], guard := some (2, false) }) (v := ?_) rfl (by kernel_rfl) (by kernel_rfl) (by kernel_rfl) (fun _ _ _ h => h) (Or.inl ⟨by rfl, ?_⟩) (by assumption) ?_
                rotate_left
                · (intro ww hSw; (try dsimp only at hSw); go_simp; try with_reducible rfl)
                (try simp only [Act.put, List.setIfInBounds_toArray, List.set_cons_zero, List.set_cons_succ])
                refine wpAnyH_take (i := 4) (oi := { dst := some 101, op := Op.unOp UnOp.not 4 (Operand.tmp 100), type := 4, pos := "more.go:32", after := #[{ on := 3, ground := Ground.data }, { on := 2, ground := Ground.guard }], guard := some (2, false) }) (v := ?_) rfl (by kernel_rfl) (by kernel_rfl) (by kernel_rfl) (fun _ _ _ h => h) (Or.inl ⟨by rfl, ?_⟩) (by assumption) ?_
                rotate_left
                · (intro ww hSw; (try dsimp only at hSw); go_simp; try with_reducible rfl)
                (try simp only [Act.put, List.setIfInBounds_toArray, List.set_cons_zero, List.set_cons_succ])
                refine wpAnyH_take (i := 5) (oi := { dst := some 102, op := Op.pick (Operand.tmp 99) (Operand.const (Value.bool true)) (Operand.tmp 101), type := 4, pos := "more.go:32", after := #[{ on := 2, ground := Ground.data }, { on := 4, ground := Ground.data }], guard := none }) (v := ?_) rfl (by kernel_rfl) (by kernel_rfl) (by kernel_rfl) (fun _ _ _ h => h) (Or.inl ⟨by rfl, ?_⟩) (by assumption) ?_
                rotate_left
                · (intro ww hSw; (try dsimp only at hSw); go_simp; try with_reducible rfl)
                (try simp only [Act.put, List.setIfInBounds_toArray, List.set_cons_zero, List.set_cons_succ])
                refine wpAnyH_take (i := 6) (oi := { dst := some 103, op := Op.move (Operand.tmp 102), type := 4, pos := "more.go:32", after := #[{ on := 5, ground := Ground.data }, { on := 2, ground := Ground.chain }], guard := none }) (v := ?_) rfl (by kernel_rfl) (by kernel_rfl) (by kernel_rfl) (fun _ _ _ h => h) (Or.inl ⟨by rfl, ?_⟩) (by assumption) ?_
                rotate_left
                · (intro ww hSw; (try dsimp only at hSw); go_simp; try with_reducible rfl)
                (try simp only [Act.put, List.setIfInBounds_toArray, List.set_cons_zero, List.set_cons_succ])
                refine wpAnyH_take (i := 7) (oi := { dst := some 104, op := Op.load 36 (Operand.tmp 10), type := 36, pos := "more.go:32", after := #[{ on := 6, ground := Ground.guard }], guard := some (6, false) }) (v := .agg (VF).toArray) rfl (by kernel_rfl) (by kernel_rfl) (by kernel_rfl) (fun _ _ _ h => h) (yieldsIf_load_mid (by rfl) _ _ rfl (g10) 0 rfl (VF) _ (fun ww hSw => hSw.1.tl.hd.range) Tryd.underlying36 rfl HI_VF.out) (by assumption) ?_
                (try simp only [Act.put, List.setIfInBounds_toArray, List.set_cons_zero, List.set_cons_succ])
                refine wpAnyH_take (i := 8) (oi := { dst := some 105, op := Op.move (Operand.tmp 0), type := 40, pos := "more.go:32", after := #[{ on := 6, ground := Ground.guard }], guard := some (6, false) }) (v := ?_) rfl (by kernel_rfl) (by kernel_rfl) (by kernel_rfl) (fun _ _ _ h => h) (Or.inl ⟨by rfl, ?_⟩) (by assumption) ?_
                rotate_left
                · (intro ww hSw; (try dsimp only at hSw); go_simp; try with_reducible rfl)
                (try simp only [Act.put, List.setIfInBounds_toArray, List.set_cons_zero, List.set_cons_succ])
                refine wpAnyH_take (i := 9) (oi := { dst := some 106, op := Op.move (Operand.tmp 9), type := 3, pos := "more.go:32", after := #[{ on := 6, ground := Ground.guard }], guard := some (6, false) }) (v := ?_) rfl (by kernel_rfl) (by kernel_rfl) (by kernel_rfl) (fun _ _ _ h => h) (Or.inl ⟨by rfl, ?_⟩) (by assumption) ?_
                rotate_left
                · (intro ww hSw; (try dsimp only at hSw); go_simp; try with_reducible rfl)
                (try simp only [Act.put, List.setIfInBounds_toArray, List.set_cons_zero, List.set_cons_succ])
                refine wpAnyH_take (i := 10) (oi := { dst := some 107, op := Op.indexAddr 40 (Operand.tmp 105) (Operand.tmp 106), type := 0, pos := "more.go:32", after := #[{ on := 8, ground := Ground.data }, { on := 9, ground := Ground.data }, { on := 6, ground := Ground.guard }], guard := some (6, false) }) (v := ?_) rfl (by kernel_rfl) (by kernel_rfl) (by kernel_rfl) (fun _ _ _ h => h) (Or.inl ⟨by rfl, ?_⟩) (by assumption) ?_
                rotate_left
                · (intro ww hSw; (try dsimp only at hSw); go_simp; try with_reducible rfl)
                (try simp only [Act.put, List.setIfInBounds_toArray, List.set_cons_zero, List.set_cons_succ])
                refine wpAnyH_take (i := 11) (oi := { dst := some 108, op := Op.fieldAddr 38 (Operand.tmp 107) 0, type := 0, pos := "more.go:32", after := #[{ on := 10, ground := Ground.data }, { on := 6, ground := Ground.guard }], guard := some (6, false) }) (v := ?_) rfl (by kernel_rfl) (by kernel_rfl) (by kernel_rfl) (fun _ _ _ h => h) (Or.inl ⟨by rfl, ?_⟩) (by assumption) ?_
                rotate_left
                · (intro ww hSw; (try dsimp only at hSw); go_simp; try with_reducible rfl)
                (try simp only [Act.put, List.setIfInBounds_toArray, List.set_cons_zero, List.set_cons_succ])
                refine wpAnyH_take (i := 12) (oi := { dst := some 109, op := Op.load 36 (Operand.tmp 108), type := 36, pos := "more.go:32", after := #[{ on := 11, ground := Ground.data }, { on := 6, ground := Ground.guard }], guard := some (6, false) }) (v := .agg (VF).toArray) rfl (by kernel_rfl) (by kernel_rfl) (by kernel_rfl) (fun _ _ _ h => h) (yieldsIf_load_mid (by rfl) _ _ rfl (b2) (o2 + k * 20) rfl (VF) _ (fun ww hSw => hSw.2.1) Tryd.underlying36 rfl HI_VF.out) (by assumption) ?_
                (try simp only [Act.put, List.setIfInBounds_toArray, List.set_cons_zero, List.set_cons_succ])
                refine wpAnyH_take (i := 13) (oi := { dst := some 110, op := Op.binOp BinOp.neq 36 (Operand.tmp 104) (Operand.tmp 109) 36, type := 4, pos := "more.go:32", after := #[{ on := 7, ground := Ground.data }, { on := 12, ground := Ground.data }, { on := 6, ground := Ground.guard }], guard := some (6, false) }) (v := .bool false) rfl (by kernel_rfl) (by kernel_rfl) (by kernel_rfl) (fun _ _ _ h => h) (Or.inl ⟨by rfl, (by intro ww hSw; go_simp)⟩) (by assumption) ?_
                (try simp only [Act.put, List.setIfInBounds_toArray, List.set_cons_zero, List.set_cons_succ])
                refine wpAnyH_take (i := 14) (oi := { dst := some 111, op := Op.pick (Operand.tmp 103) (Operand.const (Value.bool true)) (Operand.tmp 110), type := 4, pos := "more.go:32", after := #[{ on := 6, ground := Ground.data }, { on := 13, ground := Ground.data }], guard := none }) (v := ?_) rfl (by kernel_rfl) (by kernel_rfl) (by kernel_rfl) (fun _ _ _ h => h) (Or.inl ⟨by rfl, ?_⟩) (by assumption) ?_
                rotate_left
                · (intro ww hSw; (try dsimp only at hSw); go_simp; try with_reducible rfl)
                (try simp only [Act.put, List.setIfInBounds_toArray, List.set_cons_zero, List.set_cons_succ])
                refine wpAnyH_take (i := 15) (oi := { dst := some 112, op := Op.move (Operand.tmp 111), type := 4, pos := "more.go:32", after := #[{ on := 14, ground := Ground.data }, { on := 6, ground := Ground.chain }], guard := none }) (v := ?_) rfl (by kernel_rfl) (by kernel_rfl) (by kernel_rfl) (fun _ _ _ h => h) (Or.inl ⟨by rfl, ?_⟩) (by assumption) ?_
                rotate_left
                · (intro ww hSw; (try dsimp only at hSw); go_simp; try with_reducible rfl)
                (try simp only [Act.put, List.setIfInBounds_toArray, List.set_cons_zero, List.set_cons_succ])
                refine wpAnyH_take (i := 16) (oi := { dst := some 113, op := Op.load 23 (Operand.tmp 12), type := 23, pos := "more.go:32", after := #[{ on := 15, ground := Ground.guard }], guard := some (15, false) }) (v := .agg (VX).toArray) rfl (by kernel_rfl) (by kernel_rfl) (by kernel_rfl) (fun _ _ _ h => h) (yieldsIf_load_mid (by rfl) _ _ rfl (g12) 0 rfl (VX) _ (fun ww hSw => hSw.1.hd.range) Tryd.underlying23 rfl HI_VX.out) (by assumption) ?_
                (try simp only [Act.put, List.setIfInBounds_toArray, List.set_cons_zero, List.set_cons_succ])
                refine wpAnyH_take (i := 17) (oi := { dst := some 114, op := Op.move (Operand.tmp 0), type := 40, pos := "more.go:32", after := #[{ on := 15, ground := Ground.guard }], guard := some (15, false) }) (v := ?_) rfl (by kernel_rfl) (by kernel_rfl) (by kernel_rfl) (fun _ _ _ h => h) (Or.inl ⟨by rfl, ?_⟩) (by assumption) ?_
                rotate_left
                · (intro ww hSw; (try dsimp only at hSw); go_simp; try with_reducible rfl)
                (try simp only [Act.put, List.setIfInBounds_toArray, List.set_cons_zero, List.set_cons_succ])
                refine wpAnyH_take (i := 18) (oi := { dst := some 115, op := Op.move (Operand.tmp 9), type := 3, pos := "more.go:32", after := #[{ on := 15, ground := Ground.guard }], guard := some (15, false) }) (v := ?_) rfl (by kernel_rfl) (by kernel_rfl) (by kernel_rfl) (fun _ _ _ h => h) (Or.inl ⟨by rfl, ?_⟩) (by assumption) ?_
                rotate_left
                · (intro ww hSw; (try dsimp only at hSw); go_simp; try with_reducible rfl)
                (try simp only [Act.put, List.setIfInBounds_toArray, List.set_cons_zero, List.set_cons_succ])
                refine wpAnyH_take (i := 19) (oi := { dst := some 116, op := Op.indexAddr 40 (Operand.tmp 114) (Operand.tmp 115), type := 0, pos := "more.go:32", after := #[{ on := 17, ground := Ground.data }, { on := 18, ground := Ground.data }, { on := 15, ground := Ground.guard }], guard := some (15, false) }) (v := ?_) rfl (by kernel_rfl) (by kernel_rfl) (by kernel_rfl) (fun _ _ _ h => h) (Or.inl ⟨by rfl, ?_⟩) (by assumption) ?_
                rotate_left
                · (intro ww hSw; (try dsimp only at hSw); go_simp; try with_reducible rfl)
                (try simp only [Act.put, List.setIfInBounds_toArray, List.set_cons_zero, List.set_cons_succ])
                refine wpAnyH_take (i := 20) (oi := { dst := some 117, op := Op.fieldAddr 38 (Operand.tmp 116) 1, type := 0, pos := "more.go:32", after := #[{ on := 19, ground := Ground.data }, { on := 15, ground := Ground.guard }], guard := some (15, false) }) (v := ?_) rfl (by kernel_rfl) (by kernel_rfl) (by kernel_rfl) (fun _ _ _ h => h) (Or.inl ⟨by rfl, ?_⟩) (by assumption) ?_
                rotate_left
                · (intro ww hSw; (try dsimp only at hSw); go_simp; try with_reducible rfl)
                (try simp only [Act.put, List.setIfInBounds_toArray, List.set_cons_zero, List.set_cons_succ])
                refine wpAnyH_take (i := 21) (oi := { dst := some 118, op := Op.load 23 (Operand.tmp 117), type := 23, pos := "more.go:32", after := #[{ on := 20, ground := Ground.data }, { on := 15, ground := Ground.guard }], guard := some (15, false) }) (v := .agg (VX).toArray) rfl (by kernel_rfl) (by kernel_rfl) (by kernel_rfl) (fun _ _ _ h => h) (yieldsIf_load_mid (by rfl) _ _ rfl (b2) (o2 + k * 20 + 4) rfl (VX) _ (fun ww hSw => hSw.2.2) Tryd.underlying23 rfl HI_VX.out) (by assumption) ?_
                (try simp only [Act.put, List.setIfInBounds_toArray, List.set_cons_zero, List.set_cons_succ])
                refine wpAnyH_take (i := 22) (oi := { dst := some 119, op := Op.binOp BinOp.neq 23 (Operand.tmp 113) (Operand.tmp 118) 23, type := 4, pos := "more.go:32", after := #[{ on := 16, ground := Ground.data }, { on := 21, ground := Ground.data }, { on := 15, ground := Ground.guard }], guard := some (15, false) }) (v := .bool false) rfl (by kernel_rfl) (by kernel_rfl) (by kernel_rfl) (fun _ _ _ h => h) (Or.inl ⟨by rfl, (by intro ww hSw; go_simp)⟩) (by assumption) ?_
                (try simp only [Act.put, List.setIfInBounds_toArray, List.set_cons_zero, List.set_cons_succ])
                refine wpAnyH_take (i := 23) (oi := { dst := some 120, op := Op.pick (Operand.tmp 112) (Operand.const (Value.bool true)) (Operand.tmp 119), type := 4, pos := "more.go:32", after := #[{ on := 15, ground := Ground.data }, { on := 22, ground := Ground.data }], guard := none }) (v := ?_) rfl (by kernel_rfl) (by kernel_rfl) (by kernel_rfl) (fun _ _ _ h => h) (Or.inl ⟨by rfl, ?_⟩) (by assumption) ?_
                rotate_left
                · (intro ww hSw; (try dsimp only at hSw); go_simp; try with_reducible rfl)
                (try simp only [Act.put, List.setIfInBounds_toArray, List.set_cons_zero, List.set_cons_succ])
                refine wpAnyH_take (i := 24) (oi := { dst := some 121, op := Op.move (Operand.tmp 120), type := 4, pos := "more.go:32", after := #[{ on := 23, ground := Ground.data }, { on := 15, ground := Ground.chain }], guard := none }) (v := ?_) rfl (by kernel_rfl) (by kernel_rfl) (by kernel_rfl) (fun _ _ _ h => h) (Or.inl ⟨by rfl, ?_⟩) (by assumption) ?_
                rotate_left
                · (intro ww hSw; (try dsimp only at hSw); go_simp; try with_reducible rfl)
                (try simp only [Act.put, List.setIfInBounds_toArray, List.set_cons_zero, List.set_cons_succ])
                refine wpAnyH_take (i := 25) (oi := { dst := some 122, op := Op.move (Operand.tmp 15), type := 32, pos := "more.go:32", after := #[{ on := 24, ground := Ground.guard }], guard := some (24, false) }) (v := ?_) rfl (by kernel_rfl) (by kernel_rfl) (by kernel_rfl) (fun _ _ _ h => h) (Or.inl ⟨by rfl, ?_⟩) (by assumption) ?_
                rotate_left
                · (intro ww hSw; (try dsimp only at hSw); go_simp; try with_reducible rfl)
                (try simp only [Act.put, List.setIfInBounds_toArray, List.set_cons_zero, List.set_cons_succ])
                refine wpAnyH_take (i := 26) (oi := { dst := some 123, op := Op.binOp BinOp.neq 32 (Operand.tmp 122) (Operand.const (Value.int IntKind.i64 5)) 32, type := 4, pos := "more.go:32", after := #[{ on := 25, ground := Ground.data }, { on := 24, ground := Ground.guard }], guard := some (24, false) }) (v := ?_) rfl (by kernel_rfl) (by kernel_rfl) (by kernel_rfl) (fun _ _ _ h => h) (Or.inl ⟨by rfl, ?_⟩) (by assumption) ?_
                rotate_left
                · (intro ww hSw; (try dsimp only at hSw); go_simp; try with_reducible rfl)
                (try simp only [Act.put, List.setIfInBounds_toArray, List.set_cons_zero, List.set_cons_succ])
                refine wpAnyH_take (i := 27) (oi := { dst := some 124, op := Op.pick (Operand.tmp 121) (Operand.const (Value.bool true)) (Operand.tmp 123), type := 4, pos := "more.go:32", after := #[{ on := 24, ground := Ground.data }, { on := 26, ground := Ground.data }], guard := none }) (v := ?_) rfl (by kernel_rfl) (by kernel_rfl) (by kernel_rfl) (fun _ _ _ h => h) (Or.inl ⟨by rfl, ?_⟩) (by assumption) ?_
                rotate_left
                · (intro ww hSw; (try dsimp only at hSw); go_simp; try with_reducible rfl)
                (try simp only [Act.put, List.setIfInBounds_toArray, List.set_cons_zero, List.set_cons_succ])
                refine wpAnyH_done (by kernel_rfl) ?_ _
                refine NoPanic.normal ?_
                have HBN := Lib.hid (HB.out.trans (hHeld.1.2.1.mono HB.out.size))
                clear hHeld hq4 hq6
                go_wp2_with fail
                go_roundw
                case rel => exact ⟨k + 1, hlt, by go_num, HBN.out⟩
                case measure => simp [intOf]; omega
              · rw [if_pos (by rfl)]
                refine wp_bslice rfl (by simp only [List.map_toArray]; rfl) (HBS.out _) ?_
                refine hK.out _ _ (hHeld.alloc hHeld.size _) (fun hHeld => ?_)
                clear hK K
                (try simp only [Act.put, List.setIfInBounds_toArray, List.set_cons_zero, List.set_cons_succ])
                have hB1 := bk_new (w8.drew.alloc (.cells #[] 38)) 38 PV.toArray
                have hO0 := ow_below hO0 ((Below.refl _ (w8.drew.alloc (.cells #[] 38))).alloc (Nat.le_refl _) (.cells PV.toArray 38))
                refine wpAnyH_ready (rs := [2]) (by kernel_rfl) (by simp) ?_
                refine AllReadyH.cons (o := { dst := some 87, op := Op.call { callee := Callee.builtin Builtin.append, args := #[Operand.tmp 85, Operand.tmp 86], argTypes := #[40, 40] }, type := 40, pos := "more.go:31", after := #[{ on := 0, ground := Ground.data }, { on := 1, ground := Ground.data }], guard := none }) rfl (fun K hK => ?_) AllReadyH.nil
                rw [if_pos (by rfl)]
                have hRl := HRl.out _ (HX.out _ hHeld)
                obtain ⟨v1, wA, hrA, hoA, hgA, _⟩ := app_rs ((w8.drew.alloc (.cells #[] 38)).alloc (.cells PV.toArray 38)) w8.heap.size _ _ [] l 40 (hO0) hRl HL.out (by simp; omega) hHeld.size
                rw [List.nil_append] at hoA
                refine Lib.wp_append_run _ _ _ _ _ rfl _ _ rfl rfl _ _ hrA ?_
                refine hK.out _ _ (hHeld.grown hgA hHeld.size (fun j hj => (hO0.lt j hj).1)) (fun hHeld => ?_)
                clear hK K
                (try simp only [Act.put, List.setIfInBounds_toArray, List.set_cons_zero, List.set_cons_succ])
                have hB1 := hB1.grown hgA (fun e => by have := Option.some.inj e; simp at this)
                refine wpAnyH_ready (rs := [8]) (by kernel_rfl) (by simp) ?_
                refine AllReadyH.cons (o := { dst := some 93, op := Op.call { callee := Callee.builtin Builtin.append, args := #[Operand.tmp 87, Operand.tmp 92], argTypes := #[40, 40] }, type := 40, pos := "more.go:31", after := #[{ on := 2, ground := Ground.data }, { on := 7, ground := Ground.data }, { on := 2, ground := Ground.chain }], guard := none }) rfl (fun K hK => ?_) AllReadyH.nil
                rw [if_pos (by rfl)]
                obtain ⟨v2, wB, hrB, hoB, hgB, _⟩ := app_rs (wA) w8.heap.size v1 _ l [p] 40 hoA (.inr ⟨_, 1, rfl, Nat.le_refl _, .inr ⟨_, 0, rfl, hB1.lt, by rw [prV_one, HPV.out]; exact hB1.range⟩⟩) (okPs_one HOk.out) (by simp; omega) hHeld.size
                refine Lib.wp_append_run _ _ _ _ _ rfl _ _ rfl rfl _ _ hrB ?_
                refine hK.out _ _ (hHeld.grown hgB hHeld.size (fun j hj => (hoA.lt j hj).1)) (fun hHeld => ?_)
                clear hK K
                (try simp only [Act.put, List.setIfInBounds_toArray, List.set_cons_zero, List.set_cons_succ])
                refine wpAnyH_ready (rs := [9]) (by kernel_rfl) (by simp) ?_
                refine AllReadyH.cons (o := { dst := some 94, op := Op.call { callee := Callee.value (Operand.func 14), args := #[Operand.tmp 93], argTypes := #[40] }, type := 33, pos := "more.go:31", after := #[{ on := 8, ground := Ground.data }, { on := 8, ground := Ground.chain }], guard := none }) rfl (fun K hK => ?_) AllReadyH.nil
                go_simp
                ((with_reducible refine (CN5.out _ _ (own_rs hoB) (HX.out _ hHeld)).mono ?_); rintro e wC ⟨hbC, rfl⟩)
                refine hK.out _ _ (hHeld.trans (hbC.mono hHeld.size)) (fun hHeld => ?_)
                clear hK K
                (try simp only [Act.put, List.setIfInBounds_toArray, List.set_cons_zero, List.set_cons_succ])
                refine wpAnyH_take (i := 10) (oi := { dst := some 84, op := Op.move (Operand.tmp 94), type := 33, pos := "more.go:31", after := #[{ on := 9, ground := Ground.data }], guard := none }) (v := ?_) rfl (by kernel_rfl) (by kernel_rfl) (by kernel_rfl) (fun _ _ _ h => h) (Or.inl ⟨by rfl, ?_⟩) (by assumption) ?_
                rotate_left
                · (intro ww hSw; (try dsimp only at hSw); go_simp; try with_reducible rfl)
                (try simp only [Act.put, List.setIfInBounds_toArray, List.set_cons_zero, List.set_cons_succ])
                refine wpAnyH_take (i := 11) (oi := { dst := some 95, op := Op.extract (Operand.tmp 84) 0, type := 31, pos := "more.go:31", after := #[{ on := 10, ground := Ground.data }], guard := none }) (v := ?_) rfl (by kernel_rfl) (by kernel_rfl) (by kernel_rfl) (fun _ _ _ h => h) (Or.inl ⟨by rfl, ?_⟩) (by assumption) ?_
                rotate_left
                · (intro ww hSw; (try dsimp only at hSw); go_simp; try with_reducible rfl)
                (try simp only [Act.put, List.setIfInBounds_toArray, List.set_cons_zero, List.set_cons_succ])
                refine wpAnyH_take (i := 12) (oi := { dst := some 96, op := Op.extract (Operand.tmp 84) 1, type := 32, pos := "more.go:31", after := #[{ on := 10, ground := Ground.data }, { on := 13, ground := Ground.gcOnly Departure.lateStores }], guard := none }) (v := ?_) rfl (by kernel_rfl) (by kernel_rfl) (by kernel_rfl) (fun _ _ _ h => h) (Or.inl ⟨by rfl, ?_⟩) (by assumption) ?_
                rotate_left
                · (intro ww hSw; (try dsimp only at hSw); go_simp; try with_reducible rfl)
                (try simp only [Act.put, List.setIfInBounds_toArray, List.set_cons_zero, List.set_cons_succ])
                refine wpAnyH_take (i := 13) (oi := { dst := some 14, op := Op.assign (Operand.tmp 95), type := 31, pos := "more.go:31", after := #[{ on := 11, ground := Ground.data }, { on := 9, ground := Ground.chain }, { on := 0, ground := Ground.phase }, { on := 1, ground := Ground.phase }, { on := 2, ground := Ground.phase }, { on := 3, ground := Ground.phase }, { on := 4, ground := Ground.phase }, { on := 5, ground := Ground.phase }, { on := 6, ground := Ground.phase }, { on := 7, ground := Ground.phase }, { on := 8, ground := Ground.phase }, { on := 9, ground := Ground.phase }, { on := 10, ground := Ground.phase }, { on := 11, ground := Ground.phase }, { on := 12, ground := Ground.textOnly Departure.lateStores }], guard := none }) (v := ?_) rfl (by kernel_rfl) (by kernel_rfl) (by kernel_rfl) (fun _ _ _ h => h) (Or.inl ⟨by rfl, ?_⟩) (by assumption) ?_
                rotate_left
                · (intro ww hSw; (try dsimp only at hSw); go_simp; try with_reducible rfl)
                (try simp only [Act.put, List.setIfInBounds_toArray, List.set_cons_zero, List.set_cons_succ])
                refine wpAnyH_take (i := 14) (oi := { dst := some 15, op := Op.assign (Operand.tmp 96), type := 32, pos := "more.go:31", after := #[{ on := 12, ground := Ground.data }, { on := 13, ground := Ground.chain }, { on := 0, ground := Ground.phase }, { on := 1, ground := Ground.phase }, { on := 2, ground := Ground.phase }, { on := 3, ground := Ground.phase }, { on := 4, ground := Ground.phase }, { on := 5, ground := Ground.phase }, { on := 6, ground := Ground.phase }, { on := 7, ground := Ground.phase }, { on := 8, ground := Ground.phase }, { on := 9, ground := Ground.phase }, { on := 10, ground := Ground.phase }, { on := 11, ground := Ground.phase }, { on := 12, ground := Ground.phase }, { on := 13, ground := Ground.phase }], guard := none }) (v := ?_) rfl (by kernel_rfl) (by kernel_rfl) (by kernel_rfl) (fun _ _ _ h => h) (Or.inl ⟨by rfl, ?_⟩) (by assumption) ?_
                rotate_left
                · (intro ww hSw; (try dsimp only at hSw); go_simp; try with_reducible rfl)
                (try simp only [Act.put, List.setIfInBounds_toArray, List.set_cons_zero, List.set_cons_succ])
                refine wpAnyH_done (by kernel_rfl) ?_ _
                refine NoPanic.normal ?_
                have HKE : Hid (Kp wr wr.heap.size [(g12, 23, VX), (g10, 36, VF)] wC) := Lib.hid (HK8.out.below hHeld (Nat.le_refl _))
                clear hHeld hbC hoB hgB hoA hgA hB1 hO0
                have hq4 := HQ4.out
                have hq6 := HQ6.out
                go_upto_region 22 with (fail)
                refine wp_region_noPanic ?_
                refine wp_region_held_drew (S := fun W => Kp wr wr.heap.size [(g12, 23, VX), (g10, 36, VF)] W ∧ W.rangeAt b2 (o2 + k * 20) VF ∧ W.rangeAt b2 (o2 + k * 20 + 4) VX) (by kernel_rfl) (⟨HKE.out.drew, HRf.out _ HKE.out.2.1.drew, HRx.out _ HKE.out.2.1.drew⟩) (fun hHeld => ?_)
                refine wpAnyH_take (i := 0) (oi := { dst := some 97, op := Op.move (Operand.tmp 11), type := 4, pos := "more.go:32", after := #[], guard := none }) (v := ?_) rfl (by kernel_rfl) (by kernel_rfl) (by kernel_rfl) (fun _ _ _ h => h) (Or.inl ⟨by rfl, ?_⟩) (by assumption) ?_
                rotate_left
                · (intro ww hSw; (try dsimp only at hSw); go_simp; try with_reducible rfl)
                (try simp only [Act.put, List.setIfInBounds_toArray, List.set_cons_zero, List.set_cons_succ])
                refine wpAnyH_take (i := 1) (oi := { dst := some 98, op := Op.unOp UnOp.not 4 (Operand.tmp 97), type := 4, pos := "more.go:32", after := #[{ on := 0, ground := Ground.data }], guard := none }) (v := ?_) rfl (by kernel_rfl) (by kernel_rfl) (by kernel_rfl) (fun _ _ _ h => h) (Or.inl ⟨by rfl, ?_⟩) (by assumption) ?_
                rotate_left
                · (intro ww hSw; (try dsimp only at hSw); go_simp; try with_reducible rfl)
                (try simp only [Act.put, List.setIfInBounds_toArray, List.set_cons_zero, List.set_cons_succ])
                refine wpAnyH_take (i := 2) (oi := { dst := some 99, op := Op.move (Operand.tmp 98), type := 4, pos := "more.go:32", after := #[{ on := 1, ground := Ground.data }], guard := none }) (v := ?_) rfl (by kernel_rfl) (by kernel_rfl) (by kernel_rfl) (fun _ _ _ h => h) (Or.inl ⟨by rfl, ?_⟩) (by assumption) ?_
                rotate_left
                · (intro ww hSw; (try dsimp only at hSw); go_simp; try with_reducible rfl)
                (try simp only [Act.put, List.setIfInBounds_toArray, List.set_cons_zero, List.set_cons_succ])
                refine wpAnyH_take (i := 3) (oi := { dst := some 100, op := Op.move (Operand.tmp 13), type := 4, pos := "more.go:32", after := #[{ on := 2, ground := Ground.guard }], guard := some (2, false) }) (v := ?_) rfl (by kernel_rfl) (by kernel_rfl) (by kernel_rfl) (fun _ _ _ h => h) (Or.inl ⟨by rfl, ?_⟩) (by assumption) ?_
                rotate_left
                · (intro ww hSw; (try dsimp only at hSw); go_simp; try with_reducible rfl)
                (try simp only [Act.put, List.setIfInBounds_toArray, List.set_cons_zero, List.set_cons_succ])
                refine wpAnyH_take (i := 4) (oi := { dst := some 101, op := Op.unOp UnOp.not 4 (Operand.tmp 100), type := 4, pos := "more.go:32", after := #[{ on := 3, ground := Ground.data }, { on := 2, ground := Ground.guard }], guard := some (2, false) }) (v := ?_) rfl (by kernel_rfl) (by kernel_rfl) (by kernel_rfl) (fun _ _ _ h => h) (Or.inl ⟨by rfl, ?_⟩) (by assumption) ?_
                rotate_left
                · (intro ww hSw; (try dsimp only at hSw); go_simp; try with_reducible rfl)
                (try simp only [Act.put, List.setIfInBounds_toArray, List.set_cons_zero, List.set_cons_succ])
                refine wpAnyH_take (i := 5) (oi := { dst := some 102, op := Op.pick (Operand.tmp 99) (Operand.const (Value.bool true)) (Operand.tmp 101), type := 4, pos := "more.go:32", after := #[{ on := 2, ground := Ground.data }, { on := 4, ground := Ground.data }], guard := none }) (v := ?_) rfl (by kernel_rfl) (by kernel_rfl) (by kernel_rfl) (fun _ _ _ h => h) (Or.inl ⟨by rfl, ?_⟩) (by assumption) ?_
                rotate_left
                · (intro ww hSw; (try dsimp only at hSw); go_simp; try with_reducible rfl)
                (try simp only [Act.put, List.setIfInBounds_toArray, List.set_cons_zero, List.set_cons_succ])
                refine wpAnyH_take (i := 6) (oi := { dst := some 103, op := Op.move (Operand.tmp 102), type := 4, pos := "more.go:32", after := #[{ on := 5, ground := Ground.data }, { on := 2, ground := Ground.chain }], guard := none }) (v := ?_) rfl (by kernel_rfl) (by kernel_rfl) (by kernel_rfl) (fun _ _ _ h => h) (Or.inl ⟨by rfl, ?_⟩) (by assumption) ?_
                rotate_left
                · (intro ww hSw; (try dsimp only at hSw); go_simp; try with_reducible rfl)
                (try simp only [Act.put, List.setIfInBounds_toArray, List.set_cons_zero, List.set_cons_succ])
                refine wpAnyH_take (i := 7) (oi := { dst := some 104, op := Op.load 36 (Operand.tmp 10), type := 36, pos := "more.go:32", after := #[{ on := 6, ground := Ground.guard }], guard := some (6, false) }) (v := .agg (VF).toArray) rfl (by kernel_rfl) (by kernel_rfl) (by kernel_rfl) (fun _ _ _ h => h) (yieldsIf_load_mid (by rfl) _ _ rfl (g10) 0 rfl (VF) _ (fun ww hSw => hSw.1.tl.hd.range) Tryd.underlying36 rfl HI_VF.out) (by assumption) ?_
                (try simp only [Act.put, List.setIfInBounds_toArray, List.set_cons_zero, List.set_cons_succ])
                refine wpAnyH_take (i := 8) (oi := { dst := some 105, op := Op.move (Operand.tmp 0), type := 40, pos := "more.go:32", after := #[{ on := 6, ground := Ground.guard }], guard := some (6, false) }) (v := ?_) rfl (by kernel_rfl) (by kernel_rfl) (by kernel_rfl) (fun _ _ _ h => h) (Or.inl ⟨by rfl, ?_⟩) (by assumption) ?_
                rotate_left
                · (intro ww hSw; (try dsimp only at hSw); go_simp; try with_reducible rfl)
                (try simp only [Act.put, List.setIfInBounds_toArray, List.set_cons_zero, List.set_cons_succ])
                refine wpAnyH_take (i := 9) (oi := { dst := some 106, op := Op.move (Operand.tmp 9), type := 3, pos := "more.go:32", after := #[{ on := 6, ground := Ground.guard }], guard := some (6, false) }) (v := ?_) rfl (by kernel_rfl) (by kernel_rfl) (by kernel_rfl) (fun _ _ _ h => h) (Or.inl ⟨by rfl, ?_⟩) (by assumption) ?_
                rotate_left
                · (intro ww hSw; (try dsimp only at hSw); go_simp; try with_reducible rfl)
                (try simp only [Act.put, List.setIfInBounds_toArray, List.set_cons_zero, List.set_cons_succ])
                refine wpAnyH_take (i := 10) (oi := { dst := some 107, op := Op.indexAddr 40 (Operand.tmp 105) (Operand.tmp 106), type := 0, pos := "more.go:32", after := #[{ on := 8, ground := Ground.data }, { on := 9, ground := Ground.data }, { on := 6, ground := Ground.guard }], guard := some (6, false) }) (v := ?_) rfl (by kernel_rfl) (by kernel_rfl) (by kernel_rfl) (fun _ _ _ h => h) (Or.inl ⟨by rfl, ?_⟩) (by assumption) ?_
                rotate_left
                · (intro ww hSw; (try dsimp only at hSw); go_simp; try with_reducible rfl)
                (try simp only [Act.put, List.setIfInBounds_toArray, List.set_cons_zero, List.set_cons_succ])
                refine wpAnyH_take (i := 11) (oi := { dst := some 108, op := Op.fieldAddr 38 (Operand.tmp 107) 0, type := 0, pos := "more.go:32", after := #[{ on := 10, ground := Ground.data }, { on := 6, ground := Ground.guard }], guard := some (6, false) }) (v := ?_) rfl (by kernel_rfl) (by kernel_rfl) (by kernel_rfl) (fun _ _ _ h => h) (Or.inl ⟨by rfl, ?_⟩) (by assumption) ?_
                rotate_left
                · (intro ww hSw; (try dsimp only at hSw); go_simp; try with_reducible rfl)
                (try simp only [Act.put, List.setIfInBounds_toArray, List.set_cons_zero, List.set_cons_succ])
                refine wpAnyH_take (i := 12) (oi := { dst := some 109, op := Op.load 36 (Operand.tmp 108), type := 36, pos := "more.go:32", after := #[{ on := 11, ground := Ground.data }, { on := 6, ground := Ground.guard }], guard := some (6, false) }) (v := .agg (VF).toArray) rfl (by kernel_rfl) (by kernel_rfl) (by kernel_rfl) (fun _ _ _ h => h) (yieldsIf_load_mid (by rfl) _ _ rfl (b2) (o2 + k * 20) rfl (VF) _ (fun ww hSw => hSw.2.1) Tryd.underlying36 rfl HI_VF.out) (by assumption) ?_
                (try simp only [Act.put, List.setIfInBounds_toArray, List.set_cons_zero, List.set_cons_succ])
                refine wpAnyH_take (i := 13) (oi := { dst := some 110, op := Op.binOp BinOp.neq 36 (Operand.tmp 104) (Operand.tmp 109) 36, type := 4, pos := "more.go:32", after := #[{ on := 7, ground := Ground.data }, { on := 12, ground := Ground.data }, { on := 6, ground := Ground.guard }], guard := some (6, false) }) (v := .bool false) rfl (by kernel_rfl) (by kernel_rfl) (by kernel_rfl) (fun _ _ _ h => h) (Or.inl ⟨by rfl, (by intro ww hSw; go_simp)⟩) (by assumption) ?_
                (try simp only [Act.put, List.setIfInBounds_toArray, List.set_cons_zero, List.set_cons_succ])
                refine wpAnyH_take (i := 14) (oi := { dst := some 111, op := Op.pick (Operand.tmp 103) (Operand.const (Value.bool true)) (Operand.tmp 110), type := 4, pos := "more.go:32", after := #[{ on := 6, ground := Ground.data }, { on := 13, ground := Ground.data }], guard := none }) (v := ?_) rfl (by kernel_rfl) (by kernel_rfl) (by kernel_rfl) (fun _ _ _ h => h) (Or.inl ⟨by rfl, ?_⟩) (by assumption) ?_
                rotate_left
                · (intro ww hSw; (try dsimp only at hSw); go_simp; try with_reducible rfl)
                (try simp only [Act.put, List.setIfInBounds_toArray, List.set_cons_zero, List.set_cons_succ])
                refine wpAnyH_take (i := 15) (oi := { dst := some 112, op := Op.move (Operand.tmp 111), type := 4, pos := "more.go:32", after := #[{ on := 14, ground := Ground.data }, { on := 6, ground := Ground.chain }], guard := none }) (v := ?_) rfl (by kernel_rfl) (by kernel_rfl) (by kernel_rfl) (fun _ _ _ h => h) (Or.inl ⟨by rfl, ?_⟩) (by assumption) ?_
                rotate_left
                · (intro ww hSw; (try dsimp only at hSw); go_simp; try with_reducible rfl)
                (try simp only [Act.put, List.setIfInBounds_toArray, List.set_cons_zero, List.set_cons_succ])
                refine wpAnyH_take (i := 16) (oi := { dst := some 113, op := Op.load 23 (Operand.tmp 12), type := 23, pos := "more.go:32", after := #[{ on := 15, ground := Ground.guard }], guard := some (15, false) }) (v := .agg (VX).toArray) rfl (by kernel_rfl) (by kernel_rfl) (by kernel_rfl) (fun _ _ _ h => h) (yieldsIf_load_mid (by rfl) _ _ rfl (g12) 0 rfl (VX) _ (fun ww hSw => hSw.1.hd.range) Tryd.underlying23 rfl HI_VX.out) (by assumption) ?_
                (try simp only [Act.put, List.setIfInBounds_toArray, List.set_cons_zero, List.set_cons_succ])
                refine wpAnyH_take (i := 17) (oi := { dst := some 114, op := Op.move (Operand.tmp 0), type := 40, pos := "more.go:32", after := #[{ on := 15, ground := Ground.guard }], guard := some (15, false) }) (v := ?_) rfl (by kernel_rfl) (by kernel_rfl) (by kernel_rfl) (fun _ _ _ h => h) (Or.inl ⟨by rfl, ?_⟩) (by assumption) ?_
                rotate_left
                · (intro ww hSw; (try dsimp only at hSw); go_simp; try with_reducible rfl)
                (try simp only [Act.put, List.setIfInBounds_toArray, List.set_cons_zero, List.set_cons_succ])
                refine wpAnyH_take (i := 18) (oi := { dst := some 115, op := Op.move (Operand.tmp 9), type := 3, pos := "more.go:32", after := #[{ on := 15, ground := Ground.guard }], guard := some (15, false) }) (v := ?_) rfl (by kernel_rfl) (by kernel_rfl) (by kernel_rfl) (fun _ _ _ h => h) (Or.inl ⟨by rfl, ?_⟩) (by assumption) ?_
                rotate_left
                · (intro ww hSw; (try dsimp only at hSw); go_simp; try with_reducible rfl)
                (try simp only [Act.put, List.setIfInBounds_toArray, List.set_cons_zero, List.set_cons_succ])
                refine wpAnyH_take (i := 19) (oi := { dst := some 116, op := Op.indexAddr 40 (Operand.tmp 114) (Operand.tmp 115), type := 0, pos := "more.go:32", after := #[{ on := 17, ground := Ground.data }, { on := 18, ground := Ground.data }, { on := 15, ground := Ground.guard }], guard := some (15, false) }) (v := ?_) rfl (by kernel_rfl) (by kernel_rfl) (by kernel_rfl) (fun _ _ _ h => h) (Or.inl ⟨by rfl, ?_⟩) (by assumption) ?_
                rotate_left
                · (intro ww hSw; (try dsimp only at hSw); go_simp; try with_reducible rfl)
                (try simp only [Act.put, List.setIfInBounds_toArray, List.set_cons_zero, List.set_cons_succ])
                refine wpAnyH_take (i := 20) (oi := { dst := some 117, op := Op.fieldAddr 38 (Operand.tmp 116) 1, type := 0, pos := "more.go:32", after := #[{ on := 19, ground := Ground.data }, { on := 15, ground := Ground.guard }], guard := some (15, false) }) (v := ?_) rfl (by kernel_rfl) (by kernel_rfl) (by kernel_rfl) (fun _ _ _ h => h) (Or.inl ⟨by rfl, ?_⟩) (by assumption) ?_
                rotate_left
                · (intro ww hSw; (try dsimp only at hSw); go_simp; try with_reducible rfl)
                (try simp only [Act.put, List.setIfInBounds_toArray, List.set_cons_zero, List.set_cons_succ])
                refine wpAnyH_take (i := 21) (oi := { dst := some 118, op := Op.load 23 (Operand.tmp 117), type := 23, pos := "more.go:32", after := #[{ on := 20, ground := Ground.data }, { on := 15, ground := Ground.guard }], guard := some (15, false) }) (v := .agg (VX).toArray) rfl (by kernel_rfl) (by kernel_rfl) (by kernel_rfl) (fun _ _ _ h => h) (yieldsIf_load_mid (by rfl) _ _ rfl (b2) (o2 + k * 20 + 4) rfl (VX) _ (fun ww hSw => hSw.2.2) Tryd.underlying23 rfl HI_VX.out) (by assumption) ?_
                (try simp only [Act.put, List.setIfInBounds_toArray, List.set_cons_zero, List.set_cons_succ])
                refine wpAnyH_take (i := 22) (oi := { dst := some 119, op := Op.binOp BinOp.neq 23 (Operand.tmp 113) (Operand.tmp 118) 23, type := 4, pos := "more.go:32", after := #[{ on := 16, ground := Ground.data }, { on := 21, ground := Ground.data }, { on := 15, ground := Ground.guard }], guard := some (15, false) }) (v := .bool false) rfl (by kernel_rfl) (by kernel_rfl) (by kernel_rfl) (fun _ _ _ h => h) (Or.inl ⟨by rfl, (by intro ww hSw; go_simp)⟩) (by assumption) ?_
                (try simp only [Act.put, List.setIfInBounds_toArray, List.set_cons_zero, List.set_cons_succ])
                refine wpAnyH_take (i := 23) (oi := { dst := some 120, op := Op.pick (Operand.tmp 112) (Operand.const (Value.bool true)) (Operand.tmp 119), type := 4, pos := "more.go:32", after := #[{ on := 15, ground := Ground.data }, { on := 22, ground := Ground.data }], guard := none }) (v := ?_) rfl (by kernel_rfl) (by kernel_rfl) (by kernel_rfl) (fun _ _ _ h => h) (Or.inl ⟨by rfl, ?_⟩) (by assumption) ?_
                rotate_left
                · (intro ww hSw; (try dsimp only at hSw); go_simp; try with_reducible rfl)
                (try simp only [Act.put, List.setIfInBounds_toArray, List.set_cons_zero, List.set_cons_succ])
                refine wpAnyH_take (i := 24) (oi := { dst := some 121, op := Op.move (Operand.tmp 120), type := 4, pos := "more.go:32", after := #[{ on := 23, ground := Ground.data }, { on := 15, ground := Ground.chain }], guard := none }) (v := ?_) rfl (by kernel_rfl) (by kernel_rfl) (by kernel_rfl) (fun _ _ _ h => h) (Or.inl ⟨by rfl, ?_⟩) (by assumption) ?_
                rotate_left
                · (intro ww hSw; (try dsimp only at hSw); go_simp; try with_reducible rfl)
                (try simp only [Act.put, List.setIfInBounds_toArray, List.set_cons_zero, List.set_cons_succ])
                refine wpAnyH_take (i := 25) (oi := { dst := some 122, op := Op.move (Operand.tmp 15), type := 32, pos := "more.go:32", after := #[{ on := 24, ground := Ground.guard }], guard := some (24, false) }) (v := ?_) rfl (by kernel_rfl) (by kernel_rfl) (by kernel_rfl) (fun _ _ _ h => h) (Or.inl ⟨by rfl, ?_⟩) (by assumption) ?_
                rotate_left
                · (intro ww hSw; (try dsimp only at hSw); go_simp; try with_reducible rfl)
                (try simp only [Act.put, List.setIfInBounds_toArray, List.set_cons_zero, List.set_cons_succ])
                refine wpAnyH_take (i := 26) (oi := { dst := some 123, op := Op.binOp BinOp.neq 32 (Operand.tmp 122) (Operand.const (Value.int IntKind.i64 5)) 32, type := 4, pos := "more.go:32", after := #[{ on := 25, ground := Ground.data }, { on := 24, ground := Ground.guard }], guard := some (24, false) }) (v := ?_) rfl (by kernel_rfl) (by kernel_rfl) (by kernel_rfl) (fun _ _ _ h => h) (Or.inl ⟨by rfl, ?_⟩) (by assumption) ?_
                rotate_left
                · (intro ww hSw; (try dsimp only at hSw); go_simp; try with_reducible rfl)
                (try simp only [Act.put, List.setIfInBounds_toArray, List.set_cons_zero, List.set_cons_succ])
                refine wpAnyH_take (i := 27) (oi := { dst := some 124, op := Op.pick (Operand.tmp 121) (Operand.const (Value.bool true)) (Operand.tmp 123), type := 4, pos := "more.go:32", after := #[{ on := 24, ground := Ground.data }, { on := 26, ground := Ground.data }], guard := none }) (v := ?_) rfl (by kernel_rfl) (by kernel_rfl) (by kernel_rfl) (fun _ _ _ h => h) (Or.inl ⟨by rfl, ?_⟩) (by assumption) ?_
                rotate_left
                · (intro ww hSw; (try dsimp only at hSw); go_simp; try with_reducible rfl)
                (try simp only [Act.put, List.setIfInBounds_toArray, List.set_cons_zero, List.set_cons_succ])
                refine wpAnyH_done (by kernel_rfl) ?_ _
                refine NoPanic.normal ?_
                have HBN := Lib.hid (HB.out.trans (hHeld.1.2.1.mono HB.out.size))
                clear hHeld hq4 hq6
                go_wp2_with fail
                go_roundw
                case rel => exact ⟨k + 1, hlt, by go_num, HBN.out⟩
                case measure => simp [intOf]; omega
            · rw [if_pos (by rfl)]
              refine wp_bslice rfl (by simp only [List.map_toArray]; rfl) (HBS.out _) ?_
              refine hK.out _ _ (hHeld.alloc hHeld.size _) (fun hHeld => ?_)
              clear hK K
              (try simp only [Act.put, List.setIfInBounds_toArray, List.set_cons_zero, List.set_cons_succ])
              have hB1 := bk_new w8.drew 38 PV.toArray
              refine wpAnyH_ready (rs := [0]) (by kernel_rfl) (by simp) ?_
              refine AllReadyH.cons (o := { dst := some 85, op := Op.buildSlice 40 0 #[], type := 40, pos := "more.go:31", after := #[], guard := none }) rfl (fun K hK => ?_) AllReadyH.nil
              rw [if_pos (by rfl)]
              refine wp_bslice rfl (by simp only [List.map_toArray]; rfl) (Tryd.bsNone _) ?_
              refine hK.out _ _ (hHeld.alloc hHeld.size _) (fun hHeld => ?_)
              clear hK K
              (try simp only [Act.put, List.setIfInBounds_toArray, List.set_cons_zero, List.set_cons_succ])
              have hO0 := ow_base (own_lit (w8.drew.alloc (.cells PV.toArray 38))) (show w8.heap.size ≤ _ by simp)
              have hB1 := hB1.alloc (.cells #[] 38)
              refine wpAnyH_ready (rs := [2]) (by kernel_rfl) (by simp) ?_
              refine AllReadyH.cons (o := { dst := some 87, op := Op.call { callee := Callee.builtin Builtin.append, args := #[Operand.tmp 85, Operand.tmp 86], argTypes := #[40, 40] }, type := 40, pos := "more.go:31", after := #[{ on := 0, ground := Ground.data }, { on := 1, ground := Ground.data }], guard := none }) rfl (fun K hK => ?_) AllReadyH.nil
              rw [if_pos (by rfl)]
              have hRl := HRl.out _ (HX.out _ hHeld)
              obtain ⟨v1, wA, hrA, hoA, hgA, _⟩ := app_rs ((w8.drew.alloc (.cells PV.toArray 38)).alloc (.cells #[] 38)) w8.heap.size _ _ [] l 40 (hO0) hRl HL.out (by simp; omega) hHeld.size
              rw [List.nil_append] at hoA
              refine Lib.wp_append_run _ _ _ _ _ rfl _ _ rfl rfl _ _ hrA ?_
              refine hK.out _ _ (hHeld.grown hgA hHeld.size (fun j hj => (hO0.lt j hj).1)) (fun hHeld => ?_)
              clear hK K
              (try simp only [Act.put, List.setIfInBounds_toArray, List.set_cons_zero, List.set_cons_succ])
              have hB1 := hB1.grown hgA (fun e => by have := Option.some.inj e; simp at this)
              refine wpAnyH_ready (rs := [8]) (by kernel_rfl) (by simp) ?_
              refine AllReadyH.cons (o := { dst := some 93, op := Op.call { callee := Callee.builtin Builtin.append, args := #[Operand.tmp 87, Operand.tmp 92], argTypes := #[40, 40] }, type := 40, pos := "more.go:31", after := #[{ on := 2, ground := Ground.data }, { on := 7, ground := Ground.data }, { on := 2, ground := Ground.chain }], guard := none }) rfl (fun K hK => ?_) AllReadyH.nil
              rw [if_pos (by rfl)]
              obtain ⟨v2, wB, hrB, hoB, hgB, _⟩ := app_rs (wA) w8.heap.size v1 _ l [p] 40 hoA (.inr ⟨_, 1, rfl, Nat.le_refl _, .inr ⟨_, 0, rfl, hB1.lt, by rw [prV_one, HPV.out]; exact hB1.range⟩⟩) (okPs_one HOk.out) (by simp; omega) hHeld.size
              refine Lib.wp_append_run _ _ _ _ _ rfl _ _ rfl rfl _ _ hrB ?_
              refine hK.out _ _ (hHeld.grown hgB hHeld.size (fun j hj => (hoA.lt j hj).1)) (fun hHeld => ?_)
              clear hK K
              (try simp only [Act.put, List.setIfInBounds_toArray, List.set_cons_zero, List.set_cons_succ])
              refine wpAnyH_ready (rs := [9]) (by kernel_rfl) (by simp) ?_
              refine AllReadyH.cons (o := { dst := some 94, op := Op.call { callee := Callee.value (Operand.func 14), args := #[Operand.tmp 93], argTypes := #[40] }, type := 33, pos := "more.go:31", after := #[{ on := 8, ground := Ground.data }, { on := 8, ground := Ground.chain }], guard := none }) rfl (fun K hK => ?_) AllReadyH.nil
              go_simp
              ((with_reducible refine (CN5.out _ _ (own_rs hoB) (HX.out _ hHeld)).mono ?_); rintro e wC ⟨hbC, rfl⟩)
              refine hK.out _ _ (hHeld.trans (hbC.mono hHeld.size)) (fun hHeld => ?_)
              clear hK K
              (try simp only [Act.put, List.setIfInBounds_toArray, List.set_cons_zero, List.set_cons_succ])
              refine wpAnyH_take (i := 10) (oi := { dst := some 84, op := Op.move (Operand.tmp 94), type := 33, pos := "more.go:31", after := #[{ on := 9, ground := Ground.data }], guard := none }) (v := ?_) rfl (by kernel_rfl) (by kernel_rfl) (by kernel_rfl) (fun _ _ _ h => h) (Or.inl ⟨by rfl, ?_⟩) (by assumption) ?_
              rotate_left
              · (intro ww hSw; (try dsimp only at hSw); go_simp; try with_reducible rfl)
              (try simp only [Act.put, List.setIfInBounds_toArray, List.set_cons_zero, List.set_cons_succ])
              refine wpAnyH_take (i := 11) (oi := { dst := some 95, op := Op.extract (Operand.tmp 84) 0, type := 31, pos := "more.go:31", after := #[{ on := 10, ground := Ground.data }], guard := none }) (v := ?_) rfl (by kernel_rfl) (by kernel_rfl) (by kernel_rfl) (fun _ _ _ h => h) (Or.inl ⟨by rfl, ?_⟩) (by assumption) ?_
              rotate_left
              · (intro ww hSw; (try dsimp only at hSw); go_simp; try with_reducible rfl)
              (try simp only [Act.put, List.setIfInBounds_toArray, List.set_cons_zero, List.set_cons_succ])
              refine wpAnyH_take (i := 12) (oi := { dst := some 96, op := Op.extract (Operand.tmp 84) 1, type := 32, pos := "more.go:31", after := #[{ on := 10, ground := Ground.data }, { on := 13, ground := Ground.gcOnly Departure.lateStores }], guard := none }) (v := ?_) rfl (by kernel_rfl) (by kernel_rfl) (by kernel_rfl) (fun _ _ _ h => h) (Or.inl ⟨by rfl, ?_⟩) (by assumption) ?_
              rotate_left
              · (intro ww hSw; (try dsimp only at hSw); go_simp; try with_reducible rfl)
              (try simp only [Act.put, List.setIfInBounds_toArray, List.set_cons_zero, List.set_cons_succ])
              refine wpAnyH_take (i := 13) (oi := { dst := some 14, op := Op.assign (Operand.tmp 95), type := 31, pos := "more.go:31", after := #[{ on := 11, ground := Ground.data }, { on := 9, ground := Ground.chain }, { on := 0, ground := Ground.phase }, { on := 1, ground := Ground.phase }, { on := 2, ground := Ground.phase }, { on := 3, ground := Ground.phase }, { on := 4, ground := Ground.phase }, { on := 5, ground := Ground.phase }, { on := 6, ground := Ground.phase }, { on := 7, ground := Ground.phase }, { on := 8, ground := Ground.phase }, { on := 9, ground := Ground.phase }, { on := 10, ground := Ground.phase }, { on := 11, ground := Ground.phase }, { on := 12, ground := Ground.textOnly Departure.lateStores }], guard := none }) (v := ?_) rfl (by kernel_rfl) (by kernel_rfl) (by kernel_rfl) (fun _ _ _ h => h) (Or.inl ⟨by rfl, ?_⟩) (by assumption) ?_
              rotate_left
              · (intro ww hSw; (try dsimp only at hSw); go_simp; try with_reducible rfl)
              (try simp only [Act.put, List.setIfInBounds_toArray, List.set_cons_zero, List.set_cons_succ])
              refine wpAnyH_take (i := 14) (oi := { dst := some 15, op := Op.assign (Operand.tmp 96), type := 32, pos := "more.go:31", after := #[{ on := 12, ground := Ground.data }, { on := 13, ground := Ground.chain }, { on := 0, ground := Ground.phase }, { on := 1, ground := Ground.phase }, { on := 2, ground := Ground.phase }, { on := 3, ground := Ground.phase }, { on := 4, ground := Ground.phase }, { on := 5, ground := Ground.phase }, { on := 6, ground := Ground.phase }, { on := 7, ground := Ground.phase }, { on := 8, ground := Ground.phase }, { on := 9, ground := Ground.phase }, { on := 10, ground := Ground.phase }, { on := 11, ground := Ground.phase }, { on := 12, ground := Ground.phase }, { on := 13, ground := Ground.phase }], guard := none }) (v := ?_) rfl (by kernel_rfl) (by kernel_rfl) (by kernel_rfl) (fun _ _ _ h => h) (Or.inl ⟨by rfl, ?_⟩) (by assumption) ?_
              rotate_left
              · (intro ww hSw; (try dsimp only at hSw); go_simp; try with_reducible rfl)
              (try simp only [Act.put, List.setIfInBounds_toArray, List.set_cons_zero, List.set_cons_succ])
              refine wpAnyH_done (by kernel_rfl) ?_ _
              refine NoPanic.normal ?_
              have HKE : Hid (Kp wr wr.heap.size [(g12, 23, VX), (g10, 36, VF)] wC) := Lib.hid (HK8.out.below hHeld (Nat.le_refl _))
              clear hHeld hbC hoB hgB hoA hgA hB1 hO0
              have hq4 := HQ4.out
              have hq6 := HQ6.out
              go_upto_region 22 with (fail)
              refine wp_region_noPanic ?_
              refine wp_region_held_drew (S := fun W => Kp wr wr.heap.size [(g12, 23, VX), (g10, 36, VF)] W ∧ W.rangeAt b2 (o2 + k * 20) VF ∧ W.rangeAt b2 (o2 + k * 20 + 4) VX) (by kernel_rfl) (⟨HKE.out.drew, HRf.out _ HKE.out.2.1.drew, HRx.out _ HKE.out.2.1.drew⟩) (fun hHeld => ?_)
              refine wpAnyH_take (i := 0) (oi := { dst := some 97, op := Op.move (Operand.tmp 11), type := 4, pos := "more.go:32", after := #[], guard := none }) (v := ?_) rfl (by kernel_rfl) (by kernel_rfl) (by kernel_rfl) (fun _ _ _ h => h) (Or.inl ⟨by rfl, ?_⟩) (by assumption) ?_
              rotate_left
              · (intro ww hSw; (try dsimp only at hSw); go_simp; try with_reducible rfl)
              (try simp only [Act.put, List.setIfInBounds_toArray, List.set_cons_zero, List.set_cons_succ])
              refine wpAnyH_take (i := 1) (oi := { dst := some 98, op := Op.unOp UnOp.not 4 (Operand.tmp 97), type := 4, pos := "more.go:32", after := #[{ on := 0, ground := Ground.data }], guard := none }) (v := ?_) rfl (by kernel_rfl) (by kernel_rfl) (by kernel_rfl) (fun _ _ _ h => h) (Or.inl ⟨by rfl, ?_⟩) (by assumption) ?_
              rotate_left
              · (intro ww hSw; (try dsimp only at hSw); go_simp; try with_reducible rfl)
              (try simp only [Act.put, List.setIfInBounds_toArray, List.set_cons_zero, List.set_cons_succ])
              refine wpAnyH_take (i := 2) (oi := { dst := some 99, op := Op.move (Operand.tmp 98), type := 4, pos := "more.go:32", after := #[{ on := 1, ground := Ground.data }], guard := none }) (v := ?_) rfl (by kernel_rfl) (by kernel_rfl) (by kernel_rfl) (fun _ _ _ h => h) (Or.inl ⟨by rfl, ?_⟩) (by assumption) ?_
              rotate_left
              · (intro ww hSw; (try dsimp only at hSw); go_simp; try with_reducible rfl)
              (try simp only [Act.put, List.setIfInBounds_toArray, List.set_cons_zero, List.set_cons_succ])
              refine wpAnyH_take (i := 3) (oi := { dst := some 100, op := Op.move (Operand.tmp 13), type := 4, pos := "more.go:32", after := #[{ on := 2, ground := Ground.guard }], guard := some (2, false) }) (v := ?_) rfl (by kernel_rfl) (by kernel_rfl) (by kernel_rfl) (fun _ _ _ h => h) (Or.inl ⟨by rfl, ?_⟩) (by assumption) ?_
              rotate_left
              · (intro ww hSw; (try dsimp only at hSw); go_simp; try with_reducible rfl)
              (try simp only [Act.put, List.setIfInBounds_toArray, List.set_cons_zero, List.set_cons_succ])
              refine wpAnyH_take (i := 4) (oi := { dst := some 101, op := Op.unOp UnOp.not 4 (Operand.tmp 100), type := 4, pos := "more.go:32", after := #[{ on := 3, ground := Ground.data }, { on := 2, ground := Ground.guard }], guard := some (2, false) }) (v := ?_) rfl (by kernel_rfl) (by kernel_rfl) (by kernel_rfl) (fun _ _ _ h => h) (Or.inl ⟨by rfl, ?_⟩) (by assumption) ?_
              rotate_left
              · (intro ww hSw; (try dsimp only at hSw); go_simp; try with_reducible rfl)
              (try simp only [Act.put, List.setIfInBounds_toArray, List.set_cons_zero, List.set_cons_succ])
              refine wpAnyH_take (i := 5) (oi := { dst := some 102, op := Op.pick (Operand.tmp 99) (Operand.const (Value.bool true)) (Operand.tmp 101), type := 4, pos := "more.go:32", after := #[{ on := 2, ground := Ground.data }, { on := 4, ground := Ground.data }], guard := none }) (v := ?_) rfl (by kernel_rfl) (by kernel_rfl) (by kernel_rfl) (fun _ _ _ h => h) (Or.inl ⟨by rfl, ?_⟩) (by assumption) ?_
              rotate_left
              · (intro ww hSw; (try dsimp only at hSw); go_simp; try with_reducible rfl)
              (try simp only [Act.put, List.setIfInBounds_toArray, List.set_cons_zero, List.set_cons_succ])
              refine wpAnyH_take (i := 6) (oi := { dst := some 103, op := Op.move (Operand.tmp 102), type := 4, pos := "more.go:32", after := #[{ on := 5, ground := Ground.data }, { on := 2, ground := Ground.chain }], guard := none }) (v := ?_) rfl (by kernel_rfl) (by kernel_rfl) (by kernel_rfl) (fun _ _ _ h => h) (Or.inl ⟨by rfl, ?_⟩) (by assumption) ?_
              rotate_left
              · (intro ww hSw; (try dsimp only at hSw); go_simp; try with_reducible rfl)
              (try simp only [Act.put, List.setIfInBounds_toArray, List.set_cons_zero, List.set_cons_succ])
              refine wpAnyH_take (i := 7) (oi := { dst := some 104, op := Op.load 36 (Operand.tmp 10), type := 36, pos := "more.go:32", after := #[{ on := 6, ground := Ground.guard }], guard := some (6, false) }) (v := .agg (VF).toArray) rfl (by kernel_rfl) (by kernel_rfl) (by kernel_rfl) (fun _ _ _ h => h) (yieldsIf_load_mid (by rfl) _ _ rfl (g10) 0 rfl (VF) _ (fun ww hSw => hSw.1.tl.hd.range) Tryd.underlying36 rfl HI_VF.out) (by assumption) ?_
              (try simp only [Act.put, List.setIfInBounds_toArray, List.set_cons_zero, List.set_cons_succ])
              refine wpAnyH_take (i := 8) (oi := { dst := some 105, op := Op.move (Operand.tmp 0), type := 40, pos := "more.go:32", after := #[{ on := 6, ground := Ground.guard }], guard := some (6, false) }) (v := ?_) rfl (by kernel_rfl) (by kernel_rfl) (by kernel_rfl) (fun _ _ _ h => h) (Or.inl ⟨by rfl, ?_⟩) (by assumption) ?_
              rotate_left
              · (intro ww hSw; (try dsimp only at hSw); go_simp; try with_reducible rfl)
              (try simp only [Act.put, List.setIfInBounds_toArray, List.set_cons_zero, List.set_cons_succ])
              refine wpAnyH_take (i := 9) (oi := { dst := some 106, op := Op.move (Operand.tmp 9), type := 3, pos := "more.go:32", after := #[{ on := 6, ground := Ground.guard }], guard := some (6, false) }) (v := ?_) rfl (by kernel_rfl) (by kernel_rfl) (by kernel_rfl) (fun _ _ _ h => h) (Or.inl ⟨by rfl, ?_⟩) (by assumption) ?_
              rotate_left
              · (intro ww hSw; (try dsimp only at hSw); go_simp; try with_reducible rfl)
              (try simp only [Act.put, List.setIfInBounds_toArray, List.set_cons_zero, List.set_cons_succ])
              refine wpAnyH_take (i := 10) (oi := { dst := some 107, op := Op.indexAddr 40 (Operand.tmp 105) (Operand.tmp 106), type := 0, pos := "more.go:32", after := #[{ on := 8, ground := Ground.data }, { on := 9, ground := Ground.data }, { on := 6, ground := Ground.guard }], guard := some (6, false) }) (v := ?_) rfl (by kernel_rfl) (by kernel_rfl) (by kernel_rfl) (fun _ _ _ h => h) (Or.inl ⟨by rfl, ?_⟩) (by assumption) ?_
              rotate_left
              · (intro ww hSw; (try dsimp only at hSw); go_simp; try with_reducible rfl)
              (try simp only [Act.put, List.setIfInBounds_toArray, List.set_cons_zero, List.set_cons_succ])
              refine wpAnyH_take (i := 11) (oi := { dst := some 108, op := Op.fieldAddr 38 (Operand.tmp 107) 0, type := 0, pos := "more.go:32", after := #[{ on := 10, ground := Ground.data }, { on := 6, ground := Ground.guard }], guard := some (6, false) }) (v := ?_) rfl (by kernel_rfl) (by kernel_rfl) (by kernel_rfl) (fun _ _ _ h => h) (Or.inl ⟨by rfl, ?_⟩) (by assumption) ?_
              rotate_left
              · (intro ww hSw; (try dsimp only at hSw); go_simp; try with_reducible rfl)
              (try simp only [Act.put, List.setIfInBounds_toArray, List.set_cons_zero, List.set_cons_succ])
              refine wpAnyH_take (i := 12) (oi := { dst := some 109, op := Op.load 36 (Operand.tmp 108), type := 36, pos := "more.go:32", after := #[{ on := 11, ground := Ground.data }, { on := 6, ground := Ground.guard }], guard := some (6, false) }) (v := .agg (VF).toArray) rfl (by kernel_rfl) (by kernel_rfl) (by kernel_rfl) (fun _ _ _ h => h) (yieldsIf_load_mid (by rfl) _ _ rfl (b2) (o2 + k * 20) rfl (VF) _ (fun ww hSw => hSw.2.1) Tryd.underlying36 rfl HI_VF.out) (by assumption) ?_
              (try simp only [Act.put, List.setIfInBounds_toArray, List.set_cons_zero, List.set_cons_succ])
              refine wpAnyH_take (i := 13) (oi := { dst := some 110, op := Op.binOp BinOp.neq 36 (Operand.tmp 104) (Operand.tmp 109) 36, type := 4, pos := "more.go:32", after := #[{ on := 7, ground := Ground.data }, { on := 12, ground := Ground.data }, { on := 6, ground := Ground.guard }], guard := some (6, false) }) (v := .bool false) rfl (by kernel_rfl) (by kernel_rfl) (by kernel_rfl) (fun _ _ _ h => h) (Or.inl ⟨by rfl, (by intro ww hSw; go_simp)⟩) (by assumption) ?_
              (try simp only [Act.put, List.setIfInBounds_toArray, List.set_cons_zero, List.set_cons_succ])
              refine wpAnyH_take (i := 14) (oi := { dst := some 111, op := Op.pick (Operand.tmp 103) (Operand.const (Value.bool true)) (Operand.tmp 110), type := 4, pos := "more.go:32", after := #[{ on := 6, ground := Ground.data }, { on := 13, ground := Ground.data }], guard := none }) (v := ?_) rfl (by kernel_rfl) (by kernel_rfl) (by kernel_rfl) (fun _ _ _ h => h) (Or.inl ⟨by rfl, ?_⟩) (by assumption) ?_
              rotate_left
              · (intro ww hSw; (try dsimp only at hSw); go_simp; try with_reducible rfl)
              (try simp only [Act.put, List.setIfInBounds_toArray, List.set_cons_zero, List.set_cons_succ])
              refine wpAnyH_take (i := 15) (oi := { dst := some 112, op := Op.move (Operand.tmp 111), type := 4, pos := "more.go:32", after := #[{ on := 14, ground := Ground.data }, { on := 6, ground := Ground.chain }], guard := none }) (v := ?_) rfl (by kernel_rfl) (by kernel_rfl) (by kernel_rfl) (fun _ _ _ h => h) (Or.inl ⟨by rfl, ?_⟩) (by assumption) ?_
              rotate_left
              · (intro ww hSw; (try dsimp only at hSw); go_simp; try with_reducible rfl)
              (try simp only [Act.put, List.setIfInBounds_toArray, List.set_cons_zero, List.set_cons_succ])
              refine wpAnyH_take (i := 16) (oi := { dst := some 113, op := Op.load 23 (Operand.tmp 12), type := 23, pos := "more.go:32", after := #[{ on := 15, ground := Ground.guard }], guard := some (15, false) }) (v := .agg (VX).toArray) rfl (by kernel_rfl) (by kernel_rfl) (by kernel_rfl) (fun _ _ _ h => h) (yieldsIf_load_mid (by rfl) _ _ rfl (g12) 0 rfl (VX) _ (fun ww hSw => hSw.1.hd.range) Tryd.underlying23 rfl HI_VX.out) (by assumption) ?_
              (try simp only [Act.put, List.setIfInBounds_toArray, List.set_cons_zero, List.set_cons_succ])
              refine wpAnyH_take (i := 17) (oi := { dst := some 114, op := Op.move (Operand.tmp 0), type := 40, pos := "more.go:32", after := #[{ on := 15, ground := Ground.guard }], guard := some (15, false) }) (v := ?_) rfl (by kernel_rfl) (by kernel_rfl) (by kernel_rfl) (fun _ _ _ h => h) (Or.inl ⟨by rfl, ?_⟩) (by assumption) ?_
              rotate_left
              · (intro ww hSw; (try dsimp only at hSw); go_simp; try with_reducible rfl)
              (try simp only [Act.put, List.setIfInBounds_toArray, List.set_cons_zero, List.set_cons_succ])
              refine wpAnyH_take (i := 18) (oi := { dst := some 115, op := Op.move (Operand.tmp 9), type := 3, pos := "more.go:32", after := #[{ on := 15, ground := Ground.guard }], guard := some (15, false) }) (v := ?_) rfl (by kernel_rfl) (by kernel_rfl) (by kernel_rfl) (fun _ _ _ h => h) (Or.inl ⟨by rfl, ?_⟩) (by assumption) ?_
              rotate_left
              · (intro ww hSw; (try dsimp only at hSw); go_simp; try with_reducible rfl)
              (try simp only [Act.put, List.setIfInBounds_toArray, List.set_cons_zero, List.set_cons_succ])
              refine wpAnyH_take (i := 19) (oi := { dst := some 116, op := Op.indexAddr 40 (Operand.tmp 114) (Operand.tmp 115), type := 0, pos := "more.go:32", after := #[{ on := 17, ground := Ground.data }, { on := 18, ground := Ground.data }, { on := 15, ground := Ground.guard }], guard := some (15, false) }) (v := ?_) rfl (by kernel_rfl) (by kernel_rfl) (by kernel_rfl) (fun _ _ _ h => h) (Or.inl ⟨by rfl, ?_⟩) (by assumption) ?_
              rotate_left
              · (intro ww hSw; (try dsimp only at hSw); go_simp; try with_reducible rfl)
              (try simp only [Act.put, List.setIfInBounds_toArray, List.set_cons_zero, List.set_cons_succ])
              refine wpAnyH_take (i := 20) (oi := { dst := some 117, op := Op.fieldAddr 38 (Operand.tmp 116) 1, type := 0, pos := "more.go:32", after := #[{ on := 19, ground := Ground.data }, { on := 15, ground := Ground.guard }], guard := some (15, false) }) (v := ?_) rfl (by kernel_rfl) (by kernel_rfl) (by kernel_rfl) (fun _ _ _ h => h) (Or.inl ⟨by rfl, ?_⟩) (by assumption) ?_
              rotate_left
              · (intro ww hSw; (try dsimp only at hSw); go_simp; try with_reducible rfl)
              (try simp only [Act.put, List.setIfInBounds_toArray, List.set_cons_zero, List.set_cons_succ])
              refine wpAnyH_take (i := 21) (oi := { dst := some 118, op := Op.load 23 (Operand.tmp 117), type := 23, pos := "more.go:32", after := #[{ on := 20, ground := Ground.data }, { on := 15, ground := Ground.guard }], guard := some (15, false) }) (v := .agg (VX).toArray) rfl (by kernel_rfl) (by kernel_rfl) (by kernel_rfl) (fun _ _ _ h => h) (yieldsIf_load_mid (by rfl) _ _ rfl (b2) (o2 + k * 20 + 4) rfl (VX) _ (fun ww hSw => hSw.2.2) Tryd.underlying23 rfl HI_VX.out) (by assumption) ?_
              (try simp only [Act.put, List.setIfInBounds_toArray, List.set_cons_zero, List.set_cons_succ])
              refine wpAnyH_take (i := 22) (oi := { dst := some 119, op := Op.binOp BinOp.neq 23 (Operand.tmp 113) (Operand.tmp 118) 23, type := 4, pos := "more.go:32", after := #[{ on := 16, ground := Ground.data }, { on := 21, ground := Ground.data }, { on := 15, ground := Ground.guard }], guard := some (15, false) }) (v := .bool false) rfl (by kernel_rfl) (by kernel_rfl) (by kernel_rfl) (fun _ _ _ h => h) (Or.inl ⟨by rfl, (by intro ww hSw; go_simp)⟩) (by assumption) ?_
              (try simp only [Act.put, List.setIfInBounds_toArray, List.set_cons_zero, List.set_cons_succ])
              refine wpAnyH_take (i := 23) (oi := { dst := some 120, op := Op.pick (Operand.tmp 112) (Operand.const (Value.bool true)) (Operand.tmp 119), type := 4, pos := "more.go:32", after := #[{ on := 15, ground := Ground.data }, { on := 22, ground := Ground.data }], guard := none }) (v := ?_) rfl (by kernel_rfl) (by kernel_rfl) (by kernel_rfl) (fun _ _ _ h => h) (Or.inl ⟨by rfl, ?_⟩) (by assumption) ?_
              rotate_left
              · (intro ww hSw; (try dsimp only at hSw); go_simp; try with_reducible rfl)
              (try simp only [Act.put, List.setIfInBounds_toArray, List.set_cons_zero, List.set_cons_succ])
              refine wpAnyH_take (i := 24) (oi := { dst := some 121, op := Op.move (Operand.tmp 120), type := 4, pos := "more.go:32", after := #[{ on := 23, ground := Ground.data }, { on := 15, ground := Ground.chain }], guard := none }) (v := ?_) rfl (by kernel_rfl) (by kernel_rfl) (by kernel_rfl) (fun _ _ _ h => h) (Or.inl ⟨by rfl, ?_⟩) (by assumption) ?_
              rotate_left
              · (intro ww hSw; (try dsimp only at hSw); go_simp; try with_reducible rfl)
              (try simp only [Act.put, List.setIfInBounds_toArray, List.set_cons_zero, List.set_cons_succ])
              refine wpAnyH_take (i := 25) (oi := { dst := some 122, op := Op.move (Operand.tmp 15), type := 32, pos := "more.go:32", after := #[{ on := 24, ground := Ground.guard }], guard := some (24, false) }) (v := ?_) rfl (by kernel_rfl) (by kernel_rfl) (by kernel_rfl) (fun _ _ _ h => h) (Or.inl ⟨by rfl, ?_⟩) (by assumption) ?_
              rotate_left
              · (intro ww hSw; (try dsimp only at hSw); go_simp; try with_reducible rfl)
              (try simp only [Act.put, List.setIfInBounds_toArray, List.set_cons_zero, List.set_cons_succ])
              refine wpAnyH_take (i := 26) (oi := { dst := some 123, op := Op.binOp BinOp.neq 32 (Operand.tmp 122) (Operand.const (Value.int IntKind.i64 5)) 32, type := 4, pos := "more.go:32", after := #[{ on := 25, ground := Ground.data }, { on := 24, ground := Ground.guard }], guard := some (24, false) }) (v := ?_) rfl (by kernel_rfl) (by kernel_rfl) (by kernel_rfl) (fun _ _ _ h => h) (Or.inl ⟨by rfl, ?_⟩) (by assumption) ?_
              rotate_left
              · (intro ww hSw; (try dsimp only at hSw); go_simp; try with_reducible rfl)
              (try simp only [Act.put, List.setIfInBounds_toArray, List.set_cons_zero, List.set_cons_succ])
              refine wpAnyH_take (i := 27) (oi := { dst := some 124, op := Op.pick (Operand.tmp 121) (Operand.const (Value.bool true)) (Operand.tmp 123), type := 4, pos := "more.go:32", after := #[{ on := 24, ground := Ground.data }, { on := 26, ground := Ground.data }], guard := none }) (v := ?_) rfl (by kernel_rfl) (by kernel_rfl) (by kernel_rfl) (fun _ _ _ h => h) (Or.inl ⟨by rfl, ?_⟩) (by assumption) ?_
              rotate_left
              · (intro ww hSw; (try dsimp only at hSw); go_simp; try with_reducible rfl)
              (try simp only [Act.put, List.setIfInBounds_toArray, List.set_cons_zero, List.set_cons_succ])
              refine wpAnyH_done (by kernel_rfl) ?_ _
              refine NoPanic.normal ?_
              have HBN := Lib.hid (HB.out.trans (hHeld.1.2.1.mono HB.out.size))
              clear hHeld hq4 hq6
              go_wp2_with fail
              go_roundw
              case rel => exact ⟨k + 1, hlt, by go_num, HBN.out⟩
              case measure => simp [intOf]; omega
          · obtain rfl : k = l.length := by omega
            have CA2 := Lib.hid (all_any b5 r wr (T2.out _ HB.out))
            go_wp2_with fail
            refine (CA2.out).mono ?_
            rintro e w5 ⟨u5, rfl, hu5, hb5⟩
            have HB5 := Lib.hid (HB.out.trans (hb5.mono HB.out.size))
            have CS2 := Lib.hid (same_any u5 (.slice au r.length cu) r r w5 (own_rs hu5) (HU4.out _ HB5.out) HRk.out (HRk.out) (by rw [HRn.out]; omega) (by rw [HRn.out]; omega))
            clear hu5 hb5 CA2
            go_wp2_with fail
            refine (CS2.out).mono ?_
            rintro e w6 ⟨rfl, hb6⟩
            have HB6 := Lib.hid (HB5.out.trans (hb6.mono HB5.out.size))
            clear hb6 CS2
            have CA1 := Lib.hid (all_any b1 l w6 (T1.out _ HB6.out))
            go_wp2_with fail
            refine (CA1.out).mono ?_
            rintro e w7 ⟨u7, rfl, hu7, hb7⟩
            have HB7 := Lib.hid (HB6.out.trans (hb7.mono HB6.out.size))
            have CS1 := Lib.hid (same_self u7 (.slice ao l.length cap) l w7 (own_rs hu7) (HR3.out _ HB7.out) HL.out (by omega))
            clear hu7 hb7 CA1
            go_wp2_with fail
            refine (CS1.out).mono ?_
            rintro e w8 ⟨rfl, hb8⟩
            have HB8 := Lib.hid (HB7.out.trans (hb8.mono HB7.out.size))
            clear hb8 CS1
            go_wp2_with fail
            go_ret
            exact ⟨rfl, HBE.out _ HB8.out⟩
end Go.Proofs.YtchdagdmbjpmcaaDoor
