/-
  Proved here: the law EamAnew answers true.
  Conditions: a slice that reads as pairs of addresses of their lengths; any byte; the program's lists of martian addresses stand.
-/
import Derived.Test.YtchdagdmbjpmcaaDoorGd
import Derived.Test.YtchdagdmbjpmcaaDoorOpn
namespace Go.Proofs.YtchdagdmbjpmcaaDoor
open Go.RowKit

theorem new_nil3 (w : World) (hm : Hm w) : Calls Tryd.prog 14 #[.slice none 0 0] w fun e w' => Below w.heap.size w w' ∧ e = .returned (.tuple #[.pointer (some ⟨w.heap.size, 0, none⟩), .int .i64 0]) ∧ Tb w' w.heap.size [] := by
  refine (new_any (.slice none 0 0) [] w (.inl ⟨rfl, rfl⟩) okPs_nil (Nat.zero_le _) hm).mono ?_
  rintro e w' ⟨h1, ⟨_, h2, h3⟩ | ⟨h2, _⟩⟩
  · exact ⟨h1, h2, h3⟩
  · exact absurd rfl h2
/-- A row stands while a row of an older block is written. -/
theorem own_past {w w' : World} {base : Nat} {v : Value} {n : Nat} {xs : List Value} {row : Option Nat} (h : w.ownsRow base 38 20 v n xs) (g : w.grownBy w' row) (hr : ∀ j, row = some j → j < base) : w'.ownsRow base 38 20 v n xs := by
  obtain ⟨h0, h | ⟨c, cap, cur, rfl, h1, h2, h3⟩⟩ := h
  · exact ⟨h0, .inl h⟩
  · exact ⟨h0, .inr ⟨c, cap, cur, rfl, h1, (g.block c ((Array.getElem?_eq_some_iff.1 h2).1) (fun e => by have := hr c e.symm; omega)).trans h2, h3⟩⟩
theorem own_tb {w w' : World} {base b : Nat} {v : Value} {n : Nat} {xs : List Value} {m : Kv} (h : w.ownsRow base 38 20 v n xs) (hT : Tb w b m) (g : w.grownBy w' (some b)) : w'.ownsRow base 38 20 v n xs := by
  obtain ⟨_, s, m4, m6, h1, _⟩ := hT
  exact ow_other h h1 g
theorem drop_len2 {L : Kv} {a : List UInt8} (hd : Ds L) (h : sixI L a = true) : (dropL L a).length + 1 = L.length := by
  induction L with
  | nil => cases h
  | cons x r ih =>
    have hc := List.pairwise_cons.1 hd
    by_cases hx : x.1 = a
    · have hr : sixI r a = false := by
        unfold sixI
        have : lk r a = none := lk_none.2 fun y hy e => (hc.1 y hy).1 (hx.trans e.symm)
        rw [this]; rfl
      have e : dropL (x :: r) a = dropL r a := by unfold dropL; rw [List.filter_cons_of_neg (by simpa using hx)]
      rw [e, drop_none hr]; rfl
    · have hr : sixI r a = true := by
        unfold sixI at h ⊢
        have e : lk (x :: r) a = lk r a := by show (if x.1 = a then some x.2 else lk r a) = _; rw [if_neg hx]
        rwa [e] at h
      have e : dropL (x :: r) a = x :: dropL r a := by unfold dropL; rw [List.filter_cons_of_pos (by simpa using hx)]
      rw [e]
      show (dropL r a).length + 1 + 1 = r.length + 1
      rw [ih hc.2 hr]
theorem drop_gone2 (L : Kv) (a : List UInt8) : sixI (dropL L a) a = false := by
  unfold sixI
  have : lk (dropL L a) a = none := lk_none.2 fun y hy e => by
    have := (List.mem_filter.1 hy).2
    simp [e] at this
  rw [this]; rfl
theorem cut_at {L : Kv} (hd : Ds L) : ∀ k (hk : k < L.length), L.take k ++ L.drop (k + 1) = dropL L L[k].1 := by
  induction L with
  | nil => intro k hk; cases hk
  | cons x r ih =>
    intro k hk
    have hc := List.pairwise_cons.1 hd
    cases k with
    | zero =>
      have hr : sixI r x.1 = false := by
        unfold sixI
        have : lk r x.1 = none := lk_none.2 fun y hy e => (hc.1 y hy).1 e.symm
        rw [this]; rfl
      show r = dropL (x :: r) x.1
      unfold dropL
      rw [List.filter_cons_of_neg (by simp)]
      exact (drop_none hr).symm
    | succ k =>
      have hk' : k < r.length := by simpa using hk
      have hne : x.1 ≠ r[k].1 := (hc.1 _ (List.getElem_mem hk')).1
      show x :: (r.take k ++ r.drop (k + 1)) = dropL (x :: r) r[k].1
      rw [ih hc.2 k hk']
      unfold dropL
      rw [List.filter_cons_of_pos (by simpa using hne)]
theorem four_gone {L : Kv} (hd : Ds L) {p : List UInt8 × List UInt8} (hp : p ∈ L) : fourI (dropL L p.1) p.2 = false := by
  unfold fourI
  have : lk (sw (dropL L p.1)) p.2 = none := lk_none.2 fun y hy e => by
    obtain ⟨z, hz, rfl⟩ := List.mem_map.1 hy
    have hz' := List.mem_filter.1 hz
    have e' : z.2 = p.2 := e
    have h1 := (four_of hd hz'.1).1
    rw [e', (four_of hd hp).1] at h1
    have h2 := hz'.2
    simp [h1] at h2
  rw [this]; rfl
theorem add_again {L : Kv} (hg : Good L) {p : List UInt8 × List UInt8} (hp : p ∈ L) : addE (dropL L p.1) p = 0 := by
  refine addE_zero.2 ⟨hg.ma p hp, ?_, ?_⟩
  · unfold shr
    rw [drop_gone2, four_gone hg.ds hp]; rfl
  · have := drop_len2 hg.ds (six_of hg.ds hp).2
    have := hg.len
    omega
theorem good_add {L : Kv} (hg : Good L) (p : List UInt8 × List UInt8) : Good (addL L p) := by
  by_cases h : addE L p = 0
  · rw [addL_ok h]; exact (good_snoc hg).1 h
  · unfold addL; rw [if_neg h]; exact hg
set_option maxRecDepth 100000 in
set_option maxHeartbeats 8000000 in
theorem eamAnew_any (v : Value) (l : Kv) (c : UInt8) (w : World) (hR : Rs w v l) (hl : okPs l) (hm : Hm w) :
    Calls Tryd.prog 8 #[v, .int .u8 (c.toNat)] w fun e w' => e = .returned (.bool true) ∧ Below w.heap.size w w' := by
  have HR : Hid (∀ W, Below w.heap.size w W → Rs W v l) := Lib.hid (fun W hW => hR.below hW)
  have HL := Lib.hid hl
  have HM : Hid (∀ W, Below w.heap.size w W → Hm W) := Lib.hid (fun W hW => hm.below hW)
  have CA : Hid (∀ W, Below w.heap.size w W → Calls Tryd.prog 21 #[] W fun e w' => e = .returned (.bool true) ∧ Below W.heap.size W w') := Lib.hid (fun W hW => awake_true W (hm.below hW))
  obtain ⟨ao, cap, rfl, _, _⟩ := hR.shape
  clear hR hl hm
  have hc0 : (0 : Int) ≤ (c.toNat : Int) := by omega
  have hc1 : (c.toNat : Int) < 256 := by have := c.toNat_lt; omega
  go_enter Tryd.func8, Tryd.ntmps8
  go_wp2_with fail
  refine (CA.out _ (Below.refl _ _)).mono ?_
  rintro e w1 ⟨rfl, hb1⟩
  have HB1 := Lib.hid hb1
  clear hb1 CA
  by_cases h100 : 100 < l.length
  · have h1 : (100 : Int) < (l.length : Int) := by omega
    clear h100
    go_wp2_with fail
    go_ret
    exact ⟨rfl, HB1.out⟩
  have h1 : ¬ (100 : Int) < (l.length : Int) := by omega
  have hn : l.length ≤ 100 := by omega
  clear h100
  have CN0 := Lib.hid (new_nil3 w1 (HM.out _ HB1.out))
  go_wp2_with fail
  refine (CN0.out).mono ?_
  rintro e w2 ⟨hb2, rfl, hT⟩
  have HB2 := Lib.hid (HB1.out.trans (hb2.mono HB1.out.size))
  have HT2 := Lib.hid hT
  have HZ4 : Hid (w.heap.size ≤ w1.heap.size) := Lib.hid HB1.out.size
  clear hb2 hT CN0 h1
  generalize w1.heap.size = tb at *
  go_wp2_with fail
  go_loopw [7] (fun i wr => ∃ (k : Nat) (L : Kv), k ≤ l.length ∧ i = .int .i64 k ∧ Tb wr tb L ∧ Good L ∧ Kp w w.heap.size [] wr) (fun i _ => l.length - (intOf i).toNat)
  case atStart => exact ⟨0, [], Nat.zero_le _, rfl, HT2.out, Good.nil, ⟨fun y hy => (by cases hy), HB2.out, HB2.out.size⟩⟩
  case round =>
    obtain ⟨k, L, hk, rfl, ht, hgd, hkp⟩ := hrel
    have HK4 := Lib.hid hkp
    have HTk := Lib.hid ht
    have HG := Lib.hid hgd
    clear ht hkp HT2 hgd
    by_cases hlt : k < l.length
    · obtain ⟨_, _, hsh, _, hS⟩ := (HR.out _ HK4.out.2.1).shape
      obtain ⟨b2, o2, e2, hbl, hr⟩ := hS k hlt
      obtain rfl : ao = some ⟨b2, o2, none⟩ := by
        cases hsh
        exact e2
      have HOk := Lib.hid (okPs_at HL.out k hlt)
      have hq1 := range_el hr HL.out k hlt
      have HI_PV : Hid ((Tryd.prog.info? 38).map (·.size) = some (prv l[k]).length) := Lib.hid (Tryd.infoP _ (HOk.out))
      have HO_PV : Hid ((prv l[k]).toArray.all (·.oneCell') = true) := Lib.hid (prv_ones _)
      have HL_PV : Hid ((prv l[k]).length = 20) := Lib.hid (prv_len (HOk.out))
      have hk2 : (k : Int) < (l.length : Int) := by omega
      have C2 := Lib.hid (add_any tb L l[k] wr HTk.out HOk.out (HM.out _ HK4.out.2.1))
      have HGa := Lib.hid (good_add HG.out l[k])
      clear hr hsh hS hbl e2
      generalize addE L l[k] = AE at *
      generalize addL L l[k] = LA at *
      generalize prv l[k] = PV at *
      go_wp2_with (((with_reducible (change wpList _ _ _ _ _ _)); (refine wpList_load_mid rfl 38 _ rfl b2 (o2 + k * 20) rfl PV _ hq1 Tryd.underlying38 rfl HI_PV.out ?_)))
      refine (C2.out).mono ?_
      rintro e w5 ⟨rfl, ht, hg⟩
      have HK5 := Lib.hid (HK4.out.grown hg (fun y hy => (by cases hy)) (fun j hj => by cases hj; exact HZ4.out))
      have HT5 := Lib.hid ht
      clear ht hg hq1 C2
      go_wp2_with fail
      go_roundw
      case rel => exact ⟨k + 1, LA, hlt, by go_num, HT5.out, HGa.out, HK5.out⟩
      case measure => simp [intOf]; omega
    · obtain rfl : k = l.length := by omega
      have HNl := Lib.hid HTk.out.nl
      have hle := HNl.out.len
      have CI0 := Lib.hid (all_any tb L wr HTk.out)
      go_wp2_with fail
      refine (CI0.out).mono ?_
      rintro e w6 ⟨u8, rfl, hu8, hb6⟩
      have HK6 := Lib.hid (HK4.out.below hb6 (Nat.le_refl _))
      have HT6 := Lib.hid (HTk.out.below hb6)
      have HZ6 : Hid (tb < w6.heap.size) := Lib.hid HT6.out.lt
      have HU6 := Lib.hid hu8
      obtain ⟨au, cu, rfl, hcu⟩ := own_shape hu8
      have CN := Lib.hid (new_any (.slice au L.length cu) L w6 (own_rs HU6.out) HNl.out.ok (by omega) (HM.out _ HK6.out.2.1))
      clear hu8 hb6 CI0 HK4 HTk HB2 HB1
      go_wp2_with fail
      refine (CN.out).mono ?_
      rintro e w7 ⟨hb7, ⟨_, rfl, hT⟩ | ⟨h01, _⟩⟩
      rotate_left
      · exact absurd (newE_good.2 HG.out) h01
      rw [newL_good HG.out] at hT
      have HT2 := Lib.hid hT
      have HK7 := Lib.hid (HK6.out.below hb7 (Nat.le_refl _))
      have HT7 := Lib.hid (HT6.out.below hb7)
      have HU7 := Lib.hid (ow_below HU6.out hb7)
      have HNe : Hid (tb ≠ w6.heap.size) := Lib.hid (by have := HZ6.out; omega)
      have HZ8 : Hid (w.heap.size ≤ w6.heap.size) := Lib.hid HK6.out.2.2
      clear hT hb7 CN HT6 HU6 HK6 HZ6
      generalize w6.heap.size = t2 at *
      generalize wr.heap.size = ub at *
      have CI2 := Lib.hid (all_any t2 L w7 HT2.out)
      go_wp2_with fail
      refine (CI2.out).mono ?_
      rintro e w8 ⟨u9, rfl, hu9, hb8⟩
      have HK8 := Lib.hid (HK7.out.below hb8 (Nat.le_refl _))
      have HT1 := Lib.hid (HT7.out.below hb8)
      have HT2 := Lib.hid (HT2.out.below hb8)
      have HU8 := Lib.hid (ow_below HU7.out hb8)
      have CS := Lib.hid (same_self u9 (.slice au L.length cu) L w8 (own_rs hu9) (own_rs HU8.out) HNl.out.ok (by omega))
      clear hu9 hb8 CI2 HK7 HT7 HU7
      go_wp2_with fail
      refine (CS.out).mono ?_
      rintro e w9 ⟨rfl, hb9⟩
      have HK9 := Lib.hid (HK8.out.below hb9 (Nat.le_refl _))
      have HT1 := Lib.hid (HT1.out.below hb9)
      have HT2 := Lib.hid (HT2.out.below hb9)
      have HU9 := Lib.hid (ow_below HU8.out hb9)
      clear hb9 CS HK8 HU8
      by_cases h0 : L.length = 0
      · have q0 : ((L.length : Int) == 0) = true := by rw [h0]; rfl
        have CL := Lib.hid (len_any t2 L w9 HT2.out)
        go_wp2_with fail
        refine (CL.out).mono ?_
        rintro e w10 ⟨rfl, rfl⟩
        go_wp2_with fail
        go_ret
        exact ⟨rfl, HK9.out.2.1⟩
      have q0 : ((L.length : Int) == 0) = false := by simpa using h0
      have hcw : wrap64 ((c.toNat : Nat) : Int) = (c.toNat : Int) := by unfold wrap64; omega
      obtain ⟨k, hk⟩ : ∃ k, k = c.toNat % L.length := ⟨_, rfl⟩
      have hkl : k < L.length := by rw [hk]; exact Nat.mod_lt _ (by omega)
      have hcm : (c.toNat : Int) % (L.length : Int) = (k : Int) := by rw [hk]; rfl
      clear hk
      go_upto_region 19 with (fail)
      rw [hcm]
      clear hcm hcw q0
      obtain ⟨g, o3, ho3, rfl⟩ : ∃ g o3, o3 = 0 ∧ au = some ⟨g, o3, none⟩ := by
        obtain ⟨_, ⟨e, _⟩ | ⟨g, cap', cur, e, _⟩⟩ := id HU9.out
        · exact absurd (Value.slice.inj e).2.1 h0
        · exact ⟨g, 0, rfl, (Value.slice.inj e).1⟩
      have HO3 := Lib.hid ho3
      have HRr : Hid (∀ W : World, W.ownsRow ub 38 20 (.slice (some ⟨g, o3, none⟩) L.length cu) L.length (prV L) → g < W.heap.size ∧ W.rangeAt g o3 (prV L)) := Lib.hid (fun W h => by
        obtain ⟨_, _, hsh, _, hS⟩ := (own_rs h).shape
        obtain ⟨b, o, e, hbl, hr⟩ := hS k hkl
        cases hsh
        cases e
        exact ⟨hbl, hr⟩)
      have HLk : Hid (okPs L) := Lib.hid HNl.out.ok
      obtain ⟨p, hp⟩ : ∃ p, p = L[k] := ⟨_, rfl⟩
      have HPm : Hid (p ∈ L) := Lib.hid (by rw [hp]; exact List.getElem_mem hkl)
      have HPo := Lib.hid (HLk.out p HPm.out)
      have HCut : Hid (L.take k ++ L.drop (k + 1) = dropL L p.1) := Lib.hid (by rw [hp]; exact cut_at HG.out.ds k hkl)
      have HLn : Hid ((dropL L p.1).length + 1 = L.length) := Lib.hid (drop_len2 HG.out.ds (six_of HG.out.ds HPm.out).2)
      have HND := Lib.hid (HNl.out.drop p.1)
      have C4 : Hid (∀ W, Tb W t2 L → Calls Tryd.prog 18 #[.pointer (some ⟨t2, 0, none⟩), .agg (bu p.1).toArray] W fun e w' => e = .returned (.int .i64 0) ∧ Tb w' t2 (dropL L p.1) ∧ W.grownBy w' (some t2)) := Lib.hid (fun W h => by
        have e : dropE L p.1 = 0 := by unfold dropE; rw [(six_of HG.out.ds HPm.out).2]; rfl
        have := drop_any t2 L p.1 W h HPo.out.1
        rwa [e] at this)
      have CF : Hid (∀ W, Tb W t2 (dropL L p.1) → Calls Tryd.prog 25 #[.pointer (some ⟨t2, 0, none⟩), .agg (bu p.2).toArray] W fun e w' => e = .returned (.tuple #[.agg (bu (fourA (dropL L p.1) p.2)).toArray, .bool false]) ∧ Below W.heap.size W w') := Lib.hid (fun W h => by
        have := four_any t2 (dropL L p.1) p.2 W h HPo.out.2
        rwa [four_gone HG.out.ds HPm.out] at this)
      have C2 : Hid (∀ W, Tb W t2 (dropL L p.1) → Hm W → Calls Tryd.prog 17 #[.pointer (some ⟨t2, 0, none⟩), .agg (prv p).toArray] W fun e w' => e = .returned (.int .i64 0) ∧ Tb w' t2 (dropL L p.1 ++ [p]) ∧ W.grownBy w' (some t2)) := Lib.hid (fun W h hm => by
        have e := add_again HG.out HPm.out
        have := add_any t2 (dropL L p.1) p W h HPo.out hm
        rwa [e, addL_ok e] at this)
      have HI_VF : Hid ((Tryd.prog.info? 36).map (·.size) = some (bu p.1).length) := Lib.hid (Tryd.infoU4 _ (HPo.out.1))
      have HO_VF : Hid ((bu p.1).toArray.all (·.oneCell') = true) := Lib.hid (bu_one _)
      have HL_VF : Hid ((bu p.1).length = 4) := Lib.hid (by rw [bu_len]; exact HPo.out.1)
      have HI_VX : Hid ((Tryd.prog.info? 23).map (·.size) = some (bu p.2).length) := Lib.hid (Tryd.infoU6 _ (HPo.out.2))
      have HO_VX : Hid ((bu p.2).toArray.all (·.oneCell') = true) := Lib.hid (bu_one _)
      have HL_VX : Hid ((bu p.2).length = 16) := Lib.hid (by rw [bu_len]; exact HPo.out.2)
      have HI_PV : Hid ((Tryd.prog.info? 38).map (·.size) = some (prv p).length) := Lib.hid (Tryd.infoP _ (HPo.out))
      have HO_PV : Hid ((prv p).toArray.all (·.oneCell') = true) := Lib.hid (prv_ones _)
      have HL_PV : Hid ((prv p).length = 20) := Lib.hid (prv_len (HPo.out))
      have HI_FA : Hid ((Tryd.prog.info? 36).map (·.size) = some (bu (fourA (dropL L p.1) p.2)).length) := Lib.hid (Tryd.infoU4 _ (fourA_len HND.out _))
      have HO_FA : Hid ((bu (fourA (dropL L p.1) p.2)).toArray.all (·.oneCell') = true) := Lib.hid (bu_one _)
      have HL_FA : Hid ((bu (fourA (dropL L p.1) p.2)).length = 4) := Lib.hid (by rw [bu_len]; exact fourA_len HND.out _)
      have HRp : Hid (∀ W g, Bk W g 38 (prv p).toArray → W.rangeAt g 0 (bu p.1) ∧ W.rangeAt g (0 + 4) (bu p.2)) := Lib.hid (fun W g h => ⟨range_f h.range, range_x h.range HPo.out⟩)
      have HBS := Lib.hid (bslice_one p HPo.out)
      have hr0 : w9.rangeAt g (o3 + k * 20) (prv p) := by rw [hp]; exact range_el (HRr.out _ HU9.out).2 HLk.out k hkl
      have hkL : (k : Int) < (L.length : Int) := by omega
      have HZt : Hid (t2 < w9.heap.size) := Lib.hid HT2.out.lt
      have hlD : (dropL L p.1).length ≤ 16 := by have := HLn.out; omega
      clear hp ho3 HNl hc0 hc1
      generalize dropL L p.1 = LD at *
      generalize bu (fourA LD p.2) = FA at *
      generalize bu p.1 = VF at *
      generalize bu p.2 = VX at *
      generalize hPV : prv p = PV at *
      have HPV := Lib.hid hPV
      clear hPV
      have ht := (bk_new w9 38 ([.int .u8 0, .int .u8 0, .int .u8 0, .int .u8 0, .int .u8 0, .int .u8 0, .int .u8 0, .int .u8 0, .int .u8 0, .int .u8 0, .int .u8 0, .int .u8 0, .int .u8 0, .int .u8 0, .int .u8 0, .int .u8 0, .int .u8 0, .int .u8 0, .int .u8 0, .int .u8 0] : List Value).toArray).there PV.toArray.size (by have := HL_PV.out; simp; omega)
      go_upto_region 20 with (first | (refine wpList_load_mid rfl 38 _ rfl g (o3 + k * 20) rfl PV _ hr0 Tryd.underlying38 rfl HI_PV.out ?_) | (refine wpList_store_mid rfl 38 _ _ rfl w9.heap.size 0 PV.toArray rfl rfl ht (by simpa using HI_PV.out) HO_PV.out ?_))
      have HK10 := Lib.hid (HK9.out.put 38 ([.int .u8 0, .int .u8 0, .int .u8 0, .int .u8 0, .int .u8 0, .int .u8 0, .int .u8 0, .int .u8 0, .int .u8 0, .int .u8 0, .int .u8 0, .int .u8 0, .int .u8 0, .int .u8 0, .int .u8 0, .int .u8 0, .int .u8 0, .int .u8 0, .int .u8 0, .int .u8 0] : List Value).toArray PV (by have := HL_PV.out; simp; omega))
      have HW5 : Hid (Below w9.heap.size w9 ((w9.alloc (.cells ([.int .u8 0, .int .u8 0, .int .u8 0, .int .u8 0, .int .u8 0, .int .u8 0, .int .u8 0, .int .u8 0, .int .u8 0, .int .u8 0, .int .u8 0, .int .u8 0, .int .u8 0, .int .u8 0, .int .u8 0, .int .u8 0, .int .u8 0, .int .u8 0, .int .u8 0, .int .u8 0] : List Value).toArray 38)).setCells w9.heap.size 0 PV)) := Lib.hid (below_sets PV (Nat.le_refl _) 0 _ ((Below.refl _ _).alloc (Nat.le_refl _) _))
      clear ht hr0 HK9
      generalize (w9.alloc (.cells ([.int .u8 0, .int .u8 0, .int .u8 0, .int .u8 0, .int .u8 0, .int .u8 0, .int .u8 0, .int .u8 0, .int .u8 0, .int .u8 0, .int .u8 0, .int .u8 0, .int .u8 0, .int .u8 0, .int .u8 0, .int .u8 0, .int .u8 0, .int .u8 0, .int .u8 0, .int .u8 0] : List Value).toArray 38)).setCells w9.heap.size 0 PV = w10 at *
      have HT1 := Lib.hid (HT1.out.below HW5.out)
      have HT2 := Lib.hid (HT2.out.below HW5.out)
      have HU := Lib.hid (ow_below HU9.out HW5.out)
      have HGn : Hid (w9.heap.size ≠ t2) := Lib.hid (by have := HZt.out; omega)
      clear HZt HW5 HU9
      generalize w9.heap.size = g12 at *
      have hr0 := (HRp.out _ _ HK10.out.hd).1
      go_wp2_with (((with_reducible (change wpList _ _ _ _ _ _)); ((refine wpList_load_mid rfl 36 _ rfl (g12) (0) rfl (VF) _ hr0 Tryd.underlying36 rfl HI_VF.out ?_))))
      clear hr0
      refine (C4.out _ HT2.out).mono ?_
      rintro e w11 ⟨rfl, ht, hg⟩
      have HK11 := Lib.hid (HK10.out.grown hg (fun y hy h => HGn.out (by rw [List.mem_singleton.1 hy] at h; exact Option.some.inj h)) (fun j hj => by cases hj; exact HZ8.out))
      have HT1 := Lib.hid (HT1.out.other HT2.out HNe.out hg)
      have HU := Lib.hid (own_tb HU.out HT2.out hg)
      have HT2 := Lib.hid ht
      clear ht hg HK10 C4
      have T1 : Hid (∀ W, Below w11.heap.size w11 W → Tb W tb L) := Lib.hid (fun W hW => HT1.out.below hW)
      have T2 : Hid (∀ W, Below w11.heap.size w11 W → Tb W t2 LD) := Lib.hid (fun W hW => HT2.out.below hW)
      have U : Hid (∀ W : World, Below w11.heap.size w11 W → W.ownsRow ub 38 20 (.slice (some ⟨g, o3, none⟩) L.length cu) L.length (prV L)) := Lib.hid (fun W hW => ow_below HU.out hW)
      have HR11 := Lib.hid (Below.refl w11.heap.size w11)
      clear HT1 HT2 HU
      have hr0 := (HRp.out _ _ HK11.out.hd).2
      go_wp2_with (((with_reducible (change wpList _ _ _ _ _ _)); ((refine wpList_load_mid rfl 23 _ rfl (g12) (0 + 4) rfl (VX) _ hr0 Tryd.underlying23 rfl HI_VX.out ?_))))
      clear hr0
      refine (CF.out _ (T2.out _ HR11.out)).mono ?_
      rintro e w12 ⟨rfl, bb⟩
      have HK12 := Lib.hid (HK11.out.below bb (Nat.le_refl _))
      have HR12 := Lib.hid (HR11.out.trans (bb.mono HR11.out.size))
      clear bb HK11 HR11
      have hR := below_sets FA HR12.out.size 0 _ (HR12.out.alloc HR12.out.size (.cells ([.int .u8 0, .int .u8 0, .int .u8 0, .int .u8 0] : List Value).toArray 36))
      have HR13 := Lib.hid hR
      clear hR HR12
      have ht := (bk_new w12 36 ([.int .u8 0, .int .u8 0, .int .u8 0, .int .u8 0] : List Value).toArray).there FA.toArray.size (by have := HL_FA.out; simp; omega)
      go_upto_region 22 with (((with_reducible (change wpList _ _ _ _ _ _)); ((refine wpList_store_mid rfl 36 _ _ rfl w12.heap.size 0 FA.toArray rfl rfl ht (by simpa using HI_FA.out) HO_FA.out ?_))))
      have HK13 := Lib.hid (HK12.out.put 36 ([.int .u8 0, .int .u8 0, .int .u8 0, .int .u8 0] : List Value).toArray FA (by have := HL_FA.out; simp; omega))
      clear ht HK12
      generalize (w12.alloc (.cells ([.int .u8 0, .int .u8 0, .int .u8 0, .int .u8 0] : List Value).toArray 36)).setCells w12.heap.size 0 FA = w13 at *
      generalize w12.heap.size = g14 at *
      have hr0 := HK13.out.tl.hd.range
      go_wp2_with (((with_reducible (change wpList _ _ _ _ _ _)); ((refine wpList_load_mid rfl 38 _ rfl (g12) (0) rfl (PV) _ hr0 Tryd.underlying38 rfl HI_PV.out ?_))))
      clear hr0
      have HT1 := Lib.hid (T1.out _ HR13.out)
      have HT2 := Lib.hid (T2.out _ HR13.out)
      have HU := Lib.hid (U.out _ HR13.out)
      clear T1 T2 U HR13 CF
      refine (C2.out _ HT2.out (HM.out _ HK13.out.2.1)).mono ?_
      rintro e w20 ⟨rfl, ht, hg⟩
      have HK20 := Lib.hid (HK13.out.tl.grown hg (fun y hy h => HGn.out (by rw [List.mem_singleton.1 hy] at h; exact Option.some.inj h)) (fun j hj => by cases hj; exact HZ8.out))
      have HT1 := Lib.hid (HT1.out.other HT2.out HNe.out hg)
      have HU := Lib.hid (own_tb HU.out HT2.out hg)
      have HT2 := Lib.hid ht
      clear ht hg HK13 C2
      have T1 : Hid (∀ W, Below w20.heap.size w20 W → Tb W tb L) := Lib.hid (fun W hW => HT1.out.below hW)
      have T2 : Hid (∀ W, Below w20.heap.size w20 W → Tb W t2 (LD ++ [p])) := Lib.hid (fun W hW => HT2.out.below hW)
      have U : Hid (∀ W : World, Below w20.heap.size w20 W → W.ownsRow ub 38 20 (.slice (some ⟨g, o3, none⟩) L.length cu) L.length (prV L)) := Lib.hid (fun W hW => ow_below HU.out hW)
      have KX : Hid (∀ W, Below w20.heap.size w20 W → Kp w w.heap.size [(g12, 38, PV)] W) := Lib.hid (fun W hW => HK20.out.below hW (Nat.le_refl _))
      clear HT1 HT2 HU
      obtain ⟨o, ho, hsf0⟩ := slice_from g L.length cu (k + 1) (by omega) hcu
      have HSF : Hid (∀ W, (Instr.sliceAt 40 (.slice (some ⟨g, o3, none⟩) L.length cu) (some (.int .i64 (IntKind.i64.wrap ((k : Int) + 1)))) none none).run Tryd.prog W = .ok (.slice (some ⟨g, o, none⟩) (L.length - (k + 1)) (cu - (k + 1))) W) := Lib.hid (fun W => by have := hsf0 W; rw [IntKind.wrap_i64, show ((k : Int) + 1 + 9223372036854775808) % 18446744073709551616 - 9223372036854775808 = ((k + 1 : Nat) : Int) by omega, HO3.out]; exact this)
      have HST : Hid (∀ W, (Instr.sliceAt 40 (.slice (some ⟨g, o3, none⟩) L.length cu) none (some (.int .i64 (k : Int))) none).run Tryd.prog W = .ok (.slice (some ⟨g, o3, none⟩) k cu) W) := Lib.hid (fun W => by rw [HO3.out]; exact slice_to g L.length cu k (by omega) W)
      have HO := Lib.hid ho
      have HRa : Hid (∀ W, Below w20.heap.size w20 W → Rs W (.slice (some ⟨g, o3, none⟩) k cu) (L.take k)) := Lib.hid (fun W hW => by
        obtain ⟨hg1, hrg⟩ := HRr.out _ (U.out W hW)
        exact .inr ⟨_, cu, by rw [List.length_take, Nat.min_eq_left (by omega)], by rw [List.length_take]; omega, .inr ⟨g, o3, rfl, hg1, fun j v hj => hrg j v (by rw [prV_take HLk.out k (by omega)] at hj; rw [List.getElem?_take] at hj; split at hj; exact hj; cases hj)⟩⟩)
      have HRb : Hid (∀ W, Below w20.heap.size w20 W → Rs W (.slice (some ⟨g, o, none⟩) (L.length - (k + 1)) (cu - (k + 1))) (L.drop (k + 1))) := Lib.hid (fun W hW => by
        obtain ⟨hg1, hrg⟩ := HRr.out _ (U.out W hW)
        exact .inr ⟨_, cu - (k + 1), by rw [List.length_drop], by rw [List.length_drop]; omega, .inr ⟨g, o, rfl, hg1, fun j v hj => by
          rw [prV_drop HLk.out (k + 1) (by omega), List.getElem?_drop] at hj
          have hne : L.length - (k + 1) ≠ 0 := fun h0 => by
            have := (List.getElem?_eq_some_iff.1 hj).1
            rw [prV_len HLk.out] at this
            omega
          have := hrg _ v hj
          rw [HO3.out, Nat.zero_add] at this
          have e : o + j = (k + 1) * 20 + j := by rw [HO.out hne]
          rw [e]
          exact this⟩⟩)
      clear ho hsf0 HO HRr
      have HLt : Hid ((L.take k).length ≤ 16) := Lib.hid (by rw [List.length_take]; omega)
      have HLd : Hid ((L.drop (k + 1)).length ≤ 16) := Lib.hid (by rw [List.length_drop]; omega)
      have hk17 : (k : Int) < 17 := by omega
      go_upto_region 23 with (fail)
      refine wp_region_noPanic ?_
      refine wp_region_held_drew (S := fun W => Below w20.heap.size w20 W) (by kernel_rfl) ((Below.refl _ w20).drew) (fun hHeld => ?_)
      refine wpAnyH_take (i := 1) (oi := { dst := some 95, op := Op.move (Operand.tmp 8), type := 40, pos := "outright.go:86", after := #[], guard := none }) (v := ?_) rfl (by kernel_rfl) (by kernel_rfl) (by kernel_rfl) (fun _ _ _ h => h) (Or.inl ⟨by rfl, ?_⟩) (by assumption) ?_
      rotate_left
      · (intro ww hSw; (try dsimp only at hSw); go_simp; try with_reducible rfl)
      (try simp only [Act.put, List.setIfInBounds_toArray, List.set_cons_zero, List.set_cons_succ])
      refine wpAnyH_take (i := 2) (oi := { dst := some 96, op := Op.move (Operand.tmp 11), type := 3, pos := "outright.go:86", after := #[], guard := none }) (v := ?_) rfl (by kernel_rfl) (by kernel_rfl) (by kernel_rfl) (fun _ _ _ h => h) (Or.inl ⟨by rfl, ?_⟩) (by assumption) ?_
      rotate_left
      · (intro ww hSw; (try dsimp only at hSw); go_simp; try with_reducible rfl)
      (try simp only [Act.put, List.setIfInBounds_toArray, List.set_cons_zero, List.set_cons_succ])
      refine wpAnyH_take (i := 3) (oi := { dst := some 97, op := Op.slice 40 (Operand.tmp 95) none (some (Operand.tmp 96)) none, type := 40, pos := "outright.go:86", after := #[{ on := 1, ground := Ground.data }, { on := 2, ground := Ground.data }], guard := none }) (v := .slice (some ⟨g, o3, none⟩) k cu) rfl (by kernel_rfl) (by kernel_rfl) (by kernel_rfl) (fun _ _ _ h => h) (Or.inl ⟨by rfl, fun ww _ => exec_slice rfl (HST.out ww)⟩) (by assumption) ?_
      (try simp only [Act.put, List.setIfInBounds_toArray, List.set_cons_zero, List.set_cons_succ])
      refine wpAnyH_take (i := 5) (oi := { dst := some 99, op := Op.move (Operand.tmp 8), type := 40, pos := "outright.go:86", after := #[], guard := none }) (v := ?_) rfl (by kernel_rfl) (by kernel_rfl) (by kernel_rfl) (fun _ _ _ h => h) (Or.inl ⟨by rfl, ?_⟩) (by assumption) ?_
      rotate_left
      · (intro ww hSw; (try dsimp only at hSw); go_simp; try with_reducible rfl)
      (try simp only [Act.put, List.setIfInBounds_toArray, List.set_cons_zero, List.set_cons_succ])
      refine wpAnyH_take (i := 6) (oi := { dst := some 100, op := Op.move (Operand.tmp 11), type := 3, pos := "outright.go:86", after := #[], guard := none }) (v := ?_) rfl (by kernel_rfl) (by kernel_rfl) (by kernel_rfl) (fun _ _ _ h => h) (Or.inl ⟨by rfl, ?_⟩) (by assumption) ?_
      rotate_left
      · (intro ww hSw; (try dsimp only at hSw); go_simp; try with_reducible rfl)
      (try simp only [Act.put, List.setIfInBounds_toArray, List.set_cons_zero, List.set_cons_succ])
      refine wpAnyH_take (i := 7) (oi := { dst := some 101, op := Op.binOp BinOp.add 3 (Operand.tmp 100) (Operand.const (Value.int IntKind.i64 1)) 3, type := 3, pos := "outright.go:86", after := #[{ on := 6, ground := Ground.data }], guard := none }) (v := ?_) rfl (by kernel_rfl) (by kernel_rfl) (by kernel_rfl) (fun _ _ _ h => h) (Or.inl ⟨by rfl, ?_⟩) (by assumption) ?_
      rotate_left
      · (intro ww hSw; (try dsimp only at hSw); go_simp; try with_reducible rfl)
      (try simp only [Act.put, List.setIfInBounds_toArray, List.set_cons_zero, List.set_cons_succ])
      refine wpAnyH_take (i := 8) (oi := { dst := some 102, op := Op.slice 40 (Operand.tmp 99) (some (Operand.tmp 101)) none none, type := 40, pos := "outright.go:86", after := #[{ on := 5, ground := Ground.data }, { on := 7, ground := Ground.data }], guard := none }) (v := .slice (some ⟨g, o, none⟩) (L.length - (k + 1)) (cu - (k + 1))) rfl (by kernel_rfl) (by kernel_rfl) (by kernel_rfl) (fun _ _ _ h => h) (Or.inl ⟨by rfl, fun ww _ => exec_slice rfl (HSF.out ww)⟩) (by assumption) ?_
      (try simp only [Act.put, List.setIfInBounds_toArray, List.set_cons_zero, List.set_cons_succ])
      refine wpAnyH_ready (rs := [0]) (by kernel_rfl) (by simp) ?_
      refine AllReadyH.cons (o := { dst := some 94, op := Op.buildSlice 40 0 #[], type := 40, pos := "outright.go:86", after := #[], guard := none }) rfl (fun K hK => ?_) AllReadyH.nil
      rw [if_pos (by rfl)]
      refine wp_bslice rfl (by simp only [List.map_toArray]; rfl) (Tryd.bsNone _) ?_
      refine hK.out _ _ (hHeld.alloc hHeld.size _) (fun hHeld => ?_)
      clear hK K
      (try simp only [Act.put, List.setIfInBounds_toArray, List.set_cons_zero, List.set_cons_succ])
      have hO0 := own_lit w20.drew
      refine wpAnyH_ready (rs := [4]) (by kernel_rfl) (by simp) ?_
      refine AllReadyH.cons (o := { dst := some 98, op := Op.call { callee := Callee.builtin Builtin.append, args := #[Operand.tmp 94, Operand.tmp 97], argTypes := #[40, 40] }, type := 40, pos := "outright.go:86", after := #[{ on := 0, ground := Ground.data }, { on := 3, ground := Ground.data }], guard := none }) rfl (fun K hK => ?_) AllReadyH.nil
      rw [if_pos (by rfl)]
      have hRl := HRa.out _ hHeld
      have hRl2 := HRb.out _ hHeld
      obtain ⟨v1, wA, hrA, hoA, hgA, _⟩ := app_rs (w20.drew.alloc (.cells #[] 38)) w20.heap.size _ _ [] (L.take k) 40 hO0 hRl (okPs_take HLk.out _) (by have := HLt.out; simp at this ⊢; omega) hHeld.size
      rw [List.nil_append] at hoA
      refine Lib.wp_append_run _ _ _ _ _ rfl _ _ rfl rfl _ _ hrA ?_
      refine hK.out _ _ (hHeld.grown hgA hHeld.size (fun j hj => (hO0.lt j hj).1)) (fun hHeld => ?_)
      clear hK K
      (try simp only [Act.put, List.setIfInBounds_toArray, List.set_cons_zero, List.set_cons_succ])
      refine wpAnyH_ready (rs := [9]) (by kernel_rfl) (by simp) ?_
      refine AllReadyH.cons (o := { dst := some 103, op := Op.call { callee := Callee.builtin Builtin.append, args := #[Operand.tmp 98, Operand.tmp 102], argTypes := #[40, 40] }, type := 40, pos := "outright.go:86", after := #[{ on := 4, ground := Ground.data }, { on := 8, ground := Ground.data }, { on := 4, ground := Ground.chain }], guard := none }) rfl (fun K hK => ?_) AllReadyH.nil
      rw [if_pos (by rfl)]
      obtain ⟨v2, wB, hrB, hoB, hgB, _⟩ := app_rs wA w20.heap.size v1 _ (L.take k) (L.drop (k + 1)) 40 hoA (HRb.out _ hHeld) (okPs_drop HLk.out _) (by have := HLt.out; have := HLd.out; omega) hHeld.size
      refine Lib.wp_append_run _ _ _ _ _ rfl _ _ rfl rfl _ _ hrB ?_
      refine hK.out _ _ (hHeld.grown hgB hHeld.size (fun j hj => (hoA.lt j hj).1)) (fun hHeld => ?_)
      clear hK K
      (try simp only [Act.put, List.setIfInBounds_toArray, List.set_cons_zero, List.set_cons_succ])
      refine wpAnyH_take (i := 10) (oi := { dst := some 17, op := Op.assign (Operand.tmp 103), type := 40, pos := "outright.go:86", after := #[{ on := 9, ground := Ground.data }, { on := 9, ground := Ground.chain }, { on := 0, ground := Ground.phase }, { on := 1, ground := Ground.phase }, { on := 2, ground := Ground.phase }, { on := 3, ground := Ground.phase }, { on := 4, ground := Ground.phase }, { on := 5, ground := Ground.phase }, { on := 6, ground := Ground.phase }, { on := 7, ground := Ground.phase }, { on := 8, ground := Ground.phase }, { on := 9, ground := Ground.phase }], guard := none }) (v := ?_) rfl (by kernel_rfl) (by kernel_rfl) (by kernel_rfl) (fun _ _ _ h => h) (Or.inl ⟨by rfl, ?_⟩) (by assumption) ?_
      rotate_left
      · (intro ww hSw; (try dsimp only at hSw); go_simp; try with_reducible rfl)
      (try simp only [Act.put, List.setIfInBounds_toArray, List.set_cons_zero, List.set_cons_succ])
      refine wpAnyH_done (by kernel_rfl) ?_ _
      refine NoPanic.normal ?_
      have HB21 := Lib.hid hHeld
      rw [HCut.out] at hoB
      have hoV := ow_below hoB (Below.refl _ wB).drew
      have hoV0 := hoV
      clear hHeld hoB hgB hoA hgA hO0
      go_upto_region 24 with (fail)
      refine wp_region_noPanic ?_
      refine wp_region_held_drew (S := fun W => Below w20.heap.size w20 W) (by kernel_rfl) (HB21.out.drew) (fun hHeld => ?_)
      refine wpAnyH_take (i := 0) (oi := { dst := some 104, op := Op.move (Operand.tmp 13), type := 32, pos := "outright.go:87", after := #[], guard := none }) (v := ?_) rfl (by kernel_rfl) (by kernel_rfl) (by kernel_rfl) (fun _ _ _ h => h) (Or.inl ⟨by rfl, ?_⟩) (by assumption) ?_
      rotate_left
      · (intro ww hSw; (try dsimp only at hSw); go_simp; try with_reducible rfl)
      (try simp only [Act.put, List.setIfInBounds_toArray, List.set_cons_zero, List.set_cons_succ])
      refine wpAnyH_take (i := 1) (oi := { dst := some 105, op := Op.binOp BinOp.eql 32 (Operand.tmp 104) (Operand.const (Value.int IntKind.i64 0)) 32, type := 4, pos := "outright.go:87", after := #[{ on := 0, ground := Ground.data }], guard := none }) (v := ?_) rfl (by kernel_rfl) (by kernel_rfl) (by kernel_rfl) (fun _ _ _ h => h) (Or.inl ⟨by rfl, ?_⟩) (by assumption) ?_
      rotate_left
      · (intro ww hSw; (try dsimp only at hSw); go_simp; try with_reducible rfl)
      (try simp only [Act.put, List.setIfInBounds_toArray, List.set_cons_zero, List.set_cons_succ])
      refine wpAnyH_take (i := 2) (oi := { dst := some 106, op := Op.move (Operand.tmp 105), type := 4, pos := "outright.go:87", after := #[{ on := 1, ground := Ground.data }], guard := none }) (v := ?_) rfl (by kernel_rfl) (by kernel_rfl) (by kernel_rfl) (fun _ _ _ h => h) (Or.inl ⟨by rfl, ?_⟩) (by assumption) ?_
      rotate_left
      · (intro ww hSw; (try dsimp only at hSw); go_simp; try with_reducible rfl)
      (try simp only [Act.put, List.setIfInBounds_toArray, List.set_cons_zero, List.set_cons_succ])
      refine wpAnyH_take (i := 3) (oi := { dst := some 107, op := Op.move (Operand.tmp 15), type := 4, pos := "outright.go:87", after := #[{ on := 2, ground := Ground.guard }], guard := some (2, true) }) (v := ?_) rfl (by kernel_rfl) (by kernel_rfl) (by kernel_rfl) (fun _ _ _ h => h) (Or.inl ⟨by rfl, ?_⟩) (by assumption) ?_
      rotate_left
      · (intro ww hSw; (try dsimp only at hSw); go_simp; try with_reducible rfl)
      (try simp only [Act.put, List.setIfInBounds_toArray, List.set_cons_zero, List.set_cons_succ])
      refine wpAnyH_take (i := 4) (oi := { dst := some 108, op := Op.unOp UnOp.not 4 (Operand.tmp 107), type := 4, pos := "outright.go:87", after := #[{ on := 3, ground := Ground.data }, { on := 2, ground := Ground.guard }], guard := some (2, true) }) (v := ?_) rfl (by kernel_rfl) (by kernel_rfl) (by kernel_rfl) (fun _ _ _ h => h) (Or.inl ⟨by rfl, ?_⟩) (by assumption) ?_
      rotate_left
      · (intro ww hSw; (try dsimp only at hSw); go_simp; try with_reducible rfl)
      (try simp only [Act.put, List.setIfInBounds_toArray, List.set_cons_zero, List.set_cons_succ])
      refine wpAnyH_take (i := 5) (oi := { dst := some 109, op := Op.pick (Operand.tmp 106) (Operand.tmp 108) (Operand.const (Value.bool false)), type := 4, pos := "outright.go:87", after := #[{ on := 2, ground := Ground.data }, { on := 4, ground := Ground.data }], guard := none }) (v := ?_) rfl (by kernel_rfl) (by kernel_rfl) (by kernel_rfl) (fun _ _ _ h => h) (Or.inl ⟨by rfl, ?_⟩) (by assumption) ?_
      rotate_left
      · (intro ww hSw; (try dsimp only at hSw); go_simp; try with_reducible rfl)
      (try simp only [Act.put, List.setIfInBounds_toArray, List.set_cons_zero, List.set_cons_succ])
      refine wpAnyH_take (i := 6) (oi := { dst := some 110, op := Op.move (Operand.tmp 109), type := 4, pos := "outright.go:87", after := #[{ on := 5, ground := Ground.data }, { on := 2, ground := Ground.chain }], guard := none }) (v := ?_) rfl (by kernel_rfl) (by kernel_rfl) (by kernel_rfl) (fun _ _ _ h => h) (Or.inl ⟨by rfl, ?_⟩) (by assumption) ?_
      rotate_left
      · (intro ww hSw; (try dsimp only at hSw); go_simp; try with_reducible rfl)
      (try simp only [Act.put, List.setIfInBounds_toArray, List.set_cons_zero, List.set_cons_succ])
      refine wpAnyH_take (i := 7) (oi := { dst := some 111, op := Op.move (Operand.tmp 16), type := 32, pos := "outright.go:87", after := #[{ on := 6, ground := Ground.guard }], guard := some (6, true) }) (v := ?_) rfl (by kernel_rfl) (by kernel_rfl) (by kernel_rfl) (fun _ _ _ h => h) (Or.inl ⟨by rfl, ?_⟩) (by assumption) ?_
      rotate_left
      · (intro ww hSw; (try dsimp only at hSw); go_simp; try with_reducible rfl)
      (try simp only [Act.put, List.setIfInBounds_toArray, List.set_cons_zero, List.set_cons_succ])
      refine wpAnyH_take (i := 8) (oi := { dst := some 112, op := Op.binOp BinOp.eql 32 (Operand.tmp 111) (Operand.const (Value.int IntKind.i64 0)) 32, type := 4, pos := "outright.go:87", after := #[{ on := 7, ground := Ground.data }, { on := 6, ground := Ground.guard }], guard := some (6, true) }) (v := ?_) rfl (by kernel_rfl) (by kernel_rfl) (by kernel_rfl) (fun _ _ _ h => h) (Or.inl ⟨by rfl, ?_⟩) (by assumption) ?_
      rotate_left
      · (intro ww hSw; (try dsimp only at hSw); go_simp; try with_reducible rfl)
      (try simp only [Act.put, List.setIfInBounds_toArray, List.set_cons_zero, List.set_cons_succ])
      refine wpAnyH_take (i := 9) (oi := { dst := some 113, op := Op.pick (Operand.tmp 110) (Operand.tmp 112) (Operand.const (Value.bool false)), type := 4, pos := "outright.go:87", after := #[{ on := 6, ground := Ground.data }, { on := 8, ground := Ground.data }], guard := none }) (v := ?_) rfl (by kernel_rfl) (by kernel_rfl) (by kernel_rfl) (fun _ _ _ h => h) (Or.inl ⟨by rfl, ?_⟩) (by assumption) ?_
      rotate_left
      · (intro ww hSw; (try dsimp only at hSw); go_simp; try with_reducible rfl)
      (try simp only [Act.put, List.setIfInBounds_toArray, List.set_cons_zero, List.set_cons_succ])
      refine wpAnyH_take (i := 10) (oi := { dst := some 114, op := Op.move (Operand.tmp 113), type := 4, pos := "outright.go:87", after := #[{ on := 9, ground := Ground.data }, { on := 6, ground := Ground.chain }], guard := none }) (v := ?_) rfl (by kernel_rfl) (by kernel_rfl) (by kernel_rfl) (fun _ _ _ h => h) (Or.inl ⟨by rfl, ?_⟩) (by assumption) ?_
      rotate_left
      · (intro ww hSw; (try dsimp only at hSw); go_simp; try with_reducible rfl)
      (try simp only [Act.put, List.setIfInBounds_toArray, List.set_cons_zero, List.set_cons_succ])
      refine wpAnyH_take (i := 11) (oi := { dst := some 115, op := Op.move (Operand.tmp 9), type := 31, pos := "outright.go:87", after := #[{ on := 10, ground := Ground.guard }], guard := some (10, true) }) (v := ?_) rfl (by kernel_rfl) (by kernel_rfl) (by kernel_rfl) (fun _ _ _ h => h) (Or.inl ⟨by rfl, ?_⟩) (by assumption) ?_
      rotate_left
      · (intro ww hSw; (try dsimp only at hSw); go_simp; try with_reducible rfl)
      (try simp only [Act.put, List.setIfInBounds_toArray, List.set_cons_zero, List.set_cons_succ])
      refine wpAnyH_take (i := 13) (oi := { dst := some 117, op := Op.move (Operand.tmp 17), type := 40, pos := "outright.go:87", after := #[{ on := 10, ground := Ground.guard }], guard := some (10, true) }) (v := ?_) rfl (by kernel_rfl) (by kernel_rfl) (by kernel_rfl) (fun _ _ _ h => h) (Or.inl ⟨by rfl, ?_⟩) (by assumption) ?_
      rotate_left
      · (intro ww hSw; (try dsimp only at hSw); go_simp; try with_reducible rfl)
      (try simp only [Act.put, List.setIfInBounds_toArray, List.set_cons_zero, List.set_cons_succ])
      refine wpAnyH_take (i := 14) (oi := { dst := some 118, op := Op.load 38 (Operand.tmp 12), type := 38, pos := "outright.go:87", after := #[{ on := 10, ground := Ground.guard }], guard := some (10, true) }) (v := .agg (PV).toArray) rfl (by kernel_rfl) (by kernel_rfl) (by kernel_rfl) (fun _ _ _ h => h) (yieldsIf_load_mid (by rfl) _ _ rfl (g12) 0 rfl (PV) _ (fun ww hSw => (KX.out _ hSw).hd.range) Tryd.underlying38 rfl HI_PV.out) (by assumption) ?_
      (try simp only [Act.put, List.setIfInBounds_toArray, List.set_cons_zero, List.set_cons_succ])
      refine wpAnyH_ready (rs := [12, 15]) (by kernel_rfl) (by simp) ?_
      refine AllReadyH.cons (o := { dst := some 116, op := Op.call { callee := Callee.value (Operand.func 20), args := #[Operand.tmp 115], argTypes := #[31] }, type := 40, pos := "outright.go:87", after := #[{ on := 11, ground := Ground.data }, { on := 10, ground := Ground.chain }, { on := 10, ground := Ground.guard }], guard := some (10, true) }) rfl (fun K hK => ?_) (AllReadyH.cons (o := { dst := some 119, op := Op.buildSlice 40 1 #[(0, Operand.tmp 118)], type := 40, pos := "outright.go:87", after := #[{ on := 14, ground := Ground.data }, { on := 10, ground := Ground.guard }], guard := some (10, true) }) rfl (fun K hK => ?_) AllReadyH.nil)
      · go_simp
        ((with_reducible refine (all_any t2 (LD ++ [p]) _ (T2.out _ hHeld)).mono ?_); rintro e wC ⟨u1, rfl, hu1, hb1⟩)
        refine hK.out _ _ (hHeld.trans (hb1.mono hHeld.size)) (fun hHeld => ?_)
        clear hK K
        (try simp only [Act.put, List.setIfInBounds_toArray, List.set_cons_zero, List.set_cons_succ])
        have hoV := ow_below hoV hb1
        refine wpAnyH_ready (rs := [15]) (by kernel_rfl) (by simp) ?_
        refine AllReadyH.cons (o := { dst := some 119, op := Op.buildSlice 40 1 #[(0, Operand.tmp 118)], type := 40, pos := "outright.go:87", after := #[{ on := 14, ground := Ground.data }, { on := 10, ground := Ground.guard }], guard := some (10, true) }) rfl (fun K hK => ?_) AllReadyH.nil
        rw [if_pos (by rfl)]
        refine wp_bslice rfl (by simp only [List.map_toArray]; rfl) (HBS.out _) ?_
        refine hK.out _ _ (hHeld.alloc hHeld.size _) (fun hHeld => ?_)
        clear hK K
        (try simp only [Act.put, List.setIfInBounds_toArray, List.set_cons_zero, List.set_cons_succ])
        have hB1 := bk_new wC 38 PV.toArray
        have hoV := ow_below hoV ((Below.refl _ wC).alloc (Nat.le_refl _) (.cells PV.toArray 38))
        have hu1 := ow_below hu1 ((Below.refl _ wC).alloc (Nat.le_refl _) (.cells PV.toArray 38))
        refine wpAnyH_ready (rs := [16]) (by kernel_rfl) (by simp) ?_
        refine AllReadyH.cons (o := { dst := some 120, op := Op.call { callee := Callee.builtin Builtin.append, args := #[Operand.tmp 117, Operand.tmp 119], argTypes := #[40, 40] }, type := 40, pos := "outright.go:87", after := #[{ on := 13, ground := Ground.data }, { on := 15, ground := Ground.data }, { on := 12, ground := Ground.chain }, { on := 10, ground := Ground.guard }], guard := some (10, true) }) rfl (fun K hK => ?_) AllReadyH.nil
        rw [if_pos (by rfl)]
        obtain ⟨v3, wD, hrD, hoD, hgD, _⟩ := app_rs (wC.alloc (.cells PV.toArray 38)) w20.heap.size v2 _ LD [p] 40 hoV (.inr ⟨_, 1, rfl, Nat.le_refl _, .inr ⟨_, 0, rfl, hB1.lt, by rw [prV_one, HPV.out]; exact hB1.range⟩⟩) (okPs_one HPo.out) (by simp; omega) hHeld.size
        refine Lib.wp_append_run _ _ _ _ _ rfl _ _ rfl rfl _ _ hrD ?_
        refine hK.out _ _ (hHeld.grown hgD hHeld.size (fun j hj => (hoV.lt j hj).1)) (fun hHeld => ?_)
        clear hK K
        (try simp only [Act.put, List.setIfInBounds_toArray, List.set_cons_zero, List.set_cons_succ])
        have hu1 := own_past hu1 hgD (fun j hj => Nat.lt_of_lt_of_le (hoV0.lt j hj).2 (by simp))
        refine wpAnyH_ready (rs := [17]) (by kernel_rfl) (by simp) ?_
        refine AllReadyH.cons (o := { dst := some 121, op := Op.call { callee := Callee.value (Operand.func 28), args := #[Operand.tmp 116, Operand.tmp 120], argTypes := #[40, 40] }, type := 4, pos := "outright.go:87", after := #[{ on := 12, ground := Ground.data }, { on := 16, ground := Ground.data }, { on := 16, ground := Ground.chain }, { on := 10, ground := Ground.guard }], guard := some (10, true) }) rfl (fun K hK => ?_) AllReadyH.nil
        go_simp
        ((with_reducible refine (same_self u1 v3 (LD ++ [p]) _ (own_rs hu1) (own_rs hoD) (okPs_snoc HND.out.ok HPo.out) (by simp; omega)).mono ?_); rintro e wE ⟨rfl, hb2⟩)
        refine hK.out _ _ (hHeld.trans (hb2.mono hHeld.size)) (fun hHeld => ?_)
        clear hK K
        (try simp only [Act.put, List.setIfInBounds_toArray, List.set_cons_zero, List.set_cons_succ])
        refine wpAnyH_take (i := 18) (oi := { dst := some 122, op := Op.pick (Operand.tmp 114) (Operand.tmp 121) (Operand.const (Value.bool false)), type := 4, pos := "outright.go:87", after := #[{ on := 10, ground := Ground.data }, { on := 17, ground := Ground.data }], guard := none }) (v := ?_) rfl (by kernel_rfl) (by kernel_rfl) (by kernel_rfl) (fun _ _ _ h => h) (Or.inl ⟨by rfl, ?_⟩) (by assumption) ?_
        rotate_left
        · (intro ww hSw; (try dsimp only at hSw); go_simp; try with_reducible rfl)
        (try simp only [Act.put, List.setIfInBounds_toArray, List.set_cons_zero, List.set_cons_succ])
        refine wpAnyH_take (i := 19) (oi := { dst := some 123, op := Op.move (Operand.tmp 122), type := 4, pos := "outright.go:87", after := #[{ on := 18, ground := Ground.data }, { on := 17, ground := Ground.chain }], guard := none }) (v := ?_) rfl (by kernel_rfl) (by kernel_rfl) (by kernel_rfl) (fun _ _ _ h => h) (Or.inl ⟨by rfl, ?_⟩) (by assumption) ?_
        rotate_left
        · (intro ww hSw; (try dsimp only at hSw); go_simp; try with_reducible rfl)
        (try simp only [Act.put, List.setIfInBounds_toArray, List.set_cons_zero, List.set_cons_succ])
        refine wpAnyH_take (i := 20) (oi := { dst := some 124, op := Op.move (Operand.tmp 5), type := 31, pos := "outright.go:87", after := #[{ on := 19, ground := Ground.guard }], guard := some (19, true) }) (v := ?_) rfl (by kernel_rfl) (by kernel_rfl) (by kernel_rfl) (fun _ _ _ h => h) (Or.inl ⟨by rfl, ?_⟩) (by assumption) ?_
        rotate_left
        · (intro ww hSw; (try dsimp only at hSw); go_simp; try with_reducible rfl)
        (try simp only [Act.put, List.setIfInBounds_toArray, List.set_cons_zero, List.set_cons_succ])
        refine wpAnyH_take (i := 22) (oi := { dst := some 126, op := Op.move (Operand.tmp 8), type := 40, pos := "outright.go:87", after := #[{ on := 19, ground := Ground.guard }], guard := some (19, true) }) (v := ?_) rfl (by kernel_rfl) (by kernel_rfl) (by kernel_rfl) (fun _ _ _ h => h) (Or.inl ⟨by rfl, ?_⟩) (by assumption) ?_
        rotate_left
        · (intro ww hSw; (try dsimp only at hSw); go_simp; try with_reducible rfl)
        (try simp only [Act.put, List.setIfInBounds_toArray, List.set_cons_zero, List.set_cons_succ])
        refine wpAnyH_ready (rs := [21]) (by kernel_rfl) (by simp) ?_
        refine AllReadyH.cons (o := { dst := some 125, op := Op.call { callee := Callee.value (Operand.func 20), args := #[Operand.tmp 124], argTypes := #[31] }, type := 40, pos := "outright.go:87", after := #[{ on := 20, ground := Ground.data }, { on := 19, ground := Ground.chain }, { on := 19, ground := Ground.guard }], guard := some (19, true) }) rfl (fun K hK => ?_) AllReadyH.nil
        go_simp
        ((with_reducible refine (all_any tb L _ (T1.out _ hHeld)).mono ?_); rintro e wF ⟨u2, rfl, hu2, hb3⟩)
        refine hK.out _ _ (hHeld.trans (hb3.mono hHeld.size)) (fun hHeld => ?_)
        clear hK K
        (try simp only [Act.put, List.setIfInBounds_toArray, List.set_cons_zero, List.set_cons_succ])
        refine wpAnyH_ready (rs := [23]) (by kernel_rfl) (by simp) ?_
        refine AllReadyH.cons (o := { dst := some 127, op := Op.call { callee := Callee.value (Operand.func 28), args := #[Operand.tmp 125, Operand.tmp 126], argTypes := #[40, 40] }, type := 4, pos := "outright.go:87", after := #[{ on := 21, ground := Ground.data }, { on := 22, ground := Ground.data }, { on := 21, ground := Ground.chain }, { on := 19, ground := Ground.guard }], guard := some (19, true) }) rfl (fun K hK => ?_) AllReadyH.nil
        go_simp
        ((with_reducible refine (same_self u2 (.slice (some ⟨g, o3, none⟩) L.length cu) L _ (own_rs hu2) (own_rs (U.out _ hHeld)) HLk.out (by omega)).mono ?_); rintro e wG ⟨rfl, hb4⟩)
        refine hK.out _ _ (hHeld.trans (hb4.mono hHeld.size)) (fun hHeld => ?_)
        clear hK K
        (try simp only [Act.put, List.setIfInBounds_toArray, List.set_cons_zero, List.set_cons_succ])
        refine wpAnyH_take (i := 24) (oi := { dst := some 128, op := Op.pick (Operand.tmp 123) (Operand.tmp 127) (Operand.const (Value.bool false)), type := 4, pos := "outright.go:87", after := #[{ on := 19, ground := Ground.data }, { on := 23, ground := Ground.data }], guard := none }) (v := ?_) rfl (by kernel_rfl) (by kernel_rfl) (by kernel_rfl) (fun _ _ _ h => h) (Or.inl ⟨by rfl, ?_⟩) (by assumption) ?_
        rotate_left
        · (intro ww hSw; (try dsimp only at hSw); go_simp; try with_reducible rfl)
        (try simp only [Act.put, List.setIfInBounds_toArray, List.set_cons_zero, List.set_cons_succ])
        refine wpAnyH_take (i := 25) (oi := { dst := some 4, op := Op.assign (Operand.tmp 128), type := 4, pos := "outright.go:87", after := #[{ on := 24, ground := Ground.data }, { on := 23, ground := Ground.chain }, { on := 0, ground := Ground.phase }, { on := 1, ground := Ground.phase }, { on := 2, ground := Ground.phase }, { on := 3, ground := Ground.phase }, { on := 4, ground := Ground.phase }, { on := 5, ground := Ground.phase }, { on := 6, ground := Ground.phase }, { on := 7, ground := Ground.phase }, { on := 8, ground := Ground.phase }, { on := 9, ground := Ground.phase }, { on := 10, ground := Ground.phase }, { on := 11, ground := Ground.phase }, { on := 12, ground := Ground.phase }, { on := 13, ground := Ground.phase }, { on := 14, ground := Ground.phase }, { on := 15, ground := Ground.phase }, { on := 16, ground := Ground.phase }, { on := 17, ground := Ground.phase }, { on := 18, ground := Ground.phase }, { on := 19, ground := Ground.phase }, { on := 20, ground := Ground.phase }, { on := 21, ground := Ground.phase }, { on := 22, ground := Ground.phase }, { on := 23, ground := Ground.phase }, { on := 24, ground := Ground.phase }], guard := none }) (v := ?_) rfl (by kernel_rfl) (by kernel_rfl) (by kernel_rfl) (fun _ _ _ h => h) (Or.inl ⟨by rfl, ?_⟩) (by assumption) ?_
        rotate_left
        · (intro ww hSw; (try dsimp only at hSw); go_simp; try with_reducible rfl)
        (try simp only [Act.put, List.setIfInBounds_toArray, List.set_cons_zero, List.set_cons_succ])
        refine wpAnyH_done (by kernel_rfl) ?_ _
        refine NoPanic.normal ?_
        have HEnd := Lib.hid (HK20.out.2.1.trans (hHeld.mono HK20.out.2.2))
        clear hHeld
        go_wp2_with fail
        go_ret
        exact ⟨rfl, HEnd.out⟩
      · rw [if_pos (by rfl)]
        refine wp_bslice rfl (by simp only [List.map_toArray]; rfl) (HBS.out _) ?_
        refine hK.out _ _ (hHeld.alloc hHeld.size _) (fun hHeld => ?_)
        clear hK K
        (try simp only [Act.put, List.setIfInBounds_toArray, List.set_cons_zero, List.set_cons_succ])
        have hB1 := bk_new wB.drew 38 PV.toArray
        have hoV := ow_below hoV ((Below.refl _ wB.drew).alloc (Nat.le_refl _) (.cells PV.toArray 38))
        have hs0 : wB.drew.heap.size ≤ (wB.drew.alloc (.cells PV.toArray 38)).heap.size := by simp
        generalize wB.drew.alloc (.cells PV.toArray 38) = wZ at *
        refine wpAnyH_ready (rs := [12]) (by kernel_rfl) (by simp) ?_
        refine AllReadyH.cons (o := { dst := some 116, op := Op.call { callee := Callee.value (Operand.func 20), args := #[Operand.tmp 115], argTypes := #[31] }, type := 40, pos := "outright.go:87", after := #[{ on := 11, ground := Ground.data }, { on := 10, ground := Ground.chain }, { on := 10, ground := Ground.guard }], guard := some (10, true) }) rfl (fun K hK => ?_) AllReadyH.nil
        go_simp
        ((with_reducible refine (all_any t2 (LD ++ [p]) _ (T2.out _ hHeld)).mono ?_); rintro e wC ⟨u1, rfl, hu1, hb1⟩)
        refine hK.out _ _ (hHeld.trans (hb1.mono hHeld.size)) (fun hHeld => ?_)
        clear hK K
        (try simp only [Act.put, List.setIfInBounds_toArray, List.set_cons_zero, List.set_cons_succ])
        have hoV := ow_below hoV hb1
        have hB1 := hB1.below hb1 hB1.lt
        refine wpAnyH_ready (rs := [16]) (by kernel_rfl) (by simp) ?_
        refine AllReadyH.cons (o := { dst := some 120, op := Op.call { callee := Callee.builtin Builtin.append, args := #[Operand.tmp 117, Operand.tmp 119], argTypes := #[40, 40] }, type := 40, pos := "outright.go:87", after := #[{ on := 13, ground := Ground.data }, { on := 15, ground := Ground.data }, { on := 12, ground := Ground.chain }, { on := 10, ground := Ground.guard }], guard := some (10, true) }) rfl (fun K hK => ?_) AllReadyH.nil
        rw [if_pos (by rfl)]
        obtain ⟨v3, wD, hrD, hoD, hgD, _⟩ := app_rs (wC) w20.heap.size v2 _ LD [p] 40 hoV (.inr ⟨_, 1, rfl, Nat.le_refl _, .inr ⟨_, 0, rfl, hB1.lt, by rw [prV_one, HPV.out]; exact hB1.range⟩⟩) (okPs_one HPo.out) (by simp; omega) hHeld.size
        refine Lib.wp_append_run _ _ _ _ _ rfl _ _ rfl rfl _ _ hrD ?_
        refine hK.out _ _ (hHeld.grown hgD hHeld.size (fun j hj => (hoV.lt j hj).1)) (fun hHeld => ?_)
        clear hK K
        (try simp only [Act.put, List.setIfInBounds_toArray, List.set_cons_zero, List.set_cons_succ])
        have hu1 := own_past hu1 hgD (fun j hj => Nat.lt_of_lt_of_le (hoV0.lt j hj).2 hs0)
        refine wpAnyH_ready (rs := [17]) (by kernel_rfl) (by simp) ?_
        refine AllReadyH.cons (o := { dst := some 121, op := Op.call { callee := Callee.value (Operand.func 28), args := #[Operand.tmp 116, Operand.tmp 120], argTypes := #[40, 40] }, type := 4, pos := "outright.go:87", after := #[{ on := 12, ground := Ground.data }, { on := 16, ground := Ground.data }, { on := 16, ground := Ground.chain }, { on := 10, ground := Ground.guard }], guard := some (10, true) }) rfl (fun K hK => ?_) AllReadyH.nil
        go_simp
        ((with_reducible refine (same_self u1 v3 (LD ++ [p]) _ (own_rs hu1) (own_rs hoD) (okPs_snoc HND.out.ok HPo.out) (by simp; omega)).mono ?_); rintro e wE ⟨rfl, hb2⟩)
        refine hK.out _ _ (hHeld.trans (hb2.mono hHeld.size)) (fun hHeld => ?_)
        clear hK K
        (try simp only [Act.put, List.setIfInBounds_toArray, List.set_cons_zero, List.set_cons_succ])
        refine wpAnyH_take (i := 18) (oi := { dst := some 122, op := Op.pick (Operand.tmp 114) (Operand.tmp 121) (Operand.const (Value.bool false)), type := 4, pos := "outright.go:87", after := #[{ on := 10, ground := Ground.data }, { on := 17, ground := Ground.data }], guard := none }) (v := ?_) rfl (by kernel_rfl) (by kernel_rfl) (by kernel_rfl) (fun _ _ _ h => h) (Or.inl ⟨by rfl, ?_⟩) (by assumption) ?_
        rotate_left
        · (intro ww hSw; (try dsimp only at hSw); go_simp; try with_reducible rfl)
        (try simp only [Act.put, List.setIfInBounds_toArray, List.set_cons_zero, List.set_cons_succ])
        refine wpAnyH_take (i := 19) (oi := { dst := some 123, op := Op.move (Operand.tmp 122), type := 4, pos := "outright.go:87", after := #[{ on := 18, ground := Ground.data }, { on := 17, ground := Ground.chain }], guard := none }) (v := ?_) rfl (by kernel_rfl) (by kernel_rfl) (by kernel_rfl) (fun _ _ _ h => h) (Or.inl ⟨by rfl, ?_⟩) (by assumption) ?_
        rotate_left
        · (intro ww hSw; (try dsimp only at hSw); go_simp; try with_reducible rfl)
        (try simp only [Act.put, List.setIfInBounds_toArray, List.set_cons_zero, List.set_cons_succ])
        refine wpAnyH_take (i := 20) (oi := { dst := some 124, op := Op.move (Operand.tmp 5), type := 31, pos := "outright.go:87", after := #[{ on := 19, ground := Ground.guard }], guard := some (19, true) }) (v := ?_) rfl (by kernel_rfl) (by kernel_rfl) (by kernel_rfl) (fun _ _ _ h => h) (Or.inl ⟨by rfl, ?_⟩) (by assumption) ?_
        rotate_left
        · (intro ww hSw; (try dsimp only at hSw); go_simp; try with_reducible rfl)
        (try simp only [Act.put, List.setIfInBounds_toArray, List.set_cons_zero, List.set_cons_succ])
        refine wpAnyH_take (i := 22) (oi := { dst := some 126, op := Op.move (Operand.tmp 8), type := 40, pos := "outright.go:87", after := #[{ on := 19, ground := Ground.guard }], guard := some (19, true) }) (v := ?_) rfl (by kernel_rfl) (by kernel_rfl) (by kernel_rfl) (fun _ _ _ h => h) (Or.inl ⟨by rfl, ?_⟩) (by assumption) ?_
        rotate_left
        · (intro ww hSw; (try dsimp only at hSw); go_simp; try with_reducible rfl)
        (try simp only [Act.put, List.setIfInBounds_toArray, List.set_cons_zero, List.set_cons_succ])
        refine wpAnyH_ready (rs := [21]) (by kernel_rfl) (by simp) ?_
        refine AllReadyH.cons (o := { dst := some 125, op := Op.call { callee := Callee.value (Operand.func 20), args := #[Operand.tmp 124], argTypes := #[31] }, type := 40, pos := "outright.go:87", after := #[{ on := 20, ground := Ground.data }, { on := 19, ground := Ground.chain }, { on := 19, ground := Ground.guard }], guard := some (19, true) }) rfl (fun K hK => ?_) AllReadyH.nil
        go_simp
        ((with_reducible refine (all_any tb L _ (T1.out _ hHeld)).mono ?_); rintro e wF ⟨u2, rfl, hu2, hb3⟩)
        refine hK.out _ _ (hHeld.trans (hb3.mono hHeld.size)) (fun hHeld => ?_)
        clear hK K
        (try simp only [Act.put, List.setIfInBounds_toArray, List.set_cons_zero, List.set_cons_succ])
        refine wpAnyH_ready (rs := [23]) (by kernel_rfl) (by simp) ?_
        refine AllReadyH.cons (o := { dst := some 127, op := Op.call { callee := Callee.value (Operand.func 28), args := #[Operand.tmp 125, Operand.tmp 126], argTypes := #[40, 40] }, type := 4, pos := "outright.go:87", after := #[{ on := 21, ground := Ground.data }, { on := 22, ground := Ground.data }, { on := 21, ground := Ground.chain }, { on := 19, ground := Ground.guard }], guard := some (19, true) }) rfl (fun K hK => ?_) AllReadyH.nil
        go_simp
        ((with_reducible refine (same_self u2 (.slice (some ⟨g, o3, none⟩) L.length cu) L _ (own_rs hu2) (own_rs (U.out _ hHeld)) HLk.out (by omega)).mono ?_); rintro e wG ⟨rfl, hb4⟩)
        refine hK.out _ _ (hHeld.trans (hb4.mono hHeld.size)) (fun hHeld => ?_)
        clear hK K
        (try simp only [Act.put, List.setIfInBounds_toArray, List.set_cons_zero, List.set_cons_succ])
        refine wpAnyH_take (i := 24) (oi := { dst := some 128, op := Op.pick (Operand.tmp 123) (Operand.tmp 127) (Operand.const (Value.bool false)), type := 4, pos := "outright.go:87", after := #[{ on := 19, ground := Ground.data }, { on := 23, ground := Ground.data }], guard := none }) (v := ?_) rfl (by kernel_rfl) (by kernel_rfl) (by kernel_rfl) (fun _ _ _ h => h) (Or.inl ⟨by rfl, ?_⟩) (by assumption) ?_
        rotate_left
        · (intro ww hSw; (try dsimp only at hSw); go_simp; try with_reducible rfl)
        (try simp only [Act.put, List.setIfInBounds_toArray, List.set_cons_zero, List.set_cons_succ])
        refine wpAnyH_take (i := 25) (oi := { dst := some 4, op := Op.assign (Operand.tmp 128), type := 4, pos := "outright.go:87", after := #[{ on := 24, ground := Ground.data }, { on := 23, ground := Ground.chain }, { on := 0, ground := Ground.phase }, { on := 1, ground := Ground.phase }, { on := 2, ground := Ground.phase }, { on := 3, ground := Ground.phase }, { on := 4, ground := Ground.phase }, { on := 5, ground := Ground.phase }, { on := 6, ground := Ground.phase }, { on := 7, ground := Ground.phase }, { on := 8, ground := Ground.phase }, { on := 9, ground := Ground.phase }, { on := 10, ground := Ground.phase }, { on := 11, ground := Ground.phase }, { on := 12, ground := Ground.phase }, { on := 13, ground := Ground.phase }, { on := 14, ground := Ground.phase }, { on := 15, ground := Ground.phase }, { on := 16, ground := Ground.phase }, { on := 17, ground := Ground.phase }, { on := 18, ground := Ground.phase }, { on := 19, ground := Ground.phase }, { on := 20, ground := Ground.phase }, { on := 21, ground := Ground.phase }, { on := 22, ground := Ground.phase }, { on := 23, ground := Ground.phase }, { on := 24, ground := Ground.phase }], guard := none }) (v := ?_) rfl (by kernel_rfl) (by kernel_rfl) (by kernel_rfl) (fun _ _ _ h => h) (Or.inl ⟨by rfl, ?_⟩) (by assumption) ?_
        rotate_left
        · (intro ww hSw; (try dsimp only at hSw); go_simp; try with_reducible rfl)
        (try simp only [Act.put, List.setIfInBounds_toArray, List.set_cons_zero, List.set_cons_succ])
        refine wpAnyH_done (by kernel_rfl) ?_ _
        refine NoPanic.normal ?_
        have HEnd := Lib.hid (HK20.out.2.1.trans (hHeld.mono HK20.out.2.2))
        clear hHeld
        go_wp2_with fail
        go_ret
        exact ⟨rfl, HEnd.out⟩
end Go.Proofs.YtchdagdmbjpmcaaDoor
