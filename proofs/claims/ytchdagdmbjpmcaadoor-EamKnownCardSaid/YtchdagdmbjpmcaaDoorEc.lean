/-
  Proved here: what the program's All and New answer and leave.
  Conditions: a table that stands for pairs; a slice that reads as at most a thousand pairs.
  Proved here: what the program's calls answer of a nil table.
  Conditions: addresses of their lengths.
  Proved here: what the document's Four and Six answer.
  Conditions: a slice that reads as at most a thousand pairs; an address of its length.
  Proved here: what the document's Add answers.
  Conditions: a list of one's own of at most 16 pairs; a pair of addresses of their lengths.
  Proved here: what the document's Drop and New answer.
  Conditions: a list of one's own of at most 16 pairs; an address of 4 bytes; a slice that reads as at most a thousand pairs.
  Proved here: what the laws' one and same answer.
  Conditions: slices that read as at most a thousand pairs.
  Proved here: what the laws' awake answers.
  Conditions: the program's lists of martian addresses stand.
-/
import Derived.Test.YtchdagdmbjpmcaaDoorEb
namespace Go.Proofs.YtchdagdmbjpmcaaDoor
open Go.RowKit

set_option maxRecDepth 100000 in
set_option maxHeartbeats 8000000 in
theorem all_any (b : Nat) (l : Kv) (w : World) (hT : Tb w b l) :
    Calls Tryd.prog 20 #[.pointer (some ⟨b, 0, none⟩)] w fun e w' => ∃ u, e = .returned u ∧ w'.ownsRow w.heap.size 38 20 u l.length (prV l) ∧ Below w.heap.size w w' := by
  obtain ⟨hn, s, m4, m6, h1, h2, _, _⟩ := hT
  have HC := Lib.hid (clone_any s l w (own_rs h2) hn.ok (by have := hn.len; omega))
  obtain ⟨ao, cap, rfl, _⟩ := own_shape h2
  have c0 := h1.c 0 _ rfl
  clear h1 h2 hn
  go_enter Tryd.func20, Tryd.ntmps20
  go_wp2_with fail
  refine (HC.out).mono ?_
  rintro e w1 ⟨u, rfl, hu, hb⟩
  have HU := Lib.hid hu
  have HB := Lib.hid hb
  clear hu hb c0 HC
  go_wp2_with fail
  go_ret
  exact ⟨_, rfl, HU.out, HB.out⟩
/-- What New answers, and leaves, gone on from some pairs. -/
def newG : Kv → Kv → Int × Kv
  | L, [] => (0, L)
  | L, p :: r => if addE L p = 0 then newG (L ++ [p]) r else (addE L p, [])
def newE (l : Kv) : Int := (newG [] l).1
def newL (l : Kv) : Kv := (newG [] l).2
theorem newG_ok {L : Kv} {l : Kv} {k : Nat} (h : k < l.length) (he : addE L l[k] = 0) : newG L (l.drop k) = newG (L ++ [l[k]]) (l.drop (k + 1)) := by
  rw [drop_at k h]
  show (if addE L l[k] = 0 then newG (L ++ [l[k]]) (l.drop (k + 1)) else (addE L l[k], [])) = _
  rw [if_pos he]
theorem newG_bad {L : Kv} {l : Kv} {k : Nat} (h : k < l.length) (he : addE L l[k] ≠ 0) : newG L (l.drop k) = (addE L l[k], []) := by
  rw [drop_at k h]
  show (if addE L l[k] = 0 then newG (L ++ [l[k]]) (l.drop (k + 1)) else (addE L l[k], [])) = _
  rw [if_neg he]
theorem addL_ok {L : Kv} {p : List UInt8 × List UInt8} (he : addE L p = 0) : addL L p = L ++ [p] := by unfold addL; rw [if_pos he]
theorem Tryd.bTable (W : World) : (Instr.build 62 #[]).run Tryd.prog W = .ok (.agg #[.slice none 0 0, .map none, .map none]) W := by kernel_rfl
theorem tb_new (w : World) : Tb (w.alloc (.cells #[.slice none 0 0, .map none, .map none] 62)) w.heap.size [] :=
  ⟨Nl.nil, _, _, _, bk_new w 62 _, own_nil _ 0, .inl ⟨rfl, rfl⟩, .inl ⟨rfl, rfl⟩⟩
set_option maxRecDepth 100000 in
set_option maxHeartbeats 8000000 in
theorem new_any (v : Value) (l : Kv) (w : World) (hR : Rs w v l) (hl : okPs l) (hn : l.length ≤ 1000) (hm : Hm w) :
    Calls Tryd.prog 14 #[v] w fun e w' => Below w.heap.size w w' ∧ ((newE l = 0 ∧ e = .returned (.tuple #[.pointer (some ⟨w.heap.size, 0, none⟩), .int .i64 0]) ∧ Tb w' w.heap.size (newL l)) ∨ (newE l ≠ 0 ∧ e = .returned (.tuple #[.pointer none, .int .i64 (newE l)]))) := by
  have HR : Hid (∀ W, Below w.heap.size w W → Rs W v l) := Lib.hid (fun W hW => hR.below hW)
  have HM : Hid (∀ W, Below w.heap.size w W → Hm W) := Lib.hid (fun W hW => hm.below hW)
  have HL := Lib.hid hl
  have hbt := Tryd.bTable w
  have HE : Hid (newE l = (newG [] l).1 ∧ newL l = (newG [] l).2) := Lib.hid ⟨rfl, rfl⟩
  have HT0 := Lib.hid (tb_new w)
  have HB0 : Hid (Below w.heap.size w (w.alloc (.cells #[.slice none 0 0, .map none, .map none] 62))) := Lib.hid ((Below.refl _ _).alloc (Nat.le_refl _) _)
  obtain ⟨ao, cap, rfl, _, _⟩ := hR.shape
  clear hR hl hm
  generalize newE l = NE at *
  generalize newL l = NL at *
  generalize hw1 : w.alloc (.cells #[.slice none 0 0, .map none, .map none] 62) = w1 at *
  go_enter Tryd.func14, Tryd.ntmps14
  go_upto_region 2 with (fail)
  clear hw1 hbt
  go_wp2_with fail
  go_loopw [12] (fun i wr => ∃ (k : Nat) (L : Kv), k ≤ l.length ∧ i = .int .i64 k ∧ Tb wr w.heap.size L ∧ Below w.heap.size w wr ∧ Hid (newG [] l = newG L (l.drop k))) (fun i _ => l.length - (intOf i).toNat)
  case atStart => exact ⟨0, [], Nat.zero_le _, rfl, HT0.out, HB0.out, Lib.hid rfl⟩
  case round =>
    obtain ⟨k, L, hk, rfl, ht, hb, HG⟩ := hrel
    have HT := Lib.hid ht
    have HB := Lib.hid hb
    clear ht hb HT0 HB0
    by_cases hlt : k < l.length
    · obtain ⟨_, _, hsh, _, hS⟩ := (HR.out _ HB.out).shape
      obtain ⟨b2, o2, e2, hbl, hr⟩ := hS k hlt
      obtain rfl : ao = some ⟨b2, o2, none⟩ := by
        cases hsh
        exact e2
      have hq1 := range_el hr HL.out k hlt
      have HOk := Lib.hid (okPs_at HL.out k hlt)
      have HI_PV : Hid ((Tryd.prog.info? 38).map (·.size) = some (prv l[k]).length) := Lib.hid (Tryd.infoP _ (HOk.out))
      have HO_PV : Hid ((prv l[k]).toArray.all (·.oneCell') = true) := Lib.hid (prv_ones _)
      have HL_PV : Hid ((prv l[k]).length = 20) := Lib.hid (prv_len (HOk.out))
      have HG1 := Lib.hid (fun (h : addE L l[k] = 0) => newG_ok hlt h)
      have HG2 := Lib.hid (fun (h : addE L l[k] ≠ 0) => newG_bad hlt h)
      have CA := Lib.hid (fun W b (hT : Tb W b L) hm => add_any b L l[k] W hT HOk.out hm)
      have HAL := Lib.hid (fun (h : addE L l[k] = 0) => addL_ok h)
      have hk2 : (k : Int) < (l.length : Int) := by omega
      clear hr hsh hS hbl HOk e2
      generalize addE L l[k] = AE at *
      generalize addL L l[k] = AL at *
      generalize prv l[k] = PV at *
      generalize l[k] = p at *
      have ht := (bk_new wr 38 ([.int .u8 0, .int .u8 0, .int .u8 0, .int .u8 0, .int .u8 0, .int .u8 0, .int .u8 0, .int .u8 0, .int .u8 0, .int .u8 0, .int .u8 0, .int .u8 0, .int .u8 0, .int .u8 0, .int .u8 0, .int .u8 0, .int .u8 0, .int .u8 0, .int .u8 0, .int .u8 0] : List Value).toArray).there PV.toArray.size (by have := HL_PV.out; simp; omega)
      go_upto_region 5 with (first | (refine wpList_load_mid rfl 38 _ rfl b2 (o2 + k * 20) rfl PV _ hq1 Tryd.underlying38 rfl HI_PV.out ?_) | (refine wpList_store_mid rfl 38 _ _ rfl wr.heap.size 0 PV.toArray rfl rfl ht (by simpa using HI_PV.out) HO_PV.out ?_))
      have HB5 : Hid (Bk ((wr.alloc (.cells ([.int .u8 0, .int .u8 0, .int .u8 0, .int .u8 0, .int .u8 0, .int .u8 0, .int .u8 0, .int .u8 0, .int .u8 0, .int .u8 0, .int .u8 0, .int .u8 0, .int .u8 0, .int .u8 0, .int .u8 0, .int .u8 0, .int .u8 0, .int .u8 0, .int .u8 0, .int .u8 0] : List Value).toArray 38)).setCells wr.heap.size 0 PV) wr.heap.size 38 PV.toArray) := Lib.hid (by
        have hE := Bk.sets PV 0 _ _ (bk_new wr 38 ([.int .u8 0, .int .u8 0, .int .u8 0, .int .u8 0, .int .u8 0, .int .u8 0, .int .u8 0, .int .u8 0, .int .u8 0, .int .u8 0, .int .u8 0, .int .u8 0, .int .u8 0, .int .u8 0, .int .u8 0, .int .u8 0, .int .u8 0, .int .u8 0, .int .u8 0, .int .u8 0] : List Value).toArray)
        rw [puts_whole ([.int .u8 0, .int .u8 0, .int .u8 0, .int .u8 0, .int .u8 0, .int .u8 0, .int .u8 0, .int .u8 0, .int .u8 0, .int .u8 0, .int .u8 0, .int .u8 0, .int .u8 0, .int .u8 0, .int .u8 0, .int .u8 0, .int .u8 0, .int .u8 0, .int .u8 0, .int .u8 0] : List Value).toArray PV (by have := HL_PV.out; simp; omega)] at hE
        exact hE)
      have HW5 : Hid (Below wr.heap.size wr ((wr.alloc (.cells ([.int .u8 0, .int .u8 0, .int .u8 0, .int .u8 0, .int .u8 0, .int .u8 0, .int .u8 0, .int .u8 0, .int .u8 0, .int .u8 0, .int .u8 0, .int .u8 0, .int .u8 0, .int .u8 0, .int .u8 0, .int .u8 0, .int .u8 0, .int .u8 0, .int .u8 0, .int .u8 0] : List Value).toArray 38)).setCells wr.heap.size 0 PV)) := Lib.hid (below_sets PV (Nat.le_refl _) 0 _ ((Below.refl _ _).alloc (Nat.le_refl _) _))
      clear ht hq1
      generalize (wr.alloc (.cells ([.int .u8 0, .int .u8 0, .int .u8 0, .int .u8 0, .int .u8 0, .int .u8 0, .int .u8 0, .int .u8 0, .int .u8 0, .int .u8 0, .int .u8 0, .int .u8 0, .int .u8 0, .int .u8 0, .int .u8 0, .int .u8 0, .int .u8 0, .int .u8 0, .int .u8 0, .int .u8 0] : List Value).toArray 38)).setCells wr.heap.size 0 PV = w5 at *
      have HT5 := Lib.hid (HT.out.below HW5.out)
      have HB6 := Lib.hid (HB.out.trans (HW5.out.mono HB.out.size))
      have HA := Lib.hid (CA.out _ _ HT5.out (HM.out _ HB6.out))
      clear HT HB HW5 CA
      have hr5 := HB5.out.range
      generalize wr.heap.size = g at *
      go_wp2_with ((with_reducible (change wpList _ _ _ _ _ _)); (refine wpList_load_mid rfl 38 _ rfl g 0 rfl PV _ hr5 Tryd.underlying38 rfl HI_PV.out ?_))
      clear hr5
      refine (HA.out).mono ?_
      rintro e w6 ⟨rfl, hT6, hg6⟩
      have HT6 := Lib.hid hT6
      have HB7 : Hid (Below w.heap.size w w6) := Lib.hid (HB6.out.grown hg6 HB6.out.size (fun j hj => by cases hj; exact Nat.le_refl _))
      clear hT6 hg6 HA HT5 HB6 HB5
      by_cases he : AE = 0
      · subst he
        have HF : Hid (Tb w6 w.heap.size (L ++ [p])) := Lib.hid (by rw [← HAL.out rfl]; exact HT6.out)
        have HH : Hid (newG [] l = newG (L ++ [p]) (l.drop (k + 1))) := Lib.hid (by rw [HG.out, HG1.out rfl])
        clear HT6 HG1 HG2 HAL HG
        go_wp2_with fail
        go_roundw
        case rel => exact ⟨k + 1, L ++ [p], hlt, by go_num, HF.out, HB7.out, HH⟩
        case measure => simp [intOf]; omega
      · have HH : Hid (NE = AE) := Lib.hid (by rw [HE.out.1, HG.out, HG2.out he])
        have hne : (AE != 0) = true := by simpa using he
        have HNe := Lib.hid he
        clear HT6 HG1 HG2 HAL HG he
        go_wp2_with fail
        go_ret2
        exact ⟨HB7.out, .inr ⟨by rw [HH.out]; exact HNe.out, by rw [HH.out]; rfl⟩⟩
    · obtain rfl : k = l.length := by omega
      have HH : Hid (NE = 0 ∧ NL = L) := Lib.hid (by
        have h := HG.out
        rw [List.drop_length] at h
        rw [HE.out.1, HE.out.2, h]
        exact ⟨rfl, rfl⟩)
      clear HG
      go_wp2_with fail
      go_ret2
      exact ⟨HB.out, .inl ⟨HH.out.1, rfl, by rw [HH.out.2]; exact HT.out⟩⟩

set_option maxRecDepth 100000 in
set_option maxHeartbeats 8000000 in
theorem four_nil (x : List UInt8) (w : World) :
    Calls Tryd.prog 25 #[.pointer none, .agg (bu x).toArray] w fun e w' => e = .returned (.tuple #[.agg (bu (List.replicate 4 0)).toArray, .bool false]) ∧ Below w.heap.size w w' := by
  obtain ⟨VZ, hVZ⟩ : ∃ VZ, VZ = bu (List.replicate 4 0) := ⟨_, rfl⟩
  have HZ : Hid (bu (List.replicate 4 0) = VZ) := Lib.hid hVZ.symm
  have HLZ : Hid (VZ.length = 4) := Lib.hid (by rw [hVZ, bu_len, List.length_replicate])
  have HIZ : Hid ((Tryd.prog.info? 36).map (·.size) = some VZ.length) := Lib.hid (by rw [hVZ]; kernel_rfl)
  have HOZ : Hid (VZ.toArray.all (·.oneCell') = true) := Lib.hid (by rw [hVZ]; exact bu_one _)
  have HBZ : Hid (∀ W, (Instr.build 36 #[]).run Tryd.prog W = .ok (.agg VZ.toArray) W) := Lib.hid (by intro W; rw [hVZ]; kernel_rfl)
  have hz : ([.int .u8 0, .int .u8 0, .int .u8 0, .int .u8 0] : List Value).toArray = VZ.toArray := by rw [hVZ]; rfl
  have HK2 := Lib.hid (((Kp.start w).new 23 (bu x)).new 36 VZ)
  have e1 : (w.alloc (.cells (bu x).toArray 23)).heap.size = w.heap.size + 1 := by simp
  rw [e1] at HK2
  rw [← hVZ]
  clear hVZ HZ
  generalize bu x = X at *
  go_enter Tryd.func25, Tryd.ntmps25
  go_upto_region 1 with (fail)
  clear hz e1
  generalize (w.alloc (.cells X.toArray 23)).alloc (.cells VZ.toArray 36) = w2 at *
  have ht := HK2.out.hd.there VZ.toArray.size (by simp)
  have HE : Hid (Bk (w2.setCells (w.heap.size + 1) 0 VZ) (w.heap.size + 1) 36 VZ.toArray) := Lib.hid (by
    have hE := Bk.sets VZ 0 _ _ HK2.out.hd
    rw [puts_whole VZ.toArray VZ (by simp)] at hE
    exact hE)
  go_wp2_with (first | ((with_reducible (change bodyPost _ _ _ _ _ _)); refine bodyPost_ret (v := .tuple #[.agg VZ.toArray, .bool false]) (results_cell2 rfl rfl rfl (run_loadVar_mid _ (w.heap.size + 1) 0 36 _ _ HE.out.range Tryd.underlying36 rfl HIZ.out)) rfl ⟨rfl, below_sets _ (by omega) 0 _ HK2.out.2.1⟩) | (refine Great.wpList_readTo rfl _ rfl (.agg VZ.toArray) (run_execN rfl (by rw [List.map_toArray]; rfl) (HBZ.out _)) ?_) | (refine wpList_store_mid rfl 36 _ _ rfl (w.heap.size + 1) 0 VZ.toArray rfl rfl ht (by simpa using HIZ.out) HOZ.out ?_))
set_option maxRecDepth 100000 in
set_option maxHeartbeats 8000000 in
theorem six_nil (x : List UInt8) (w : World) :
    Calls Tryd.prog 16 #[.pointer none, .agg (bu x).toArray] w fun e w' => e = .returned (.tuple #[.agg (bu (List.replicate 16 0)).toArray, .bool false]) ∧ Below w.heap.size w w' := by
  obtain ⟨VZ, hVZ⟩ : ∃ VZ, VZ = bu (List.replicate 16 0) := ⟨_, rfl⟩
  have HZ : Hid (bu (List.replicate 16 0) = VZ) := Lib.hid hVZ.symm
  have HLZ : Hid (VZ.length = 16) := Lib.hid (by rw [hVZ, bu_len, List.length_replicate])
  have HIZ : Hid ((Tryd.prog.info? 23).map (·.size) = some VZ.length) := Lib.hid (by rw [hVZ]; kernel_rfl)
  have HOZ : Hid (VZ.toArray.all (·.oneCell') = true) := Lib.hid (by rw [hVZ]; exact bu_one _)
  have HBZ : Hid (∀ W, (Instr.build 23 #[]).run Tryd.prog W = .ok (.agg VZ.toArray) W) := Lib.hid (by intro W; rw [hVZ]; kernel_rfl)
  have hz : ([.int .u8 0, .int .u8 0, .int .u8 0, .int .u8 0, .int .u8 0, .int .u8 0, .int .u8 0, .int .u8 0, .int .u8 0, .int .u8 0, .int .u8 0, .int .u8 0, .int .u8 0, .int .u8 0, .int .u8 0, .int .u8 0] : List Value).toArray = VZ.toArray := by rw [hVZ]; rfl
  have HK2 := Lib.hid (((Kp.start w).new 36 (bu x)).new 23 VZ)
  have e1 : (w.alloc (.cells (bu x).toArray 36)).heap.size = w.heap.size + 1 := by simp
  rw [e1] at HK2
  rw [← hVZ]
  clear hVZ HZ
  generalize bu x = X at *
  go_enter Tryd.func16, Tryd.ntmps16
  go_upto_region 1 with (fail)
  clear hz e1
  generalize (w.alloc (.cells X.toArray 36)).alloc (.cells VZ.toArray 23) = w2 at *
  have ht := HK2.out.hd.there VZ.toArray.size (by simp)
  have HE : Hid (Bk (w2.setCells (w.heap.size + 1) 0 VZ) (w.heap.size + 1) 23 VZ.toArray) := Lib.hid (by
    have hE := Bk.sets VZ 0 _ _ HK2.out.hd
    rw [puts_whole VZ.toArray VZ (by simp)] at hE
    exact hE)
  go_wp2_with (first | ((with_reducible (change bodyPost _ _ _ _ _ _)); refine bodyPost_ret (v := .tuple #[.agg VZ.toArray, .bool false]) (results_cell2 rfl rfl rfl (run_loadVar_mid _ (w.heap.size + 1) 0 23 _ _ HE.out.range Tryd.underlying23 rfl HIZ.out)) rfl ⟨rfl, below_sets _ (by omega) 0 _ HK2.out.2.1⟩) | (refine Great.wpList_readTo rfl _ rfl (.agg VZ.toArray) (run_execN rfl (by rw [List.map_toArray]; rfl) (HBZ.out _)) ?_) | (refine wpList_store_mid rfl 23 _ _ rfl (w.heap.size + 1) 0 VZ.toArray rfl rfl ht (by simpa using HIZ.out) HOZ.out ?_))
set_option maxRecDepth 100000 in
set_option maxHeartbeats 8000000 in
theorem add_nil (p : List UInt8 × List UInt8) (w : World) :
    Calls Tryd.prog 17 #[.pointer none, .agg (prv p).toArray] w fun e w' => e = .returned (.int .i64 6) ∧ Below w.heap.size w w' := by
  have HB : Hid (Below w.heap.size w (w.alloc (.cells (prv p).toArray 38))) := Lib.hid ((Below.refl _ _).alloc (Nat.le_refl _) _)
  generalize prv p = PV at *
  generalize hw1 : w.alloc (.cells PV.toArray 38) = w1 at *
  go_enter Tryd.func17, Tryd.ntmps17
  go_wp2_with fail
  go_ret
  exact ⟨rfl, HB.out⟩
set_option maxRecDepth 100000 in
set_option maxHeartbeats 8000000 in
theorem drop_nil (a : List UInt8) (w : World) (ha : a.length = 4) :
    Calls Tryd.prog 18 #[.pointer none, .agg (bu a).toArray] w fun e w' => e = .returned (.int .i64 4) ∧ Below w.heap.size w w' := by
  have CX := Lib.hid (fun W => six_nil a W)
  have HI_VA : Hid ((Tryd.prog.info? 36).map (·.size) = some (bu a).length) := Lib.hid (Tryd.infoU4 _ (ha))
  have HO_VA : Hid ((bu a).toArray.all (·.oneCell') = true) := Lib.hid (bu_one _)
  have HL_VA : Hid ((bu a).length = 4) := Lib.hid (by rw [bu_len]; exact ha)
  have HI_VX : Hid ((Tryd.prog.info? 23).map (·.size) = some (bu (List.replicate 16 0)).length) := Lib.hid (Tryd.infoU6 _ (rfl))
  have HO_VX : Hid ((bu (List.replicate 16 0)).toArray.all (·.oneCell') = true) := Lib.hid (bu_one _)
  have HL_VX : Hid ((bu (List.replicate 16 0)).length = 16) := Lib.hid (by rw [bu_len]; exact rfl)
  have HK1 := Lib.hid ((Kp.start w).new 36 (bu a))
  clear ha
  generalize bu (List.replicate 16 0) = VX at *
  generalize bu a = VA at *
  generalize hw1 : w.alloc (.cells VA.toArray 36) = w1 at *
  have hr0 := HK1.out.hd.range
  go_enter Tryd.func18, Tryd.ntmps18
  go_upto_region 1 with (fail)
  clear hw1
  go_wp2_with (((with_reducible (change wpList _ _ _ _ _ _)); ((refine wpList_load_mid rfl 36 _ rfl (w.heap.size) (0) rfl (VA) _ hr0 Tryd.underlying36 rfl HI_VA.out ?_))))
  clear hr0
  refine (CX.out _).mono ?_
  rintro e w2 ⟨rfl, bb⟩
  have HK2 := Lib.hid (HK1.out.below bb (Nat.le_refl _))
  clear bb HK1
  have ht := (bk_new w2 23 ([.int .u8 0, .int .u8 0, .int .u8 0, .int .u8 0, .int .u8 0, .int .u8 0, .int .u8 0, .int .u8 0, .int .u8 0, .int .u8 0, .int .u8 0, .int .u8 0, .int .u8 0, .int .u8 0, .int .u8 0, .int .u8 0] : List Value).toArray).there VX.toArray.size (by have := HL_VX.out; simp; omega)
  go_upto_region 2 with (((with_reducible (change wpList _ _ _ _ _ _)); ((refine wpList_store_mid rfl 23 _ _ rfl w2.heap.size 0 VX.toArray rfl rfl ht (by simpa using HI_VX.out) HO_VX.out ?_))))
  have HK3 := Lib.hid (HK2.out.put 23 ([.int .u8 0, .int .u8 0, .int .u8 0, .int .u8 0, .int .u8 0, .int .u8 0, .int .u8 0, .int .u8 0, .int .u8 0, .int .u8 0, .int .u8 0, .int .u8 0, .int .u8 0, .int .u8 0, .int .u8 0, .int .u8 0] : List Value).toArray VX (by have := HL_VX.out; simp; omega))
  clear ht HK2
  generalize (w2.alloc (.cells ([.int .u8 0, .int .u8 0, .int .u8 0, .int .u8 0, .int .u8 0, .int .u8 0, .int .u8 0, .int .u8 0, .int .u8 0, .int .u8 0, .int .u8 0, .int .u8 0, .int .u8 0, .int .u8 0, .int .u8 0, .int .u8 0] : List Value).toArray 23)).setCells w2.heap.size 0 VX = w3 at *
  generalize w2.heap.size = g5 at *
  go_wp2_with fail
  go_ret
  exact ⟨rfl, HK3.out.2.1⟩

theorem lk_hit {l : Kv} {k : Nat} (h : k < l.length) {x : List UInt8} (he : l[k].1 = x) : lk (l.drop k) x = some l[k].2 := by
  rw [drop_at k h]
  show (if l[k].1 = x then some l[k].2 else lk (l.drop (k + 1)) x) = _
  rw [if_pos he]
theorem lk_miss {l : Kv} {k : Nat} (h : k < l.length) {x : List UInt8} (he : l[k].1 ≠ x) : lk (l.drop k) x = lk (l.drop (k + 1)) x := by
  rw [drop_at k h]
  show (if l[k].1 = x then some l[k].2 else lk (l.drop (k + 1)) x) = _
  rw [if_neg he]
theorem sw_drop (l : Kv) (k : Nat) : sw (l.drop k) = (sw l).drop k := by unfold sw; rw [List.map_drop]
theorem sw_at {l : Kv} {k : Nat} (h : k < l.length) : (sw l)[k]'(by rw [sw_len]; exact h) = (l[k].2, l[k].1) := by unfold sw; rw [List.getElem_map]
theorem lk_hit' {l : Kv} {k : Nat} (h : k < l.length) {x : List UInt8} (he : l[k].2 = x) : lk (sw (l.drop k)) x = some l[k].1 := by
  rw [sw_drop, lk_hit (l := sw l) (by rw [sw_len]; exact h) (by rw [sw_at h]; exact he), sw_at h]
theorem lk_miss' {l : Kv} {k : Nat} (h : k < l.length) {x : List UInt8} (he : l[k].2 ≠ x) : lk (sw (l.drop k)) x = lk (sw (l.drop (k + 1))) x := by
  rw [sw_drop, lk_miss (l := sw l) (by rw [sw_len]; exact h) (by rw [sw_at h]; exact he), sw_drop]
set_option maxRecDepth 100000 in
set_option maxHeartbeats 8000000 in
theorem rfour_any (v : Value) (l : Kv) (x : List UInt8) (w : World) (hR : Rs w v l) (hl : okPs l) (hn : l.length ≤ 1000) (hx : x.length = 16) :
    Calls Tryd.prog 26 #[v, .agg (bu x).toArray] w fun e w' => e = .returned (.tuple #[.agg (bu (fourA l x)).toArray, .bool (fourI l x)]) ∧ Below w.heap.size w w' := by
  obtain ⟨VZ, hVZ⟩ : ∃ VZ, VZ = bu (List.replicate 4 0) := ⟨_, rfl⟩
  have HLZ : Hid (VZ.length = 4) := Lib.hid (by rw [hVZ, bu_len, List.length_replicate])
  have HIZ : Hid ((Tryd.prog.info? 36).map (·.size) = some VZ.length) := Lib.hid (by rw [hVZ]; kernel_rfl)
  have HOZ : Hid (VZ.toArray.all (·.oneCell') = true) := Lib.hid (by rw [hVZ]; exact bu_one _)
  have HBZ : Hid (∀ W, (Instr.build 36 #[]).run Tryd.prog W = .ok (.agg VZ.toArray) W) := Lib.hid (by intro W; rw [hVZ]; kernel_rfl)
  have hz : ([.int .u8 0, .int .u8 0, .int .u8 0, .int .u8 0] : List Value).toArray = VZ.toArray := by rw [hVZ]; rfl
  have HIX : Hid ((Tryd.prog.info? 23).map (·.size) = some (bu x).length) := Lib.hid (Tryd.infoU6 _ hx)
  have HNo : Hid (lk (sw l) x = none → bu (fourA l x) = VZ ∧ fourI l x = false) := Lib.hid (fun h => by
    unfold fourA fourI lkv
    rw [h, hVZ]
    exact ⟨rfl, rfl⟩)
  have HYe : Hid (∀ a, lk (sw l) x = some a → fourA l x = a ∧ fourI l x = true) := Lib.hid (fun a h => by
    unfold fourA fourI lkv
    rw [h]
    exact ⟨rfl, rfl⟩)
  have HR : Hid (∀ W, Below w.heap.size w W → Rs W v l) := Lib.hid (fun W hW => hR.below hW)
  have HL := Lib.hid hl
  have HQ := Lib.hid (fun (q : List UInt8) (hq : q.length = 16) W => equ6 q x hq hx W)
  have HK2 := Lib.hid (((Kp.start w).new 23 (bu x)).new 36 VZ)
  have e1 : (w.alloc (.cells (bu x).toArray 23)).heap.size = w.heap.size + 1 := by simp
  rw [e1] at HK2
  obtain ⟨ao, cap, rfl, _, _⟩ := hR.shape
  clear hVZ hR hl
  generalize fourA l x = FA at *
  generalize fourI l x = FI at *
  generalize hX : bu x = X at *
  clear hX
  go_enter Tryd.func26, Tryd.ntmps26
  go_upto_region 1 with (fail)
  clear hz e1
  generalize (w.alloc (.cells X.toArray 23)).alloc (.cells VZ.toArray 36) = w2 at *
  go_wp2_with fail
  go_loopw [6] (fun i wr => ∃ k : Nat, k ≤ l.length ∧ i = .int .i64 k ∧ Kp w w.heap.size [(w.heap.size + 1, 36, VZ), (w.heap.size, 23, X)] wr ∧ Hid (lk (sw l) x = lk (sw (l.drop k)) x)) (fun i _ => l.length - (intOf i).toNat)
  case atStart => exact ⟨0, Nat.zero_le _, rfl, HK2.out, Lib.hid rfl⟩
  case round =>
    obtain ⟨k, hk, rfl, hkp, HG⟩ := hrel
    have HK := Lib.hid hkp
    clear hkp HK2
    by_cases hlt : k < l.length
    · obtain ⟨_, _, hsh, _, hS⟩ := (HR.out _ HK.out.2.1).shape
      obtain ⟨b2, o2, e2, hbl, hr⟩ := hS k hlt
      obtain rfl : ao = some ⟨b2, o2, none⟩ := by
        cases hsh
        exact e2
      have HOk := Lib.hid (okPs_at HL.out k hlt)
      have hre := range_el hr HL.out k hlt
      have HRE := Lib.hid hre
      have HBL := Lib.hid hbl
      have hqm : wr.rangeAt b2 (o2 + k * 20 + 4) (bu l[k].2) := range_x hre HOk.out
      have HQH : Hid (wr.rangeAt b2 (o2 + k * 20) (bu l[k].1)) := Lib.hid (range_f hre)
      have HIM : Hid ((Tryd.prog.info? 23).map (·.size) = some (bu l[k].2).length) := Lib.hid (Tryd.infoU6 _ HOk.out.2)
      have HIH : Hid ((Tryd.prog.info? 36).map (·.size) = some (bu l[k].1).length) := Lib.hid (Tryd.infoU4 _ HOk.out.1)
      have HOH : Hid ((bu l[k].1).toArray.all (·.oneCell') = true) := Lib.hid (bu_one _)
      have HLH : Hid ((bu l[k].1).length = 4) := Lib.hid (by rw [bu_len]; exact HOk.out.1)
      have hqe := HQ.out _ HOk.out.2
      have HH := Lib.hid (fun h => lk_hit' hlt (x := x) h)
      have HM := Lib.hid (fun h => lk_miss' hlt (x := x) h)
      have hk2 : (k : Int) < (l.length : Int) := by omega
      clear hr hsh hS hbl hre e2 HRE
      generalize bu l[k].2 = QM at *
      go_wp2_with fail
      refine wp_region_noPanic ?_
      refine wp_region_held_drew (S := fun W => Kp w w.heap.size [(w.heap.size + 1, 36, VZ), (w.heap.size, 23, X)] W ∧ Below wr.heap.size wr W ∧ W.rangeAt w.heap.size 0 X ∧ W.rangeAt b2 (o2 + k * 20 + 4) QM) (by kernel_rfl) (⟨HK.out.drew, (Below.refl _ wr).drew, HK.out.tl.hd.range, hqm⟩) (fun hHeld => ?_)
      refine wpAnyH_take (i := 0) (oi := { dst := some 13, op := Op.move (Operand.tmp 0), type := 40, pos := "ref.go:65", after := #[], guard := none }) (v := ?_) rfl (by kernel_rfl) (by kernel_rfl) (by kernel_rfl) (fun _ _ _ h => h) (Or.inl ⟨by rfl, ?_⟩) (by assumption) ?_
      rotate_left
      · (intro ww hSw; (try dsimp only at hSw); go_simp; try with_reducible rfl)
      (try simp only [Act.put, List.setIfInBounds_toArray, List.set_cons_zero, List.set_cons_succ])
      refine wpAnyH_take (i := 1) (oi := { dst := some 14, op := Op.move (Operand.tmp 6), type := 3, pos := "ref.go:65", after := #[], guard := none }) (v := ?_) rfl (by kernel_rfl) (by kernel_rfl) (by kernel_rfl) (fun _ _ _ h => h) (Or.inl ⟨by rfl, ?_⟩) (by assumption) ?_
      rotate_left
      · (intro ww hSw; (try dsimp only at hSw); go_simp; try with_reducible rfl)
      (try simp only [Act.put, List.setIfInBounds_toArray, List.set_cons_zero, List.set_cons_succ])
      refine wpAnyH_take (i := 2) (oi := { dst := some 15, op := Op.indexAddr 40 (Operand.tmp 13) (Operand.tmp 14), type := 0, pos := "ref.go:65", after := #[{ on := 0, ground := Ground.data }, { on := 1, ground := Ground.data }], guard := none }) (v := ?_) rfl (by kernel_rfl) (by kernel_rfl) (by kernel_rfl) (fun _ _ _ h => h) (Or.inl ⟨by rfl, ?_⟩) (by assumption) ?_
      rotate_left
      · (intro ww hSw; (try dsimp only at hSw); go_simp; try with_reducible rfl)
      (try simp only [Act.put, List.setIfInBounds_toArray, List.set_cons_zero, List.set_cons_succ])
      refine wpAnyH_take (i := 3) (oi := { dst := some 16, op := Op.fieldAddr 38 (Operand.tmp 15) 1, type := 0, pos := "ref.go:65", after := #[{ on := 2, ground := Ground.data }], guard := none }) (v := ?_) rfl (by kernel_rfl) (by kernel_rfl) (by kernel_rfl) (fun _ _ _ h => h) (Or.inl ⟨by rfl, ?_⟩) (by assumption) ?_
      rotate_left
      · (intro ww hSw; (try dsimp only at hSw); go_simp; try with_reducible rfl)
      (try simp only [Act.put, List.setIfInBounds_toArray, List.set_cons_zero, List.set_cons_succ])
      refine wpAnyH_take (i := 4) (oi := { dst := some 17, op := Op.load 23 (Operand.tmp 16), type := 23, pos := "ref.go:65", after := #[{ on := 3, ground := Ground.data }], guard := none }) (v := .agg (QM).toArray) rfl (by kernel_rfl) (by kernel_rfl) (by kernel_rfl) (fun _ _ _ h => h) (yieldsIf_load_mid (by rfl) _ _ rfl (b2) (o2 + k * 20 + 4) rfl (QM) _ (fun ww hSw => hSw.2.2.2) Tryd.underlying23 rfl HIM.out) (by assumption) ?_
      (try simp only [Act.put, List.setIfInBounds_toArray, List.set_cons_zero, List.set_cons_succ])
      refine wpAnyH_take (i := 5) (oi := { dst := some 18, op := Op.load 23 (Operand.tmp 3), type := 23, pos := "ref.go:65", after := #[], guard := none }) (v := .agg (X).toArray) rfl (by kernel_rfl) (by kernel_rfl) (by kernel_rfl) (fun _ _ _ h => h) (yieldsIf_load_mid (by rfl) _ _ rfl (w.heap.size) 0 rfl (X) _ (fun ww hSw => hSw.2.2.1) Tryd.underlying23 rfl HIX.out) (by assumption) ?_
      (try simp only [Act.put, List.setIfInBounds_toArray, List.set_cons_zero, List.set_cons_succ])
      refine wpAnyH_take (i := 6) (oi := { dst := some 19, op := Op.binOp BinOp.eql 23 (Operand.tmp 17) (Operand.tmp 18) 23, type := 4, pos := "ref.go:65", after := #[{ on := 4, ground := Ground.data }, { on := 5, ground := Ground.data }], guard := none }) (v := .bool (decide (l[k].2 = x))) rfl (by kernel_rfl) (by kernel_rfl) (by kernel_rfl) (fun _ _ _ h => h) (Or.inl ⟨by rfl, (by intro ww hSw; go_simp)⟩) (by assumption) ?_
      (try simp only [Act.put, List.setIfInBounds_toArray, List.set_cons_zero, List.set_cons_succ])
      refine wpAnyH_done (by kernel_rfl) ?_ _
      refine NoPanic.normal ?_
      have HK5 := Lib.hid hHeld.1
      have HW5 := Lib.hid hHeld.2.1
      clear hHeld hqe hqm
      by_cases he : l[k].2 = x
      · have hd : decide (l[k].2 = x) = true := by simp [he]
        have HE := Lib.hid (HYe.out _ (HG.out.trans (HH.out he)))
        have HQ5 := Lib.hid (range_below HQH.out HBL.out HW5.out)
        clear HH HM he
        rw [hd]
        clear hd
        have HQF : Hid (bu FA = bu l[k].1) := Lib.hid (by rw [HE.out.1])
        generalize bu l[k].1 = QH at *
        generalize l[k] = q at *
        have hr5 := HQ5.out
        have ht := HK5.out.hd.there QH.toArray.size (by have := HLH.out; have := HLZ.out; simp; omega)
        have HE5 : Hid (Bk (wr.drew.setCells (w.heap.size + 1) 0 QH) (w.heap.size + 1) 36 QH.toArray) := Lib.hid (by
          have hE := Bk.sets QH 0 _ _ HK5.out.hd
          rw [puts_whole VZ.toArray QH (by have := HLH.out; have := HLZ.out; simp; omega)] at hE
          exact hE)
        go_wp2_with (first | ((with_reducible (change bodyPost _ _ _ _ _ _)); refine bodyPost_ret (v := .tuple #[.agg QH.toArray, .bool true]) (results_cell2 rfl rfl rfl (run_loadVar_mid _ (w.heap.size + 1) 0 36 _ _ HE5.out.range Tryd.underlying36 rfl HIH.out)) rfl ⟨by rw [HE.out.2, HQF.out], below_sets _ (by omega) 0 _ HK5.out.2.1⟩) | (refine wpList_load_mid rfl 36 _ rfl b2 (o2 + k * 20) rfl QH _ hr5 Tryd.underlying36 rfl HIH.out ?_) | (refine wpList_store_mid rfl 36 _ _ rfl (w.heap.size + 1) 0 QH.toArray rfl rfl ht (by simpa using HIH.out) HOH.out ?_))
      · have hd : decide (l[k].2 = x) = false := by simpa using he
        have HE := Lib.hid (HG.out.trans (HM.out he))
        clear HH HM he HQH HG
        rw [hd]
        clear hd
        go_wp2_with fail
        go_roundw
        case rel => exact ⟨k + 1, hlt, by go_num, HK5.out, Lib.hid HE.out⟩
        case measure => simp [intOf]; omega
    · obtain rfl : k = l.length := by omega
      have HE := Lib.hid (HNo.out (HG.out.trans (by rw [List.drop_length]; rfl)))
      clear HG
      have ht := HK.out.hd.there VZ.toArray.size (by simp)
      have HE5 : Hid (Bk (wr.setCells (w.heap.size + 1) 0 VZ) (w.heap.size + 1) 36 VZ.toArray) := Lib.hid (by
        have hE := Bk.sets VZ 0 _ _ HK.out.hd
        rw [puts_whole VZ.toArray VZ (by simp)] at hE
        exact hE)
      go_wp2_with (first | ((with_reducible (change bodyPost _ _ _ _ _ _)); refine bodyPost_ret (v := .tuple #[.agg VZ.toArray, .bool false]) (results_cell2 rfl rfl rfl (run_loadVar_mid _ (w.heap.size + 1) 0 36 _ _ HE5.out.range Tryd.underlying36 rfl HIZ.out)) rfl ⟨by rw [HE.out.1, HE.out.2], below_sets _ (by omega) 0 _ HK.out.2.1⟩) | (refine Great.wpList_readTo rfl _ rfl (.agg VZ.toArray) (run_execN rfl (by rw [List.map_toArray]; rfl) (HBZ.out _)) ?_) | (refine wpList_store_mid rfl 36 _ _ rfl (w.heap.size + 1) 0 VZ.toArray rfl rfl ht (by simpa using HIZ.out) HOZ.out ?_))
set_option maxRecDepth 100000 in
set_option maxHeartbeats 8000000 in
theorem rsix_any (v : Value) (l : Kv) (x : List UInt8) (w : World) (hR : Rs w v l) (hl : okPs l) (hn : l.length ≤ 1000) (hx : x.length = 4) :
    Calls Tryd.prog 27 #[v, .agg (bu x).toArray] w fun e w' => e = .returned (.tuple #[.agg (bu (sixA l x)).toArray, .bool (sixI l x)]) ∧ Below w.heap.size w w' := by
  obtain ⟨VZ, hVZ⟩ : ∃ VZ, VZ = bu (List.replicate 16 0) := ⟨_, rfl⟩
  have HLZ : Hid (VZ.length = 16) := Lib.hid (by rw [hVZ, bu_len, List.length_replicate])
  have HIZ : Hid ((Tryd.prog.info? 23).map (·.size) = some VZ.length) := Lib.hid (by rw [hVZ]; kernel_rfl)
  have HOZ : Hid (VZ.toArray.all (·.oneCell') = true) := Lib.hid (by rw [hVZ]; exact bu_one _)
  have HBZ : Hid (∀ W, (Instr.build 23 #[]).run Tryd.prog W = .ok (.agg VZ.toArray) W) := Lib.hid (by intro W; rw [hVZ]; kernel_rfl)
  have hz : ([.int .u8 0, .int .u8 0, .int .u8 0, .int .u8 0, .int .u8 0, .int .u8 0, .int .u8 0, .int .u8 0, .int .u8 0, .int .u8 0, .int .u8 0, .int .u8 0, .int .u8 0, .int .u8 0, .int .u8 0, .int .u8 0] : List Value).toArray = VZ.toArray := by rw [hVZ]; rfl
  have HIX : Hid ((Tryd.prog.info? 36).map (·.size) = some (bu x).length) := Lib.hid (Tryd.infoU4 _ hx)
  have HNo : Hid (lk l x = none → bu (sixA l x) = VZ ∧ sixI l x = false) := Lib.hid (fun h => by
    unfold sixA sixI lkv
    rw [h, hVZ]
    exact ⟨rfl, rfl⟩)
  have HYe : Hid (∀ a, lk l x = some a → sixA l x = a ∧ sixI l x = true) := Lib.hid (fun a h => by
    unfold sixA sixI lkv
    rw [h]
    exact ⟨rfl, rfl⟩)
  have HR : Hid (∀ W, Below w.heap.size w W → Rs W v l) := Lib.hid (fun W hW => hR.below hW)
  have HL := Lib.hid hl
  have HQ := Lib.hid (fun (q : List UInt8) (hq : q.length = 4) W => equ4 q x hq hx W)
  have HK2 := Lib.hid (((Kp.start w).new 36 (bu x)).new 23 VZ)
  have e1 : (w.alloc (.cells (bu x).toArray 36)).heap.size = w.heap.size + 1 := by simp
  rw [e1] at HK2
  obtain ⟨ao, cap, rfl, _, _⟩ := hR.shape
  clear hVZ hR hl
  generalize sixA l x = FA at *
  generalize sixI l x = FI at *
  generalize hX : bu x = X at *
  clear hX
  go_enter Tryd.func27, Tryd.ntmps27
  go_upto_region 1 with (fail)
  clear hz e1
  generalize (w.alloc (.cells X.toArray 36)).alloc (.cells VZ.toArray 23) = w2 at *
  go_wp2_with fail
  go_loopw [6] (fun i wr => ∃ k : Nat, k ≤ l.length ∧ i = .int .i64 k ∧ Kp w w.heap.size [(w.heap.size + 1, 23, VZ), (w.heap.size, 36, X)] wr ∧ Hid (lk l x = lk (l.drop k) x)) (fun i _ => l.length - (intOf i).toNat)
  case atStart => exact ⟨0, Nat.zero_le _, rfl, HK2.out, Lib.hid rfl⟩
  case round =>
    obtain ⟨k, hk, rfl, hkp, HG⟩ := hrel
    have HK := Lib.hid hkp
    clear hkp HK2
    by_cases hlt : k < l.length
    · obtain ⟨_, _, hsh, _, hS⟩ := (HR.out _ HK.out.2.1).shape
      obtain ⟨b2, o2, e2, hbl, hr⟩ := hS k hlt
      obtain rfl : ao = some ⟨b2, o2, none⟩ := by
        cases hsh
        exact e2
      have HOk := Lib.hid (okPs_at HL.out k hlt)
      have hre := range_el hr HL.out k hlt
      have HRE := Lib.hid hre
      have HBL := Lib.hid hbl
      have hqm : wr.rangeAt b2 (o2 + k * 20) (bu l[k].1) := range_f hre
      have HQH : Hid (wr.rangeAt b2 (o2 + k * 20 + 4) (bu l[k].2)) := Lib.hid (range_x hre HOk.out)
      have HIM : Hid ((Tryd.prog.info? 36).map (·.size) = some (bu l[k].1).length) := Lib.hid (Tryd.infoU4 _ HOk.out.1)
      have HIH : Hid ((Tryd.prog.info? 23).map (·.size) = some (bu l[k].2).length) := Lib.hid (Tryd.infoU6 _ HOk.out.2)
      have HOH : Hid ((bu l[k].2).toArray.all (·.oneCell') = true) := Lib.hid (bu_one _)
      have HLH : Hid ((bu l[k].2).length = 16) := Lib.hid (by rw [bu_len]; exact HOk.out.2)
      have hqe := HQ.out _ HOk.out.1
      have HH := Lib.hid (fun h => lk_hit hlt (x := x) h)
      have HM := Lib.hid (fun h => lk_miss hlt (x := x) h)
      have hk2 : (k : Int) < (l.length : Int) := by omega
      clear hr hsh hS hbl hre e2 HRE
      generalize bu l[k].1 = QM at *
      go_wp2_with fail
      refine wp_region_noPanic ?_
      refine wp_region_held_drew (S := fun W => Kp w w.heap.size [(w.heap.size + 1, 23, VZ), (w.heap.size, 36, X)] W ∧ Below wr.heap.size wr W ∧ W.rangeAt w.heap.size 0 X ∧ W.rangeAt b2 (o2 + k * 20) QM) (by kernel_rfl) (⟨HK.out.drew, (Below.refl _ wr).drew, HK.out.tl.hd.range, hqm⟩) (fun hHeld => ?_)
      refine wpAnyH_take (i := 0) (oi := { dst := some 13, op := Op.move (Operand.tmp 0), type := 40, pos := "ref.go:75", after := #[], guard := none }) (v := ?_) rfl (by kernel_rfl) (by kernel_rfl) (by kernel_rfl) (fun _ _ _ h => h) (Or.inl ⟨by rfl, ?_⟩) (by assumption) ?_
      rotate_left
      · (intro ww hSw; (try dsimp only at hSw); go_simp; try with_reducible rfl)
      (try simp only [Act.put, List.setIfInBounds_toArray, List.set_cons_zero, List.set_cons_succ])
      refine wpAnyH_take (i := 1) (oi := { dst := some 14, op := Op.move (Operand.tmp 6), type := 3, pos := "ref.go:75", after := #[], guard := none }) (v := ?_) rfl (by kernel_rfl) (by kernel_rfl) (by kernel_rfl) (fun _ _ _ h => h) (Or.inl ⟨by rfl, ?_⟩) (by assumption) ?_
      rotate_left
      · (intro ww hSw; (try dsimp only at hSw); go_simp; try with_reducible rfl)
      (try simp only [Act.put, List.setIfInBounds_toArray, List.set_cons_zero, List.set_cons_succ])
      refine wpAnyH_take (i := 2) (oi := { dst := some 15, op := Op.indexAddr 40 (Operand.tmp 13) (Operand.tmp 14), type := 0, pos := "ref.go:75", after := #[{ on := 0, ground := Ground.data }, { on := 1, ground := Ground.data }], guard := none }) (v := ?_) rfl (by kernel_rfl) (by kernel_rfl) (by kernel_rfl) (fun _ _ _ h => h) (Or.inl ⟨by rfl, ?_⟩) (by assumption) ?_
      rotate_left
      · (intro ww hSw; (try dsimp only at hSw); go_simp; try with_reducible rfl)
      (try simp only [Act.put, List.setIfInBounds_toArray, List.set_cons_zero, List.set_cons_succ])
      refine wpAnyH_take (i := 3) (oi := { dst := some 16, op := Op.fieldAddr 38 (Operand.tmp 15) 0, type := 0, pos := "ref.go:75", after := #[{ on := 2, ground := Ground.data }], guard := none }) (v := ?_) rfl (by kernel_rfl) (by kernel_rfl) (by kernel_rfl) (fun _ _ _ h => h) (Or.inl ⟨by rfl, ?_⟩) (by assumption) ?_
      rotate_left
      · (intro ww hSw; (try dsimp only at hSw); go_simp; try with_reducible rfl)
      (try simp only [Act.put, List.setIfInBounds_toArray, List.set_cons_zero, List.set_cons_succ])
      refine wpAnyH_take (i := 4) (oi := { dst := some 17, op := Op.load 36 (Operand.tmp 16), type := 36, pos := "ref.go:75", after := #[{ on := 3, ground := Ground.data }], guard := none }) (v := .agg (QM).toArray) rfl (by kernel_rfl) (by kernel_rfl) (by kernel_rfl) (fun _ _ _ h => h) (yieldsIf_load_mid (by rfl) _ _ rfl (b2) (o2 + k * 20) rfl (QM) _ (fun ww hSw => hSw.2.2.2) Tryd.underlying36 rfl HIM.out) (by assumption) ?_
      (try simp only [Act.put, List.setIfInBounds_toArray, List.set_cons_zero, List.set_cons_succ])
      refine wpAnyH_take (i := 5) (oi := { dst := some 18, op := Op.load 36 (Operand.tmp 3), type := 36, pos := "ref.go:75", after := #[], guard := none }) (v := .agg (X).toArray) rfl (by kernel_rfl) (by kernel_rfl) (by kernel_rfl) (fun _ _ _ h => h) (yieldsIf_load_mid (by rfl) _ _ rfl (w.heap.size) 0 rfl (X) _ (fun ww hSw => hSw.2.2.1) Tryd.underlying36 rfl HIX.out) (by assumption) ?_
      (try simp only [Act.put, List.setIfInBounds_toArray, List.set_cons_zero, List.set_cons_succ])
      refine wpAnyH_take (i := 6) (oi := { dst := some 19, op := Op.binOp BinOp.eql 36 (Operand.tmp 17) (Operand.tmp 18) 36, type := 4, pos := "ref.go:75", after := #[{ on := 4, ground := Ground.data }, { on := 5, ground := Ground.data }], guard := none }) (v := .bool (decide (l[k].1 = x))) rfl (by kernel_rfl) (by kernel_rfl) (by kernel_rfl) (fun _ _ _ h => h) (Or.inl ⟨by rfl, (by intro ww hSw; go_simp)⟩) (by assumption) ?_
      (try simp only [Act.put, List.setIfInBounds_toArray, List.set_cons_zero, List.set_cons_succ])
      refine wpAnyH_done (by kernel_rfl) ?_ _
      refine NoPanic.normal ?_
      have HK5 := Lib.hid hHeld.1
      have HW5 := Lib.hid hHeld.2.1
      clear hHeld hqe hqm
      by_cases he : l[k].1 = x
      · have hd : decide (l[k].1 = x) = true := by simp [he]
        have HE := Lib.hid (HYe.out _ (HG.out.trans (HH.out he)))
        have HQ5 := Lib.hid (range_below HQH.out HBL.out HW5.out)
        clear HH HM he
        rw [hd]
        clear hd
        have HQF : Hid (bu FA = bu l[k].2) := Lib.hid (by rw [HE.out.1])
        generalize bu l[k].2 = QH at *
        generalize l[k] = q at *
        have hr5 := HQ5.out
        have ht := HK5.out.hd.there QH.toArray.size (by have := HLH.out; have := HLZ.out; simp; omega)
        have HE5 : Hid (Bk (wr.drew.setCells (w.heap.size + 1) 0 QH) (w.heap.size + 1) 23 QH.toArray) := Lib.hid (by
          have hE := Bk.sets QH 0 _ _ HK5.out.hd
          rw [puts_whole VZ.toArray QH (by have := HLH.out; have := HLZ.out; simp; omega)] at hE
          exact hE)
        go_wp2_with (first | ((with_reducible (change bodyPost _ _ _ _ _ _)); refine bodyPost_ret (v := .tuple #[.agg QH.toArray, .bool true]) (results_cell2 rfl rfl rfl (run_loadVar_mid _ (w.heap.size + 1) 0 23 _ _ HE5.out.range Tryd.underlying23 rfl HIH.out)) rfl ⟨by rw [HE.out.2, HQF.out], below_sets _ (by omega) 0 _ HK5.out.2.1⟩) | (refine wpList_load_mid rfl 23 _ rfl b2 (o2 + k * 20 + 4) rfl QH _ hr5 Tryd.underlying23 rfl HIH.out ?_) | (refine wpList_store_mid rfl 23 _ _ rfl (w.heap.size + 1) 0 QH.toArray rfl rfl ht (by simpa using HIH.out) HOH.out ?_))
      · have hd : decide (l[k].1 = x) = false := by simpa using he
        have HE := Lib.hid (HG.out.trans (HM.out he))
        clear HH HM he HQH HG
        rw [hd]
        clear hd
        go_wp2_with fail
        go_roundw
        case rel => exact ⟨k + 1, hlt, by go_num, HK5.out, Lib.hid HE.out⟩
        case measure => simp [intOf]; omega
    · obtain rfl : k = l.length := by omega
      have HE := Lib.hid (HNo.out (HG.out.trans (by rw [List.drop_length]; rfl)))
      clear HG
      have ht := HK.out.hd.there VZ.toArray.size (by simp)
      have HE5 : Hid (Bk (wr.setCells (w.heap.size + 1) 0 VZ) (w.heap.size + 1) 23 VZ.toArray) := Lib.hid (by
        have hE := Bk.sets VZ 0 _ _ HK.out.hd
        rw [puts_whole VZ.toArray VZ (by simp)] at hE
        exact hE)
      go_wp2_with (first | ((with_reducible (change bodyPost _ _ _ _ _ _)); refine bodyPost_ret (v := .tuple #[.agg VZ.toArray, .bool false]) (results_cell2 rfl rfl rfl (run_loadVar_mid _ (w.heap.size + 1) 0 23 _ _ HE5.out.range Tryd.underlying23 rfl HIZ.out)) rfl ⟨by rw [HE.out.1, HE.out.2], below_sets _ (by omega) 0 _ HK.out.2.1⟩) | (refine Great.wpList_readTo rfl _ rfl (.agg VZ.toArray) (run_execN rfl (by rw [List.map_toArray]; rfl) (HBZ.out _)) ?_) | (refine wpList_store_mid rfl 23 _ _ rfl (w.heap.size + 1) 0 VZ.toArray rfl rfl ht (by simpa using HIZ.out) HOZ.out ?_))

theorem shr_hit {l : Kv} {p : List UInt8 × List UInt8} (k : Nat) (h : k < l.length) (he : l[k].1 = p.1 ∨ l[k].2 = p.2) : shr l p = true := by
  cases hs : shr l p
  · have := shr_no hs _ (List.getElem_mem h)
    rcases he with he | he
    · exact absurd he this.1
    · exact absurd he this.2
  · rfl
theorem shr_none {l : Kv} {p : List UInt8 × List UInt8} (h : ∀ x ∈ l, x.1 ≠ p.1 ∧ x.2 ≠ p.2) : shr l p = false := by
  unfold shr sixI fourI
  have h1 : lk l p.1 = none := lk_none.2 (fun x hx => (h x hx).1)
  have h2 : lk (sw l) p.2 = none := lk_none.2 (fun x hx => by
    obtain ⟨q, hq, rfl⟩ := List.mem_map.1 hx
    exact (h q hq).2)
  rw [h1, h2]
  rfl
theorem mem_take_snoc {l : Kv} {k : Nat} (h : k < l.length) {Q : List UInt8 × List UInt8 → Prop} (h0 : ∀ x ∈ l.take k, Q x) (h1 : Q l[k]) : ∀ x ∈ l.take (k + 1), Q x := by
  intro x hx
  rw [take_snoc' k h] at hx
  rcases List.mem_append.1 hx with hx | hx
  · exact h0 x hx
  · rw [List.mem_singleton.1 hx]; exact h1
/-- A list of one's own. -/
def Od (w : World) (v : Value) (l : Kv) : Prop := w.ownsRow 0 38 20 v l.length (prV l)
theorem Od.rs {w : World} {v : Value} {l : Kv} (h : Od w v l) : Rs w v l := own_rs h
theorem Od.below {w w' : World} {v : Value} {l : Kv} (h : Od w v l) (hb : Below w.heap.size w w') : Od w' v l := ow_below h hb
theorem Od.other {w w' : World} {v : Value} {l m : Kv} {b : Nat} (h : Od w v l) (hb : Tb w b m) (g : w.grownBy w' (some b)) : Od w' v l := by
  obtain ⟨_, _, _, _, h1, _⟩ := hb
  exact ow_other h h1 g
set_option maxRecDepth 100000 in
set_option maxHeartbeats 8000000 in
theorem radd_any (v : Value) (l : Kv) (p : List UInt8 × List UInt8) (w : World) (hO : Od w v l) (hl : okPs l) (hn : l.length ≤ 16) (hp : okPr p) :
    Calls Tryd.prog 23 #[v, .agg (prv p).toArray] w fun e w' => ∃ u, e = .returned (.tuple #[u, .int .i64 (addE l p)]) ∧ Od w' u (addL l p) ∧ Below w.heap.size w w' := by
  have HO := Lib.hid hO
  have HP := Lib.hid hp
  have HL := Lib.hid hl
  have CM4 : Hid (∀ W, Calls Tryd.prog 44 #[.agg (bu p.1).toArray] W fun e w' => e = .returned (.bool (mart4 p.1)) ∧ Below W.heap.size W w') := Lib.hid (fun W => by have h := rmartian4_any p.1 hp.1 W; rwa [mars_four] at h)
  have CM6 : Hid (∀ W, Calls Tryd.prog 45 #[.agg (bu p.2).toArray] W fun e w' => e = .returned (.bool (mart6 p.2)) ∧ Below W.heap.size W w') := Lib.hid (fun W => rmartian6_any p.2 hp.2 W)
  have HI_VF : Hid ((Tryd.prog.info? 36).map (·.size) = some (bu p.1).length) := Lib.hid (Tryd.infoU4 _ (hp.1))
  have HO_VF : Hid ((bu p.1).toArray.all (·.oneCell') = true) := Lib.hid (bu_one _)
  have HL_VF : Hid ((bu p.1).length = 4) := Lib.hid (by rw [bu_len]; exact hp.1)
  have HI_VX : Hid ((Tryd.prog.info? 23).map (·.size) = some (bu p.2).length) := Lib.hid (Tryd.infoU6 _ (hp.2))
  have HO_VX : Hid ((bu p.2).toArray.all (·.oneCell') = true) := Lib.hid (bu_one _)
  have HL_VX : Hid ((bu p.2).length = 16) := Lib.hid (by rw [bu_len]; exact hp.2)
  have HI_PV : Hid ((Tryd.prog.info? 38).map (·.size) = some (prv p).length) := Lib.hid (Tryd.infoP _ (hp))
  have HO_PV : Hid ((prv p).toArray.all (·.oneCell') = true) := Lib.hid (prv_ones _)
  have HL_PV : Hid ((prv p).length = 20) := Lib.hid (prv_len (hp))
  have HK1 := Lib.hid ((Kp.start w).new 38 (prv p))
  have HFr : Hid (∀ W, Kp w w.heap.size [(w.heap.size, 38, prv p)] W → W.rangeAt w.heap.size 0 (bu p.1)) := Lib.hid (fun W k => range_f k.hd.range)
  have HXr : Hid (∀ W, Kp w w.heap.size [(w.heap.size, 38, prv p)] W → W.rangeAt w.heap.size (0 + 4) (bu p.2)) := Lib.hid (fun W k => range_x k.hd.range HP.out)
  have HBS := Lib.hid (bslice_one p hp)
  have hE : addE l p = if (mart4 p.1 || mart6 p.2) = true then 13 else if shr l p = true then 5 else if 16 ≤ l.length then 6 else 0 := rfl
  have HE := Lib.hid hE
  have HL13 : Hid (addE l p ≠ 0 → addL l p = l) := Lib.hid (fun h => by unfold addL; rw [if_neg h])
  have HL0 : Hid (addE l p = 0 → addL l p = l ++ [p]) := Lib.hid (fun h => by unfold addL; rw [if_pos h])
  have HShy : Hid (∀ k (h : k < l.length), l[k].1 = p.1 ∨ l[k].2 = p.2 → shr l p = true) := Lib.hid (fun k h => shr_hit k h)
  have HShn : Hid ((∀ x ∈ l, x.1 ≠ p.1 ∧ x.2 ≠ p.2) → shr l p = false) := Lib.hid shr_none
  have HOW : Hid (∀ W, Below w.heap.size w W → Od W v l) := Lib.hid (fun W hW => hO.below hW)
  have HE4 : Hid (∀ q : List UInt8, q.length = 4 → ∀ W, (binOp .eql 36 (.agg (bu q).toArray) (.agg (bu p.1).toArray)).run Tryd.prog W = .ok (.bool (decide (q = p.1))) W) := Lib.hid (fun q hq W => equ4 q p.1 hq hp.1 W)
  have HE6 : Hid (∀ q : List UInt8, q.length = 16 → ∀ W, (binOp .eql 23 (.agg (bu q).toArray) (.agg (bu p.2).toArray)).run Tryd.prog W = .ok (.bool (decide (q = p.2))) W) := Lib.hid (fun q hq W => equ6 q p.2 hq hp.2 W)
  obtain ⟨ao, cap, rfl, _⟩ := own_shape hO
  clear hE hO hp hl
  generalize addE l p = E at *
  generalize addL l p = L2 at *
  generalize mart4 p.1 = M4 at *
  generalize mart6 p.2 = M6 at *
  generalize shr l p = SH at *
  generalize bu p.1 = VF at *
  generalize bu p.2 = VX at *
  generalize hPV : prv p = PV at *
  have HPV := Lib.hid hPV
  clear hPV
  generalize hw1 : w.alloc (.cells PV.toArray 38) = w1 at *
  have hr0 := HFr.out _ HK1.out
  go_enter Tryd.func23, Tryd.ntmps23
  go_upto_region 1 with (fail)
  clear hw1
  go_wp2_with (((with_reducible (change wpList _ _ _ _ _ _)); ((refine wpList_load_mid rfl 36 _ rfl (w.heap.size) (0) rfl (VF) _ hr0 Tryd.underlying36 rfl HI_VF.out ?_))))
  clear hr0
  refine (CM4.out _).mono ?_
  rintro e w2 ⟨rfl, bb⟩
  have HK2 := Lib.hid (HK1.out.below bb (Nat.le_refl _))
  clear bb HK1
  cases M4
  rotate_left
  · have hE := HE.out
    simp only [Bool.true_or, if_true] at hE
    subst hE
    have HF : Hid (L2 = l) := Lib.hid (HL13.out (by decide))
    go_wp2_with fail
    go_ret2
    exact ⟨_, rfl, by rw [HF.out]; exact HOW.out _ HK2.out.2.1, HK2.out.2.1⟩
  have hr0 := HXr.out _ HK2.out
  go_wp2_with (((with_reducible (change wpList _ _ _ _ _ _)); ((refine wpList_load_if (by rfl) 23 _ rfl (w.heap.size) (0 + 4) rfl (VX) _ hr0 Tryd.underlying23 rfl HI_VX.out ?_))))
  clear hr0
  refine (CM6.out _).mono ?_
  rintro e w3 ⟨rfl, bb⟩
  have HK3 := Lib.hid (HK2.out.below bb (Nat.le_refl _))
  clear bb HK2
  cases M6
  rotate_left
  · have hE := HE.out
    simp only [Bool.false_or, if_true] at hE
    subst hE
    have HF : Hid (L2 = l) := Lib.hid (HL13.out (by decide))
    go_wp2_with fail
    go_ret2
    exact ⟨_, rfl, by rw [HF.out]; exact HOW.out _ HK3.out.2.1, HK3.out.2.1⟩
  go_wp2_with fail
  go_loopw [6] (fun i wr => ∃ k : Nat, k ≤ l.length ∧ i = .int .i64 k ∧ Kp w w.heap.size [(w.heap.size, 38, PV)] wr ∧ Hid (∀ x ∈ l.take k, x.1 ≠ p.1 ∧ x.2 ≠ p.2)) (fun i _ => l.length - (intOf i).toNat)
  case atStart => exact ⟨0, Nat.zero_le _, rfl, HK3.out, Lib.hid (fun x hx => by cases hx)⟩
  case round =>
    obtain ⟨k, hk, rfl, hkp, HG⟩ := hrel
    have HK := Lib.hid hkp
    clear hkp HK3
    by_cases hlt : k < l.length
    · obtain ⟨_, _, hsh, _, hS⟩ := (HOW.out _ HK.out.2.1).rs.shape
      obtain ⟨b2, o2, e2, hbl, hr⟩ := hS k hlt
      obtain rfl : ao = some ⟨b2, o2, none⟩ := by
        cases hsh
        exact e2
      have HOk := Lib.hid (okPs_at HL.out k hlt)
      have hre := range_el hr HL.out k hlt
      have hqf : wr.rangeAt b2 (o2 + k * 20) (bu l[k].1) := range_f hre
      have hqx : wr.rangeAt b2 (o2 + k * 20 + 4) (bu l[k].2) := range_x hre HOk.out
      have HIQF : Hid ((Tryd.prog.info? 36).map (·.size) = some (bu l[k].1).length) := Lib.hid (Tryd.infoU4 _ HOk.out.1)
      have HIQX : Hid ((Tryd.prog.info? 23).map (·.size) = some (bu l[k].2).length) := Lib.hid (Tryd.infoU6 _ HOk.out.2)
      have hq4 := HE4.out _ HOk.out.1
      have hq6 := HE6.out _ HOk.out.2
      have HHit := Lib.hid (HShy.out k hlt)
      have HMiss := Lib.hid (fun h => mem_take_snoc hlt (Q := fun x => x.1 ≠ p.1 ∧ x.2 ≠ p.2) HG.out h)
      have hk2 : (k : Int) < (l.length : Int) := by omega
      clear hr hsh hS hbl hre e2
      generalize bu l[k].1 = QF at *
      generalize bu l[k].2 = QX at *
      go_wp2_with fail
      by_cases h4 : l[k].1 = p.1
      · have hd4 : decide (l[k].1 = p.1) = true := by simp [h4]
        have HS : Hid (SH = true) := Lib.hid (HHit.out (.inl h4))
        refine wp_region_noPanic ?_
        refine wp_region_held_drew (S := fun W => Kp w w.heap.size [(w.heap.size, 38, PV)] W ∧ W.rangeAt b2 (o2 + k * 20) QF ∧ W.rangeAt b2 (o2 + k * 20 + 4) QX ∧ W.rangeAt w.heap.size 0 VF ∧ W.rangeAt w.heap.size (0 + 4) VX ∧ Below wr.heap.size wr W) (by kernel_rfl) (⟨HK.out.drew, hqf, hqx, HFr.out _ HK.out.drew, HXr.out _ HK.out.drew, (Below.refl _ wr).drew⟩) (fun hHeld => ?_)
        refine wpAnyH_take (i := 0) (oi := { dst := some 23, op := Op.move (Operand.tmp 0), type := 40, pos := "ref.go:23", after := #[], guard := none }) (v := ?_) rfl (by kernel_rfl) (by kernel_rfl) (by kernel_rfl) (fun _ _ _ h => h) (Or.inl ⟨by rfl, ?_⟩) (by assumption) ?_
        rotate_left
        · (intro ww hSw; (try dsimp only at hSw); go_simp; try with_reducible rfl)
        (try simp only [Act.put, List.setIfInBounds_toArray, List.set_cons_zero, List.set_cons_succ])
        refine wpAnyH_take (i := 1) (oi := { dst := some 24, op := Op.move (Operand.tmp 6), type := 3, pos := "ref.go:23", after := #[], guard := none }) (v := ?_) rfl (by kernel_rfl) (by kernel_rfl) (by kernel_rfl) (fun _ _ _ h => h) (Or.inl ⟨by rfl, ?_⟩) (by assumption) ?_
        rotate_left
        · (intro ww hSw; (try dsimp only at hSw); go_simp; try with_reducible rfl)
        (try simp only [Act.put, List.setIfInBounds_toArray, List.set_cons_zero, List.set_cons_succ])
        refine wpAnyH_take (i := 2) (oi := { dst := some 25, op := Op.indexAddr 40 (Operand.tmp 23) (Operand.tmp 24), type := 0, pos := "ref.go:23", after := #[{ on := 0, ground := Ground.data }, { on := 1, ground := Ground.data }], guard := none }) (v := ?_) rfl (by kernel_rfl) (by kernel_rfl) (by kernel_rfl) (fun _ _ _ h => h) (Or.inl ⟨by rfl, ?_⟩) (by assumption) ?_
        rotate_left
        · (intro ww hSw; (try dsimp only at hSw); go_simp; try with_reducible rfl)
        (try simp only [Act.put, List.setIfInBounds_toArray, List.set_cons_zero, List.set_cons_succ])
        refine wpAnyH_take (i := 3) (oi := { dst := some 26, op := Op.fieldAddr 38 (Operand.tmp 25) 0, type := 0, pos := "ref.go:23", after := #[{ on := 2, ground := Ground.data }], guard := none }) (v := ?_) rfl (by kernel_rfl) (by kernel_rfl) (by kernel_rfl) (fun _ _ _ h => h) (Or.inl ⟨by rfl, ?_⟩) (by assumption) ?_
        rotate_left
        · (intro ww hSw; (try dsimp only at hSw); go_simp; try with_reducible rfl)
        (try simp only [Act.put, List.setIfInBounds_toArray, List.set_cons_zero, List.set_cons_succ])
        refine wpAnyH_take (i := 4) (oi := { dst := some 27, op := Op.load 36 (Operand.tmp 26), type := 36, pos := "ref.go:23", after := #[{ on := 3, ground := Ground.data }], guard := none }) (v := .agg (QF).toArray) rfl (by kernel_rfl) (by kernel_rfl) (by kernel_rfl) (fun _ _ _ h => h) (yieldsIf_load_mid (by rfl) _ _ rfl (b2) (o2 + k * 20) rfl (QF) _ (fun ww hSw => hSw.2.1) Tryd.underlying36 rfl HIQF.out) (by assumption) ?_
        (try simp only [Act.put, List.setIfInBounds_toArray, List.set_cons_zero, List.set_cons_succ])
        refine wpAnyH_take (i := 5) (oi := { dst := some 28, op := Op.fieldAddr 38 (Operand.tmp 3) 0, type := 0, pos := "ref.go:23", after := #[], guard := none }) (v := ?_) rfl (by kernel_rfl) (by kernel_rfl) (by kernel_rfl) (fun _ _ _ h => h) (Or.inl ⟨by rfl, ?_⟩) (by assumption) ?_
        rotate_left
        · (intro ww hSw; (try dsimp only at hSw); go_simp; try with_reducible rfl)
        (try simp only [Act.put, List.setIfInBounds_toArray, List.set_cons_zero, List.set_cons_succ])
        refine wpAnyH_take (i := 6) (oi := { dst := some 29, op := Op.load 36 (Operand.tmp 28), type := 36, pos := "ref.go:23", after := #[{ on := 5, ground := Ground.data }], guard := none }) (v := .agg (VF).toArray) rfl (by kernel_rfl) (by kernel_rfl) (by kernel_rfl) (fun _ _ _ h => h) (yieldsIf_load_mid (by rfl) _ _ rfl (w.heap.size) 0 rfl (VF) _ (fun ww hSw => hSw.2.2.2.1) Tryd.underlying36 rfl HI_VF.out) (by assumption) ?_
        (try simp only [Act.put, List.setIfInBounds_toArray, List.set_cons_zero, List.set_cons_succ])
        refine wpAnyH_take (i := 7) (oi := { dst := some 30, op := Op.binOp BinOp.eql 36 (Operand.tmp 27) (Operand.tmp 29) 36, type := 4, pos := "ref.go:23", after := #[{ on := 4, ground := Ground.data }, { on := 6, ground := Ground.data }], guard := none }) (v := .bool true) rfl (by kernel_rfl) (by kernel_rfl) (by kernel_rfl) (fun _ _ _ h => h) (Or.inl ⟨by rfl, (by intro ww hSw; go_simp)⟩) (by assumption) ?_
        (try simp only [Act.put, List.setIfInBounds_toArray, List.set_cons_zero, List.set_cons_succ])
        refine wpAnyH_take (i := 8) (oi := { dst := some 31, op := Op.move (Operand.tmp 30), type := 4, pos := "ref.go:23", after := #[{ on := 7, ground := Ground.data }], guard := none }) (v := ?_) rfl (by kernel_rfl) (by kernel_rfl) (by kernel_rfl) (fun _ _ _ h => h) (Or.inl ⟨by rfl, ?_⟩) (by assumption) ?_
        rotate_left
        · (intro ww hSw; (try dsimp only at hSw); go_simp; try with_reducible rfl)
        (try simp only [Act.put, List.setIfInBounds_toArray, List.set_cons_zero, List.set_cons_succ])
        refine wpAnyH_take (i := 9) (oi := { dst := some 32, op := Op.move (Operand.tmp 0), type := 40, pos := "ref.go:23", after := #[{ on := 8, ground := Ground.guard }], guard := some (8, false) }) (v := undef) rfl (by kernel_rfl) (by kernel_rfl) (by kernel_rfl) (fun _ _ _ h => h) (Or.inr ⟨by rfl, rfl⟩) (by assumption) ?_
        (try simp only [Act.put, List.setIfInBounds_toArray, List.set_cons_zero, List.set_cons_succ])
        refine wpAnyH_take (i := 10) (oi := { dst := some 33, op := Op.move (Operand.tmp 6), type := 3, pos := "ref.go:23", after := #[{ on := 8, ground := Ground.guard }], guard := some (8, false) }) (v := undef) rfl (by kernel_rfl) (by kernel_rfl) (by kernel_rfl) (fun _ _ _ h => h) (Or.inr ⟨by rfl, rfl⟩) (by assumption) ?_
        (try simp only [Act.put, List.setIfInBounds_toArray, List.set_cons_zero, List.set_cons_succ])
        refine wpAnyH_take (i := 11) (oi := { dst := some 34, op := Op.indexAddr 40 (Operand.tmp 32) (Operand.tmp 33), type := 0, pos := "ref.go:23", after := #[{ on := 9, ground := Ground.data }, { on := 10, ground := Ground.data }, { on := 8, ground := Ground.guard }], guard := some (8, false) }) (v := undef) rfl (by kernel_rfl) (by kernel_rfl) (by kernel_rfl) (fun _ _ _ h => h) (Or.inr ⟨by rfl, rfl⟩) (by assumption) ?_
        (try simp only [Act.put, List.setIfInBounds_toArray, List.set_cons_zero, List.set_cons_succ])
        refine wpAnyH_take (i := 12) (oi := { dst := some 35, op := Op.fieldAddr 38 (Operand.tmp 34) 1, type := 0, pos := "ref.go:23", after := #[{ on := 11, ground := Ground.data }, { on := 8, ground := Ground.guard }], guard := some (8, false) }) (v := undef) rfl (by kernel_rfl) (by kernel_rfl) (by kernel_rfl) (fun _ _ _ h => h) (Or.inr ⟨by rfl, rfl⟩) (by assumption) ?_
        (try simp only [Act.put, List.setIfInBounds_toArray, List.set_cons_zero, List.set_cons_succ])
        refine wpAnyH_take (i := 13) (oi := { dst := some 36, op := Op.load 23 (Operand.tmp 35), type := 23, pos := "ref.go:23", after := #[{ on := 12, ground := Ground.data }, { on := 8, ground := Ground.guard }], guard := some (8, false) }) (v := undef) rfl (by kernel_rfl) (by kernel_rfl) (by kernel_rfl) (fun _ _ _ h => h) (Or.inr ⟨by rfl, rfl⟩) (by assumption) ?_
        (try simp only [Act.put, List.setIfInBounds_toArray, List.set_cons_zero, List.set_cons_succ])
        refine wpAnyH_take (i := 14) (oi := { dst := some 37, op := Op.fieldAddr 38 (Operand.tmp 3) 1, type := 0, pos := "ref.go:23", after := #[{ on := 8, ground := Ground.guard }], guard := some (8, false) }) (v := undef) rfl (by kernel_rfl) (by kernel_rfl) (by kernel_rfl) (fun _ _ _ h => h) (Or.inr ⟨by rfl, rfl⟩) (by assumption) ?_
        (try simp only [Act.put, List.setIfInBounds_toArray, List.set_cons_zero, List.set_cons_succ])
        refine wpAnyH_take (i := 15) (oi := { dst := some 38, op := Op.load 23 (Operand.tmp 37), type := 23, pos := "ref.go:23", after := #[{ on := 14, ground := Ground.data }, { on := 8, ground := Ground.guard }], guard := some (8, false) }) (v := undef) rfl (by kernel_rfl) (by kernel_rfl) (by kernel_rfl) (fun _ _ _ h => h) (Or.inr ⟨by rfl, rfl⟩) (by assumption) ?_
        (try simp only [Act.put, List.setIfInBounds_toArray, List.set_cons_zero, List.set_cons_succ])
        refine wpAnyH_take (i := 16) (oi := { dst := some 39, op := Op.binOp BinOp.eql 23 (Operand.tmp 36) (Operand.tmp 38) 23, type := 4, pos := "ref.go:23", after := #[{ on := 13, ground := Ground.data }, { on := 15, ground := Ground.data }, { on := 8, ground := Ground.guard }], guard := some (8, false) }) (v := undef) rfl (by kernel_rfl) (by kernel_rfl) (by kernel_rfl) (fun _ _ _ h => h) (Or.inr ⟨by rfl, rfl⟩) (by assumption) ?_
        (try simp only [Act.put, List.setIfInBounds_toArray, List.set_cons_zero, List.set_cons_succ])
        refine wpAnyH_take (i := 17) (oi := { dst := some 40, op := Op.pick (Operand.tmp 31) (Operand.const (Value.bool true)) (Operand.tmp 39), type := 4, pos := "ref.go:23", after := #[{ on := 8, ground := Ground.data }, { on := 16, ground := Ground.data }], guard := none }) (v := ?_) rfl (by kernel_rfl) (by kernel_rfl) (by kernel_rfl) (fun _ _ _ h => h) (Or.inl ⟨by rfl, ?_⟩) (by assumption) ?_
        rotate_left
        · (intro ww hSw; (try dsimp only at hSw); go_simp; try with_reducible rfl)
        (try simp only [Act.put, List.setIfInBounds_toArray, List.set_cons_zero, List.set_cons_succ])
        refine wpAnyH_done (by kernel_rfl) ?_ _
        refine NoPanic.normal ?_
        have HKE := Lib.hid hHeld.1
        clear hHeld hqf hqx hq4 hq6 hd4 h4 HHit HMiss
        have hE := HE.out
        rw [HS.out] at hE
        simp only [Bool.false_or, Bool.false_eq_true, if_false, if_true] at hE
        subst hE
        have HF : Hid (L2 = l) := Lib.hid (HL13.out (by decide))
        go_wp2_with fail
        go_ret2
        exact ⟨_, rfl, by rw [HF.out]; exact HOW.out _ HKE.out.2.1, HKE.out.2.1⟩
      · have hd4 : decide (l[k].1 = p.1) = false := by simpa using h4
        refine wp_region_noPanic ?_
        refine wp_region_held_drew (S := fun W => Kp w w.heap.size [(w.heap.size, 38, PV)] W ∧ W.rangeAt b2 (o2 + k * 20) QF ∧ W.rangeAt b2 (o2 + k * 20 + 4) QX ∧ W.rangeAt w.heap.size 0 VF ∧ W.rangeAt w.heap.size (0 + 4) VX ∧ Below wr.heap.size wr W) (by kernel_rfl) (⟨HK.out.drew, hqf, hqx, HFr.out _ HK.out.drew, HXr.out _ HK.out.drew, (Below.refl _ wr).drew⟩) (fun hHeld => ?_)
        refine wpAnyH_take (i := 0) (oi := { dst := some 23, op := Op.move (Operand.tmp 0), type := 40, pos := "ref.go:23", after := #[], guard := none }) (v := ?_) rfl (by kernel_rfl) (by kernel_rfl) (by kernel_rfl) (fun _ _ _ h => h) (Or.inl ⟨by rfl, ?_⟩) (by assumption) ?_
        rotate_left
        · (intro ww hSw; (try dsimp only at hSw); go_simp; try with_reducible rfl)
        (try simp only [Act.put, List.setIfInBounds_toArray, List.set_cons_zero, List.set_cons_succ])
        refine wpAnyH_take (i := 1) (oi := { dst := some 24, op := Op.move (Operand.tmp 6), type := 3, pos := "ref.go:23", after := #[], guard := none }) (v := ?_) rfl (by kernel_rfl) (by kernel_rfl) (by kernel_rfl) (fun _ _ _ h => h) (Or.inl ⟨by rfl, ?_⟩) (by assumption) ?_
        rotate_left
        · (intro ww hSw; (try dsimp only at hSw); go_simp; try with_reducible rfl)
        (try simp only [Act.put, List.setIfInBounds_toArray, List.set_cons_zero, List.set_cons_succ])
        refine wpAnyH_take (i := 2) (oi := { dst := some 25, op := Op.indexAddr 40 (Operand.tmp 23) (Operand.tmp 24), type := 0, pos := "ref.go:23", after := #[{ on := 0, ground := Ground.data }, { on := 1, ground := Ground.data }], guard := none }) (v := ?_) rfl (by kernel_rfl) (by kernel_rfl) (by kernel_rfl) (fun _ _ _ h => h) (Or.inl ⟨by rfl, ?_⟩) (by assumption) ?_
        rotate_left
        · (intro ww hSw; (try dsimp only at hSw); go_simp; try with_reducible rfl)
        (try simp only [Act.put, List.setIfInBounds_toArray, List.set_cons_zero, List.set_cons_succ])
        refine wpAnyH_take (i := 3) (oi := { dst := some 26, op := Op.fieldAddr 38 (Operand.tmp 25) 0, type := 0, pos := "ref.go:23", after := #[{ on := 2, ground := Ground.data }], guard := none }) (v := ?_) rfl (by kernel_rfl) (by kernel_rfl) (by kernel_rfl) (fun _ _ _ h => h) (Or.inl ⟨by rfl, ?_⟩) (by assumption) ?_
        rotate_left
        · (intro ww hSw; (try dsimp only at hSw); go_simp; try with_reducible rfl)
        (try simp only [Act.put, List.setIfInBounds_toArray, List.set_cons_zero, List.set_cons_succ])
        refine wpAnyH_take (i := 4) (oi := { dst := some 27, op := Op.load 36 (Operand.tmp 26), type := 36, pos := "ref.go:23", after := #[{ on := 3, ground := Ground.data }], guard := none }) (v := .agg (QF).toArray) rfl (by kernel_rfl) (by kernel_rfl) (by kernel_rfl) (fun _ _ _ h => h) (yieldsIf_load_mid (by rfl) _ _ rfl (b2) (o2 + k * 20) rfl (QF) _ (fun ww hSw => hSw.2.1) Tryd.underlying36 rfl HIQF.out) (by assumption) ?_
        (try simp only [Act.put, List.setIfInBounds_toArray, List.set_cons_zero, List.set_cons_succ])
        refine wpAnyH_take (i := 5) (oi := { dst := some 28, op := Op.fieldAddr 38 (Operand.tmp 3) 0, type := 0, pos := "ref.go:23", after := #[], guard := none }) (v := ?_) rfl (by kernel_rfl) (by kernel_rfl) (by kernel_rfl) (fun _ _ _ h => h) (Or.inl ⟨by rfl, ?_⟩) (by assumption) ?_
        rotate_left
        · (intro ww hSw; (try dsimp only at hSw); go_simp; try with_reducible rfl)
        (try simp only [Act.put, List.setIfInBounds_toArray, List.set_cons_zero, List.set_cons_succ])
        refine wpAnyH_take (i := 6) (oi := { dst := some 29, op := Op.load 36 (Operand.tmp 28), type := 36, pos := "ref.go:23", after := #[{ on := 5, ground := Ground.data }], guard := none }) (v := .agg (VF).toArray) rfl (by kernel_rfl) (by kernel_rfl) (by kernel_rfl) (fun _ _ _ h => h) (yieldsIf_load_mid (by rfl) _ _ rfl (w.heap.size) 0 rfl (VF) _ (fun ww hSw => hSw.2.2.2.1) Tryd.underlying36 rfl HI_VF.out) (by assumption) ?_
        (try simp only [Act.put, List.setIfInBounds_toArray, List.set_cons_zero, List.set_cons_succ])
        refine wpAnyH_take (i := 7) (oi := { dst := some 30, op := Op.binOp BinOp.eql 36 (Operand.tmp 27) (Operand.tmp 29) 36, type := 4, pos := "ref.go:23", after := #[{ on := 4, ground := Ground.data }, { on := 6, ground := Ground.data }], guard := none }) (v := .bool false) rfl (by kernel_rfl) (by kernel_rfl) (by kernel_rfl) (fun _ _ _ h => h) (Or.inl ⟨by rfl, (by intro ww hSw; go_simp)⟩) (by assumption) ?_
        (try simp only [Act.put, List.setIfInBounds_toArray, List.set_cons_zero, List.set_cons_succ])
        refine wpAnyH_take (i := 8) (oi := { dst := some 31, op := Op.move (Operand.tmp 30), type := 4, pos := "ref.go:23", after := #[{ on := 7, ground := Ground.data }], guard := none }) (v := ?_) rfl (by kernel_rfl) (by kernel_rfl) (by kernel_rfl) (fun _ _ _ h => h) (Or.inl ⟨by rfl, ?_⟩) (by assumption) ?_
        rotate_left
        · (intro ww hSw; (try dsimp only at hSw); go_simp; try with_reducible rfl)
        (try simp only [Act.put, List.setIfInBounds_toArray, List.set_cons_zero, List.set_cons_succ])
        refine wpAnyH_take (i := 9) (oi := { dst := some 32, op := Op.move (Operand.tmp 0), type := 40, pos := "ref.go:23", after := #[{ on := 8, ground := Ground.guard }], guard := some (8, false) }) (v := ?_) rfl (by kernel_rfl) (by kernel_rfl) (by kernel_rfl) (fun _ _ _ h => h) (Or.inl ⟨by rfl, ?_⟩) (by assumption) ?_
        rotate_left
        · (intro ww hSw; (try dsimp only at hSw); go_simp; try with_reducible rfl)
        (try simp only [Act.put, List.setIfInBounds_toArray, List.set_cons_zero, List.set_cons_succ])
        refine wpAnyH_take (i := 10) (oi := { dst := some 33, op := Op.move (Operand.tmp 6), type := 3, pos := "ref.go:23", after := #[{ on := 8, ground := Ground.guard }], guard := some (8, false) }) (v := ?_) rfl (by kernel_rfl) (by kernel_rfl) (by kernel_rfl) (fun _ _ _ h => h) (Or.inl ⟨by rfl, ?_⟩) (by assumption) ?_
        rotate_left
        · (intro ww hSw; (try dsimp only at hSw); go_simp; try with_reducible rfl)
        (try simp only [Act.put, List.setIfInBounds_toArray, List.set_cons_zero, List.set_cons_succ])
        refine wpAnyH_take (i := 11) (oi := { dst := some 34, op := Op.indexAddr 40 (Operand.tmp 32) (Operand.tmp 33), type := 0, pos := "ref.go:23", after := #[{ on := 9, ground := Ground.data }, { on := 10, ground := Ground.data }, { on := 8, ground := Ground.guard }], guard := some (8, false) }) (v := ?_) rfl (by kernel_rfl) (by kernel_rfl) (by kernel_rfl) (fun _ _ _ h => h) (Or.inl ⟨by rfl, ?_⟩) (by assumption) ?_
        rotate_left
        · (intro ww hSw; (try dsimp only at hSw); go_simp; try with_reducible rfl)
        (try simp only [Act.put, List.setIfInBounds_toArray, List.set_cons_zero, List.set_cons_succ])
        refine wpAnyH_take (i := 12) (oi := { dst := some 35, op := Op.fieldAddr 38 (Operand.tmp 34) 1, type := 0, pos := "ref.go:23", after := #[{ on := 11, ground := Ground.data }, { on := 8, ground := Ground.guard }], guard := some (8, false) }) (v := ?_) rfl (by kernel_rfl) (by kernel_rfl) (by kernel_rfl) (fun _ _ _ h => h) (Or.inl ⟨by rfl, ?_⟩) (by assumption) ?_
        rotate_left
        · (intro ww hSw; (try dsimp only at hSw); go_simp; try with_reducible rfl)
        (try simp only [Act.put, List.setIfInBounds_toArray, List.set_cons_zero, List.set_cons_succ])
        refine wpAnyH_take (i := 13) (oi := { dst := some 36, op := Op.load 23 (Operand.tmp 35), type := 23, pos := "ref.go:23", after := #[{ on := 12, ground := Ground.data }, { on := 8, ground := Ground.guard }], guard := some (8, false) }) (v := .agg (QX).toArray) rfl (by kernel_rfl) (by kernel_rfl) (by kernel_rfl) (fun _ _ _ h => h) (yieldsIf_load_mid (by rfl) _ _ rfl (b2) (o2 + k * 20 + 4) rfl (QX) _ (fun ww hSw => hSw.2.2.1) Tryd.underlying23 rfl HIQX.out) (by assumption) ?_
        (try simp only [Act.put, List.setIfInBounds_toArray, List.set_cons_zero, List.set_cons_succ])
        refine wpAnyH_take (i := 14) (oi := { dst := some 37, op := Op.fieldAddr 38 (Operand.tmp 3) 1, type := 0, pos := "ref.go:23", after := #[{ on := 8, ground := Ground.guard }], guard := some (8, false) }) (v := ?_) rfl (by kernel_rfl) (by kernel_rfl) (by kernel_rfl) (fun _ _ _ h => h) (Or.inl ⟨by rfl, ?_⟩) (by assumption) ?_
        rotate_left
        · (intro ww hSw; (try dsimp only at hSw); go_simp; try with_reducible rfl)
        (try simp only [Act.put, List.setIfInBounds_toArray, List.set_cons_zero, List.set_cons_succ])
        refine wpAnyH_take (i := 15) (oi := { dst := some 38, op := Op.load 23 (Operand.tmp 37), type := 23, pos := "ref.go:23", after := #[{ on := 14, ground := Ground.data }, { on := 8, ground := Ground.guard }], guard := some (8, false) }) (v := .agg (VX).toArray) rfl (by kernel_rfl) (by kernel_rfl) (by kernel_rfl) (fun _ _ _ h => h) (yieldsIf_load_mid (by rfl) _ _ rfl (w.heap.size) (0 + 4) rfl (VX) _ (fun ww hSw => hSw.2.2.2.2.1) Tryd.underlying23 rfl HI_VX.out) (by assumption) ?_
        (try simp only [Act.put, List.setIfInBounds_toArray, List.set_cons_zero, List.set_cons_succ])
        refine wpAnyH_take (i := 16) (oi := { dst := some 39, op := Op.binOp BinOp.eql 23 (Operand.tmp 36) (Operand.tmp 38) 23, type := 4, pos := "ref.go:23", after := #[{ on := 13, ground := Ground.data }, { on := 15, ground := Ground.data }, { on := 8, ground := Ground.guard }], guard := some (8, false) }) (v := .bool (decide (l[k].2 = p.2))) rfl (by kernel_rfl) (by kernel_rfl) (by kernel_rfl) (fun _ _ _ h => h) (Or.inl ⟨by rfl, (by intro ww hSw; go_simp)⟩) (by assumption) ?_
        (try simp only [Act.put, List.setIfInBounds_toArray, List.set_cons_zero, List.set_cons_succ])
        refine wpAnyH_take (i := 17) (oi := { dst := some 40, op := Op.pick (Operand.tmp 31) (Operand.const (Value.bool true)) (Operand.tmp 39), type := 4, pos := "ref.go:23", after := #[{ on := 8, ground := Ground.data }, { on := 16, ground := Ground.data }], guard := none }) (v := ?_) rfl (by kernel_rfl) (by kernel_rfl) (by kernel_rfl) (fun _ _ _ h => h) (Or.inl ⟨by rfl, ?_⟩) (by assumption) ?_
        rotate_left
        · (intro ww hSw; (try dsimp only at hSw); go_simp; try with_reducible rfl)
        (try simp only [Act.put, List.setIfInBounds_toArray, List.set_cons_zero, List.set_cons_succ])
        refine wpAnyH_done (by kernel_rfl) ?_ _
        refine NoPanic.normal ?_
        have HKE := Lib.hid hHeld.1
        clear hHeld hqf hqx hq4 hq6 hd4
        by_cases h6 : l[k].2 = p.2
        · have hd6 : decide (l[k].2 = p.2) = true := by simp [h6]
          have HS : Hid (SH = true) := Lib.hid (HHit.out (.inr h6))
          clear h4 h6 HHit HMiss
          rw [hd6]
          clear hd6
          have hE := HE.out
          rw [HS.out] at hE
          simp only [Bool.false_or, Bool.false_eq_true, if_false, if_true] at hE
          subst hE
          have HF : Hid (L2 = l) := Lib.hid (HL13.out (by decide))
          go_wp2_with fail
          go_ret2
          exact ⟨_, rfl, by rw [HF.out]; exact HOW.out _ HKE.out.2.1, HKE.out.2.1⟩
        · have hd6 : decide (l[k].2 = p.2) = false := by simpa using h6
          have HM := Lib.hid (HMiss.out ⟨h4, h6⟩)
          clear h4 h6 HHit HMiss HG
          rw [hd6]
          clear hd6
          go_wp2_with fail
          go_roundw
          case rel => exact ⟨k + 1, hlt, by go_num, HKE.out, HM⟩
          case measure => simp [intOf]; omega
    · obtain rfl : k = l.length := by omega
      have HS : Hid (SH = false) := Lib.hid (HShn.out (fun x hx => HG.out x (by rw [List.take_length]; exact hx)))
      clear HG
      have hE := HE.out
      rw [HS.out] at hE
      simp only [Bool.false_or, Bool.false_eq_true, if_false] at hE
      by_cases h16 : l.length = 16
      · rw [if_pos (by omega)] at hE
        subst hE
        have HF : Hid (L2 = l) := Lib.hid (HL13.out (by decide))
        have h17 : ((l.length : Nat) : Int) = 16 := by omega
        go_wp2_with fail
        go_ret2
        exact ⟨_, rfl, by rw [HF.out]; exact HOW.out _ HK.out.2.1, HK.out.2.1⟩
      · rw [if_neg (by omega)] at hE
        subst hE
        have HF : Hid (L2 = l ++ [p]) := Lib.hid (HL0.out rfl)
        have h17 : ¬ ((l.length : Nat) : Int) = 16 := by omega
        obtain ⟨v1, w2, hr1, ho1, hg1, hv1⟩ := app_rs wr w.heap.size (.slice none 0 0) _ [] l 40 (own_nil _ _) (HOW.out _ HK.out.2.1).rs HL.out (by simp; omega) HK.out.2.2
        rw [List.nil_append] at ho1
        have hb2 : Below w.heap.size w w2 := HK.out.2.1.grown hg1 HK.out.2.2 (fun k hk => by cases hk)
        have HK2 := Lib.hid (HK.out.grown hg1 (fun x _ h => by cases h) (fun k hk => by cases hk))
        have hR1 : Rs (w2.alloc (.cells PV.toArray 38)) (.slice (some ⟨w2.heap.size, 0, none⟩) 1 1) [p] := .inr ⟨_, 1, rfl, Nat.le_refl _, .inr ⟨_, 0, rfl, by simp, by rw [prV_one, HPV.out]; exact (bk_new w2 38 PV.toArray).range⟩⟩
        obtain ⟨v2, w3, hr2, ho2, hg2, hv2⟩ := app_rs (w2.alloc (.cells PV.toArray 38)) w.heap.size v1 (.slice (some ⟨w2.heap.size, 0, none⟩) 1 1) l [p] 40 (ow_below ho1 ((Below.refl _ _).alloc (Nat.le_refl _) _)) hR1 (by intro q hq; rw [List.mem_singleton.1 hq]; exact HP.out) (by simp; omega) (by have := hb2.size; simp; omega)
        have HBE : Hid (Below w.heap.size w w3) := Lib.hid ((hb2.alloc hb2.size _).grown hg2 (by have := hb2.size; simp; omega) (fun k hk => (ho1.lt k hk).1))
        have HOE := Lib.hid ho2
        clear ho1 ho2 hg1 hg2 hv1 hv2 hb2 hR1
        have hr0 := HK2.out.hd.range
        go_upto_region 12 with (at_builtin; refine Lib.wpList_append_run _ rfl _ _ _ _ rfl _ _ rfl rfl _ _ hr1 ?_)
        go_wp2_with (first | ((with_reducible (change wpList _ _ _ _ _ _)); (refine wpList_load_mid rfl 38 _ rfl (w.heap.size) 0 rfl PV _ hr0 Tryd.underlying38 rfl HI_PV.out ?_)) | ((with_reducible (change wpList _ _ _ _ _ _)); (refine wpList_bslice rfl rfl (by simp only [List.map_toArray]; rfl) (HBS.out _) ?_)) | (at_builtin; refine Lib.wpList_append_run _ rfl _ _ _ _ rfl _ _ rfl rfl _ _ hr2 ?_))
        go_ret2
        exact ⟨_, rfl, by rw [HF.out]; exact ow_base HOE.out (Nat.zero_le _), HBE.out⟩

theorem dropL_len {l : Kv} {a : List UInt8} : (dropL l a).length = l.length ↔ sixI l a = false := by
  constructor
  · intro h
    cases hs : sixI l a
    · rfl
    · have hm := six_mem hs
      have hl : (dropL l a).length < l.length := by
        unfold dropL
        rw [List.length_filter_lt_length_iff_exists]
        exact ⟨_, hm, by simp⟩
      omega
  · intro h
    rw [drop_none h]
theorem dropL_snoc {l : Kv} {k : Nat} (h : k < l.length) (a : List UInt8) : dropL (l.take (k + 1)) a = dropL (l.take k) a ++ if l[k].1 = a then [] else [l[k]] := by
  rw [take_snoc' k h]
  unfold dropL
  rw [List.filter_append]
  congr 1
  by_cases he : l[k].1 = a
  · simp [he]
  · simp [he]
set_option maxRecDepth 100000 in
set_option maxHeartbeats 8000000 in
theorem rdrop_any (v : Value) (l : Kv) (a : List UInt8) (w : World) (hO : Od w v l) (hl : okPs l) (hn : l.length ≤ 16) (ha : a.length = 4) :
    Calls Tryd.prog 24 #[v, .agg (bu a).toArray] w fun e w' => ∃ u, e = .returned (.tuple #[u, .int .i64 (dropE l a)]) ∧ Od w' u (dropL l a) ∧ Below w.heap.size w w' := by
  have HL := Lib.hid hl
  have HOW : Hid (∀ W, Below w.heap.size w W → Od W v l) := Lib.hid (fun W hW => hO.below hW)
  have HI_VA : Hid ((Tryd.prog.info? 36).map (·.size) = some (bu a).length) := Lib.hid (Tryd.infoU4 _ (ha))
  have HO_VA : Hid ((bu a).toArray.all (·.oneCell') = true) := Lib.hid (bu_one _)
  have HL_VA : Hid ((bu a).length = 4) := Lib.hid (by rw [bu_len]; exact ha)
  have HK1 := Lib.hid ((Kp.start w).new 36 (bu a))
  have HE : Hid (dropE l a = if sixI l a = true then 0 else 4) := Lib.hid rfl
  have HLen : Hid ((dropL l a).length = l.length ↔ sixI l a = false) := Lib.hid dropL_len
  have HNo : Hid (sixI l a = false → dropL l a = l) := Lib.hid drop_none
  have HLe : Hid ((dropL l a).length ≤ 16) := Lib.hid (Nat.le_trans (List.length_filter_le _ _) hn)
  have HE4 : Hid (∀ q : List UInt8, q.length = 4 → ∀ W, (binOp .neq 36 (.agg (bu q).toArray) (.agg (bu a).toArray)).run Tryd.prog W = .ok (.bool (!decide (q = a))) W) := Lib.hid (fun q hq W => nequ4 q a hq ha W)
  obtain ⟨ao, cap, rfl, _⟩ := own_shape hO
  have HDl : Hid (∀ k, k ≤ l.length → (dropL (l.take k) a).length ≤ k) := Lib.hid (fun k hk => Nat.le_trans (List.length_filter_le _ _) (by rw [List.length_take]; omega))
  have HD0 : Hid (dropL (l.take 0) a = []) := Lib.hid rfl
  clear hO ha hl
  generalize bu a = VA at *
  generalize hw1 : w.alloc (.cells VA.toArray 36) = w1 at *
  go_enter Tryd.func24, Tryd.ntmps24
  go_upto_region 1 with (fail)
  clear hw1
  go_wp2_with fail
  go_loopw [6, 7] (fun u i wr => ∃ k : Nat, k ≤ l.length ∧ i = .int .i64 k ∧ Kp w w.heap.size [(w.heap.size, 36, VA)] wr ∧ wr.ownsRow (w.heap.size + 1) 38 20 u (dropL (l.take k) a).length (prV (dropL (l.take k) a))) (fun _ i _ => l.length - (intOf i).toNat)
  case atStart => exact ⟨0, Nat.zero_le _, rfl, HK1.out, by rw [HD0.out]; exact own_nil _ _⟩
  case round =>
    obtain ⟨k, hk, rfl, hkp, hu⟩ := hrel
    have HK := Lib.hid hkp
    have HU := Lib.hid hu
    obtain ⟨au, cu, rfl, _⟩ := own_shape hu
    clear hkp hu HK1
    by_cases hlt : k < l.length
    · obtain ⟨_, _, hsh, _, hS⟩ := (HOW.out _ HK.out.2.1).rs.shape
      obtain ⟨b2, o2, e2, hbl, hr⟩ := hS k hlt
      obtain rfl : ao = some ⟨b2, o2, none⟩ := by
        cases hsh
        exact e2
      have HOk := Lib.hid (okPs_at HL.out k hlt)
      have hre := range_el hr HL.out k hlt
      have HRE := Lib.hid hre
      have HBL := Lib.hid hbl
      have hqf : wr.rangeAt b2 (o2 + k * 20) (bu l[k].1) := range_f hre
      have HIQF : Hid ((Tryd.prog.info? 36).map (·.size) = some (bu l[k].1).length) := Lib.hid (Tryd.infoU4 _ HOk.out.1)
      have HI_PV : Hid ((Tryd.prog.info? 38).map (·.size) = some (prv l[k]).length) := Lib.hid (Tryd.infoP _ (HOk.out))
      have HO_PV : Hid ((prv l[k]).toArray.all (·.oneCell') = true) := Lib.hid (prv_ones _)
      have HL_PV : Hid ((prv l[k]).length = 20) := Lib.hid (prv_len (HOk.out))
      have hq4 := HE4.out _ HOk.out.1
      have HBS := Lib.hid (bslice_one l[k] HOk.out)
      have HSn := Lib.hid (dropL_snoc hlt a)
      have hk2 : (k : Int) < (l.length : Int) := by omega
      have HDk := Lib.hid (HDl.out k hk)
      clear hr hsh hS hbl hre e2
      generalize bu l[k].1 = QF at *
      go_wp2_with fail
      refine wp_region_noPanic ?_
      refine wp_region_held_drew (S := fun W => Kp w w.heap.size [(w.heap.size, 36, VA)] W ∧ W.rangeAt b2 (o2 + k * 20) QF ∧ W.rangeAt w.heap.size 0 VA ∧ Below wr.heap.size wr W) (by kernel_rfl) (⟨HK.out.drew, hqf, HK.out.hd.range, (Below.refl _ wr).drew⟩) (fun hHeld => ?_)
      refine wpAnyH_take (i := 0) (oi := { dst := some 14, op := Op.move (Operand.tmp 0), type := 40, pos := "ref.go:52", after := #[], guard := none }) (v := ?_) rfl (by kernel_rfl) (by kernel_rfl) (by kernel_rfl) (fun _ _ _ h => h) (Or.inl ⟨by rfl, ?_⟩) (by assumption) ?_
      rotate_left
      · (intro ww hSw; (try dsimp only at hSw); go_simp; try with_reducible rfl)
      (try simp only [Act.put, List.setIfInBounds_toArray, List.set_cons_zero, List.set_cons_succ])
      refine wpAnyH_take (i := 1) (oi := { dst := some 15, op := Op.move (Operand.tmp 7), type := 3, pos := "ref.go:52", after := #[], guard := none }) (v := ?_) rfl (by kernel_rfl) (by kernel_rfl) (by kernel_rfl) (fun _ _ _ h => h) (Or.inl ⟨by rfl, ?_⟩) (by assumption) ?_
      rotate_left
      · (intro ww hSw; (try dsimp only at hSw); go_simp; try with_reducible rfl)
      (try simp only [Act.put, List.setIfInBounds_toArray, List.set_cons_zero, List.set_cons_succ])
      refine wpAnyH_take (i := 2) (oi := { dst := some 16, op := Op.indexAddr 40 (Operand.tmp 14) (Operand.tmp 15), type := 0, pos := "ref.go:52", after := #[{ on := 0, ground := Ground.data }, { on := 1, ground := Ground.data }], guard := none }) (v := ?_) rfl (by kernel_rfl) (by kernel_rfl) (by kernel_rfl) (fun _ _ _ h => h) (Or.inl ⟨by rfl, ?_⟩) (by assumption) ?_
      rotate_left
      · (intro ww hSw; (try dsimp only at hSw); go_simp; try with_reducible rfl)
      (try simp only [Act.put, List.setIfInBounds_toArray, List.set_cons_zero, List.set_cons_succ])
      refine wpAnyH_take (i := 3) (oi := { dst := some 17, op := Op.fieldAddr 38 (Operand.tmp 16) 0, type := 0, pos := "ref.go:52", after := #[{ on := 2, ground := Ground.data }], guard := none }) (v := ?_) rfl (by kernel_rfl) (by kernel_rfl) (by kernel_rfl) (fun _ _ _ h => h) (Or.inl ⟨by rfl, ?_⟩) (by assumption) ?_
      rotate_left
      · (intro ww hSw; (try dsimp only at hSw); go_simp; try with_reducible rfl)
      (try simp only [Act.put, List.setIfInBounds_toArray, List.set_cons_zero, List.set_cons_succ])
      refine wpAnyH_take (i := 4) (oi := { dst := some 18, op := Op.load 36 (Operand.tmp 17), type := 36, pos := "ref.go:52", after := #[{ on := 3, ground := Ground.data }], guard := none }) (v := .agg (QF).toArray) rfl (by kernel_rfl) (by kernel_rfl) (by kernel_rfl) (fun _ _ _ h => h) (yieldsIf_load_mid (by rfl) _ _ rfl (b2) (o2 + k * 20) rfl (QF) _ (fun ww hSw => hSw.2.1) Tryd.underlying36 rfl HIQF.out) (by assumption) ?_
      (try simp only [Act.put, List.setIfInBounds_toArray, List.set_cons_zero, List.set_cons_succ])
      refine wpAnyH_take (i := 5) (oi := { dst := some 19, op := Op.load 36 (Operand.tmp 3), type := 36, pos := "ref.go:52", after := #[], guard := none }) (v := .agg (VA).toArray) rfl (by kernel_rfl) (by kernel_rfl) (by kernel_rfl) (fun _ _ _ h => h) (yieldsIf_load_mid (by rfl) _ _ rfl (w.heap.size) 0 rfl (VA) _ (fun ww hSw => hSw.2.2.1) Tryd.underlying36 rfl HI_VA.out) (by assumption) ?_
      (try simp only [Act.put, List.setIfInBounds_toArray, List.set_cons_zero, List.set_cons_succ])
      refine wpAnyH_take (i := 6) (oi := { dst := some 20, op := Op.binOp BinOp.neq 36 (Operand.tmp 18) (Operand.tmp 19) 36, type := 4, pos := "ref.go:52", after := #[{ on := 4, ground := Ground.data }, { on := 5, ground := Ground.data }], guard := none }) (v := .bool (!decide (l[k].1 = a))) rfl (by kernel_rfl) (by kernel_rfl) (by kernel_rfl) (fun _ _ _ h => h) (Or.inl ⟨by rfl, (by intro ww hSw; go_simp)⟩) (by assumption) ?_
      (try simp only [Act.put, List.setIfInBounds_toArray, List.set_cons_zero, List.set_cons_succ])
      refine wpAnyH_done (by kernel_rfl) ?_ _
      refine NoPanic.normal ?_
      have HK5 := Lib.hid hHeld.1
      have HW5 := Lib.hid hHeld.2.2.2
      have HU5 := Lib.hid (ow_below HU.out HW5.out)
      clear hHeld hqf hq4 HU
      by_cases he : l[k].1 = a
      · have hd : (!decide (l[k].1 = a)) = false := by simp [he]
        have HF : Hid (dropL (l.take (k + 1)) a = dropL (l.take k) a) := Lib.hid (by rw [HSn.out, if_pos he, List.append_nil])
        clear he HSn
        rw [hd]
        clear hd
        go_wp2_with fail
        go_roundw
        case rel => exact ⟨k + 1, hlt, by go_num, HK5.out, by rw [HF.out]; exact HU5.out⟩
        case measure => simp [intOf]; omega
      · have hd : (!decide (l[k].1 = a)) = true := by simp [he]
        have HF : Hid (dropL (l.take (k + 1)) a = dropL (l.take k) a ++ [l[k]]) := Lib.hid (by rw [HSn.out, if_neg he])
        clear he HSn
        rw [hd]
        clear hd
        have hq1 := range_below HRE.out HBL.out HW5.out
        have hR1 : Rs (wr.drew.alloc (.cells (prv l[k]).toArray 38)) (.slice (some ⟨wr.drew.heap.size, 0, none⟩) 1 1) [l[k]] := .inr ⟨_, 1, rfl, Nat.le_refl _, .inr ⟨_, 0, rfl, by simp, by rw [prV_one]; exact (bk_new wr.drew 38 (prv l[k]).toArray).range⟩⟩
        obtain ⟨v2, w3, hr2, ho2, hg2, hv2⟩ := app_rs (wr.drew.alloc (.cells (prv l[k]).toArray 38)) (w.heap.size + 1) _ (.slice (some ⟨wr.drew.heap.size, 0, none⟩) 1 1) (dropL (l.take k) a) [l[k]] 40 (ow_below HU5.out ((Below.refl _ _).alloc (Nat.le_refl _) _)) hR1 (by intro q hq; rw [List.mem_singleton.1 hq]; exact HOk.out) (by have := HDk.out; simp; omega) (by have := HK5.out.hd.lt; simp at this ⊢; omega)
        have HK6 := Lib.hid ((HK5.out.alloc (.cells (prv l[k]).toArray 38)).grown hg2 (fun x hx h => by rw [List.mem_singleton.1 hx] at h; have := (HU5.out.lt _ h.symm).1; simp at this; omega) (fun j hj => by have := (HU5.out.lt _ hj).1; omega))
        have HU6 := Lib.hid ho2
        have hr2' : (Builtin.append_ #[40, 40] 40 #[.slice au (dropL (l.take k) a).length cu, .slice (some ⟨wr.heap.size, 0, none⟩) 1 1]).run Tryd.prog (wr.alloc (.cells (prv l[k]).toArray 38)).drew = .ok v2 w3 := hr2
        clear ho2 hg2 hv2 hR1 hr2
        generalize prv l[k] = PV at *
        go_wp2_with (first | ((with_reducible (change wpList _ _ _ _ _ _)); (refine wpList_load_mid rfl 38 _ rfl b2 (o2 + k * 20) rfl PV _ hq1 Tryd.underlying38 rfl HI_PV.out ?_)) | ((with_reducible (change wpList _ _ _ _ _ _)); (refine wpList_bslice rfl rfl (by simp only [List.map_toArray]; rfl) (HBS.out _) ?_)) | (at_builtin; refine Lib.wpList_append_run _ rfl _ _ _ _ rfl _ _ rfl rfl _ _ hr2' ?_))
        go_roundw
        case rel => exact ⟨k + 1, hlt, by go_num, HK6.out, by rw [HF.out]; exact HU6.out⟩
        case measure => simp [intOf]; omega
    · obtain rfl : k = l.length := by omega
      have HU2 : Hid (wr.ownsRow (w.heap.size + 1) 38 20 (.slice au (dropL l a).length cu) (dropL l a).length (prV (dropL l a))) := Lib.hid (by have := HU.out; rwa [List.take_length] at this)
      rw [List.take_length]
      clear HU HD0 HDl
      cases hs : sixI l a
      · have hE := HE.out
        rw [hs] at hE
        simp only [Bool.false_eq_true, if_false] at hE
        have h1 : ((dropL l a).length : Int) = (l.length : Int) := by have := HLen.out.2 hs; omega
        have HF := Lib.hid (HNo.out hs)
        clear hs
        have HEE := Lib.hid hE
        clear hE
        go_wp2_with fail
        go_ret2
        exact ⟨_, by rw [HEE.out]; rfl, by rw [HF.out]; exact HOW.out _ HK.out.2.1, HK.out.2.1⟩
      · have hE := HE.out
        rw [hs] at hE
        simp only [if_true] at hE
        have h1 : ¬ ((dropL l a).length : Int) = (l.length : Int) := by
          intro h
          have := HLen.out.1 (by omega)
          rw [hs] at this
          cases this
        clear hs
        have HEE := Lib.hid hE
        clear hE
        have hle := HLe.out
        go_wp2_with fail
        go_ret2
        exact ⟨_, by rw [HEE.out]; rfl, ow_base HU2.out (Nat.zero_le _), HK.out.2.1⟩
set_option maxRecDepth 100000 in
set_option maxHeartbeats 8000000 in
theorem rnew_any (v : Value) (l : Kv) (w : World) (hR : Rs w v l) (hl : okPs l) (hn : l.length ≤ 1000) :
    Calls Tryd.prog 22 #[v] w fun e w' => Below w.heap.size w w' ∧ ∃ u, e = .returned (.tuple #[u, .int .i64 (newE l)]) ∧ Od w' u (newL l) := by
  have HR : Hid (∀ W, Below w.heap.size w W → Rs W v l) := Lib.hid (fun W hW => hR.below hW)
  have HL := Lib.hid hl
  have HE : Hid (newE l = (newG [] l).1 ∧ newL l = (newG [] l).2) := Lib.hid ⟨rfl, rfl⟩
  obtain ⟨ao, cap, rfl, _, _⟩ := hR.shape
  clear hR hl
  generalize newE l = NE at *
  generalize newL l = NL at *
  go_enter Tryd.func22, Tryd.ntmps22
  go_wp2_with fail
  go_loopw [4, 5] (fun u i wr => ∃ (k : Nat) (L : Kv), k ≤ l.length ∧ i = .int .i64 k ∧ Od wr u L ∧ Nl L ∧ Below w.heap.size w wr ∧ Hid (newG [] l = newG L (l.drop k))) (fun _ i _ => l.length - (intOf i).toNat)
  case atStart => exact ⟨0, [], Nat.zero_le _, rfl, own_nil _ _, Nl.nil, Below.refl _ _, Lib.hid rfl⟩
  case round =>
    obtain ⟨k, L, hk, rfl, ho, hnl, hb, HG⟩ := hrel
    have HO := Lib.hid ho
    have HB := Lib.hid hb
    have HN := Lib.hid hnl
    obtain ⟨au, cu, rfl, _⟩ := own_shape ho
    clear ho hb hnl
    by_cases hlt : k < l.length
    · obtain ⟨_, _, hsh, _, hS⟩ := (HR.out _ HB.out).shape
      obtain ⟨b2, o2, e2, hbl, hr⟩ := hS k hlt
      obtain rfl : ao = some ⟨b2, o2, none⟩ := by
        cases hsh
        exact e2
      have hq1 := range_el hr HL.out k hlt
      have HOk := Lib.hid (okPs_at HL.out k hlt)
      have HI_PV : Hid ((Tryd.prog.info? 38).map (·.size) = some (prv l[k]).length) := Lib.hid (Tryd.infoP _ (HOk.out))
      have HO_PV : Hid ((prv l[k]).toArray.all (·.oneCell') = true) := Lib.hid (prv_ones _)
      have HL_PV : Hid ((prv l[k]).length = 20) := Lib.hid (prv_len (HOk.out))
      have HG1 := Lib.hid (fun (h : addE L l[k] = 0) => newG_ok hlt h)
      have HG2 := Lib.hid (fun (h : addE L l[k] ≠ 0) => newG_bad hlt h)
      have CA := Lib.hid (radd_any _ L l[k] wr HO.out HN.out.ok HN.out.len HOk.out)
      have HAL := Lib.hid (fun (h : addE L l[k] = 0) => addL_ok h)
      have HNA := Lib.hid (HN.out.add HOk.out)
      have hk2 : (k : Int) < (l.length : Int) := by omega
      clear hr hsh hS hbl HOk e2
      generalize addE L l[k] = AE at *
      generalize addL L l[k] = AL at *
      generalize prv l[k] = PV at *
      generalize l[k] = p at *
      go_wp2_with ((with_reducible (change wpList _ _ _ _ _ _)); (refine wpList_load_mid rfl 38 _ rfl b2 (o2 + k * 20) rfl PV _ hq1 Tryd.underlying38 rfl HI_PV.out ?_))
      clear hq1
      refine (CA.out).mono ?_
      rintro e w6 ⟨u6, rfl, hO6, hb6⟩
      have HO6 := Lib.hid hO6
      have HB6 := Lib.hid (HB.out.trans (hb6.mono HB.out.size))
      clear hO6 hb6 CA HO HB
      by_cases he : AE = 0
      · subst he
        have HF := Lib.hid (HAL.out rfl)
        have HH : Hid (newG [] l = newG (L ++ [p]) (l.drop (k + 1))) := Lib.hid (by rw [HG.out, HG1.out rfl])
        clear HG1 HG2 HAL HG
        go_wp2_with fail
        go_roundw
        case rel => exact ⟨k + 1, L ++ [p], hlt, by go_num, by rw [← HF.out]; exact HO6.out, by rw [← HF.out]; exact HNA.out, HB6.out, HH⟩
        case measure => simp [intOf]; omega
      · have HH : Hid (NE = AE ∧ NL = []) := Lib.hid (by rw [HE.out.1, HE.out.2, HG.out, HG2.out he]; exact ⟨rfl, rfl⟩)
        have hne : (AE != 0) = true := by simpa using he
        clear HG1 HG2 HAL HG he
        go_wp2_with fail
        go_ret2
        exact ⟨HB6.out, _, by rw [HH.out.1]; rfl, by rw [HH.out.2]; exact own_nil _ _⟩
    · obtain rfl : k = l.length := by omega
      have HH : Hid (NE = 0 ∧ NL = L) := Lib.hid (by
        have h := HG.out
        rw [List.drop_length] at h
        rw [HE.out.1, HE.out.2, h]
        exact ⟨rfl, rfl⟩)
      clear HG
      go_wp2_with fail
      go_ret2
      exact ⟨HB.out, _, by rw [HH.out.1]; rfl, by rw [HH.out.2]; exact HO.out⟩

/-- The pair of a number. -/
def oneP (n : UInt8) : List UInt8 × List UInt8 := ([192, 0, 2, n], [32, 1, 13, 184, 0, 0, 0, 0, 0, 0, 0, 0, 0, 0, 0, n])
theorem oneP_ok (n : UInt8) : okPr (oneP n) := ⟨rfl, rfl⟩
theorem Tryd.bOne4 (n : Int) (W : World) : (Instr.build 36 #[(0, .int .u8 192), (1, .int .u8 0), (2, .int .u8 2), (3, .int .u8 n)]).run Tryd.prog W = .ok (.agg #[.int .u8 192, .int .u8 0, .int .u8 2, .int .u8 n]) W := by kernel_rfl
theorem Tryd.bOne6 (n : Int) (W : World) : (Instr.build 23 #[(0, .int .u8 32), (1, .int .u8 1), (2, .int .u8 13), (3, .int .u8 184), (15, .int .u8 n)]).run Tryd.prog W = .ok (.agg #[.int .u8 32, .int .u8 1, .int .u8 13, .int .u8 184, .int .u8 0, .int .u8 0, .int .u8 0, .int .u8 0, .int .u8 0, .int .u8 0, .int .u8 0, .int .u8 0, .int .u8 0, .int .u8 0, .int .u8 0, .int .u8 n]) W := by kernel_rfl
set_option maxRecDepth 100000 in
set_option maxHeartbeats 8000000 in
theorem one_any (n : UInt8) (w : World) :
    Calls Tryd.prog 15 #[.int .u8 (n.toNat : Int)] w fun e w' => e = .returned (.agg (prv (oneP n)).toArray) ∧ Below w.heap.size w w' := by
  have HB4 : Hid (∀ W, (Instr.build 36 #[(0, .int .u8 192), (1, .int .u8 0), (2, .int .u8 2), (3, .int .u8 (n.toNat : Int))]).run Tryd.prog W = .ok (.agg (bu (oneP n).1).toArray) W) := Lib.hid (fun W => Tryd.bOne4 _ W)
  have HB6 : Hid (∀ W, (Instr.build 23 #[(0, .int .u8 32), (1, .int .u8 1), (2, .int .u8 13), (3, .int .u8 184), (15, .int .u8 (n.toNat : Int))]).run Tryd.prog W = .ok (.agg (bu (oneP n).2).toArray) W) := Lib.hid (fun W => Tryd.bOne6 _ W)
  have HBP := Lib.hid (fun W => build_pair (oneP n) (oneP_ok n) W)
  have HI_PV : Hid ((Tryd.prog.info? 38).map (·.size) = some (prv (oneP n)).length) := Lib.hid (Tryd.infoP _ (oneP_ok n))
  have HO_PV : Hid ((prv (oneP n)).toArray.all (·.oneCell') = true) := Lib.hid (prv_ones _)
  have HL_PV : Hid ((prv (oneP n)).length = 20) := Lib.hid (prv_len (oneP_ok n))
  obtain ⟨VZ, hVZ⟩ : ∃ VZ, VZ = ([.int .u8 0, .int .u8 0, .int .u8 0, .int .u8 0, .int .u8 0, .int .u8 0, .int .u8 0, .int .u8 0, .int .u8 0, .int .u8 0, .int .u8 0, .int .u8 0, .int .u8 0, .int .u8 0, .int .u8 0, .int .u8 0, .int .u8 0, .int .u8 0, .int .u8 0, .int .u8 0] : List Value) := ⟨_, rfl⟩
  have HLZ : Hid (VZ.length = 20) := Lib.hid (by rw [hVZ]; rfl)
  have hz : ([.int .u8 0, .int .u8 0, .int .u8 0, .int .u8 0, .int .u8 0, .int .u8 0, .int .u8 0, .int .u8 0, .int .u8 0, .int .u8 0, .int .u8 0, .int .u8 0, .int .u8 0, .int .u8 0, .int .u8 0, .int .u8 0, .int .u8 0, .int .u8 0, .int .u8 0, .int .u8 0] : List Value).toArray = VZ.toArray := by rw [hVZ]
  have HK1 := Lib.hid ((Kp.start w).new 38 VZ)
  clear hVZ
  generalize prv (oneP n) = PV at *
  generalize bu (oneP n).1 = VF at *
  generalize bu (oneP n).2 = VX at *
  go_enter Tryd.func15, Tryd.ntmps15
  go_upto_region 1 with (fail)
  clear hz
  generalize w.alloc (.cells VZ.toArray 38) = w2 at *
  have ht := HK1.out.hd.there PV.toArray.size (by have := HL_PV.out; have := HLZ.out; simp; omega)
  have HE : Hid (Bk (w2.setCells w.heap.size 0 PV) w.heap.size 38 PV.toArray) := Lib.hid (by
    have hE := Bk.sets PV 0 _ _ HK1.out.hd
    rw [puts_whole VZ.toArray PV (by have := HL_PV.out; have := HLZ.out; simp; omega)] at hE
    exact hE)
  go_wp2_with (first | ((with_reducible (change bodyPost _ _ _ _ _ _)); refine bodyPost_ret (v := .agg PV.toArray) (results_cell rfl rfl (run_loadVar_mid _ w.heap.size 0 38 _ _ HE.out.range Tryd.underlying38 rfl HI_PV.out)) rfl ⟨rfl, below_sets _ (Nat.le_refl _) 0 _ HK1.out.2.1⟩) | (refine Great.wpList_readTo rfl _ rfl (.agg VF.toArray) (run_execN rfl (by rw [List.map_toArray]; rfl) (HB4.out _)) ?_) | (refine Great.wpList_readTo rfl _ rfl (.agg VX.toArray) (run_execN rfl (by rw [List.map_toArray]; rfl) (HB6.out _)) ?_) | (refine Great.wpList_readTo rfl _ rfl (.agg PV.toArray) (run_execN rfl (by rw [List.map_toArray]; rfl) (HBP.out _)) ?_) | (refine wpList_store_mid rfl 38 _ _ rfl w.heap.size 0 PV.toArray rfl rfl ht (by simpa using HI_PV.out) HO_PV.out ?_))
set_option maxRecDepth 100000 in
set_option maxHeartbeats 8000000 in
theorem same_any (v x : Value) (l m : Kv) (w : World) (hR : Rs w v l) (hS : Rs w x m) (hl : okPs l) (hm : okPs m) (hn : l.length ≤ 1000) (hn2 : m.length ≤ 1000) :
    Calls Tryd.prog 28 #[v, x] w fun e w' => e = .returned (.bool (decide (l = m))) ∧ Below w.heap.size w w' := by
  have HR : Hid (∀ W, Below w.heap.size w W → Rs W v l) := Lib.hid (fun W hW => hR.below hW)
  have HS : Hid (∀ W, Below w.heap.size w W → Rs W x m) := Lib.hid (fun W hW => hS.below hW)
  have HL := Lib.hid hl
  have HM := Lib.hid hm
  obtain ⟨ao, cap, rfl, _, _⟩ := hR.shape
  obtain ⟨bo, dap, rfl, _, _⟩ := hS.shape
  clear hR hS hl hm
  by_cases hlen : l.length = m.length
  · have HLn := Lib.hid hlen
    have h1 : (l.length : Int) = (m.length : Int) := by omega
    have h2 : ((l.length : Int) != (m.length : Int)) = false := by simp [h1]
    clear hlen h1
    go_enter Tryd.func28, Tryd.ntmps28
    go_wp2_with fail
    go_loopw [5] (fun i wr => ∃ k : Nat, k ≤ l.length ∧ i = .int .i64 k ∧ Below w.heap.size w wr ∧ Hid (l.take k = m.take k)) (fun i _ => l.length - (intOf i).toNat)
    case atStart => exact ⟨0, Nat.zero_le _, rfl, Below.refl _ _, Lib.hid rfl⟩
    case round =>
      obtain ⟨k, hk, rfl, hb, HG⟩ := hrel
      have HB := Lib.hid hb
      clear hb h2
      by_cases hlt : k < l.length
      · obtain ⟨_, _, hsh, _, hS⟩ := (HR.out _ HB.out).shape
        obtain ⟨b2, o2, e2, hbl, hr⟩ := hS k hlt
        obtain rfl : ao = some ⟨b2, o2, none⟩ := by
          cases hsh
          exact e2
        have hlm : k < m.length := by have := HLn.out; omega
        obtain ⟨_, _, hsh3, _, hS3⟩ := (HS.out _ HB.out).shape
        obtain ⟨b3, o3, e3, hbl3, hr3⟩ := hS3 k hlm
        obtain rfl : bo = some ⟨b3, o3, none⟩ := by
          cases hsh3
          exact e3
        have hq1 := range_el hr HL.out k hlt
        have hq2 := range_el hr3 HM.out k hlm
        have HIQ : Hid ((Tryd.prog.info? 38).map (·.size) = some (prv l[k]).length) := Lib.hid (Tryd.infoP _ (okPs_at HL.out k hlt))
        have HIR : Hid ((Tryd.prog.info? 38).map (·.size) = some (prv m[k]).length) := Lib.hid (Tryd.infoP _ (okPs_at HM.out k hlm))
        have hqe := neqPr l[k] m[k] (okPs_at HL.out k hlt) (okPs_at HM.out k hlm)
        have HT : Hid (l[k] = m[k] → l.take (k + 1) = m.take (k + 1)) := Lib.hid (fun h => by rw [take_snoc' k hlt, take_snoc' k hlm, HG.out, h])
        have HF : Hid (l[k] ≠ m[k] → l ≠ m) := Lib.hid (fun h e => h (by subst e; rfl))
        have hk2 : (k : Int) < (l.length : Int) := by omega
        have hk3 : (k : Int) < (m.length : Int) := by omega
        clear hr hsh hS hbl e2 hr3 hsh3 hS3 hbl3 e3
        generalize prv l[k] = QV at *
        generalize prv m[k] = RV at *
        go_wp2_with fail
        refine wp_region_noPanic ?_
        refine wp_region_held_drew (S := fun W => W.rangeAt b2 (o2 + k * 20) QV ∧ W.rangeAt b3 (o3 + k * 20) RV ∧ Below wr.heap.size wr W) (by kernel_rfl) (⟨hq1, hq2, (Below.refl _ wr).drew⟩) (fun hHeld => ?_)
        refine wpAnyH_take (i := 0) (oi := { dst := some 17, op := Op.move (Operand.tmp 0), type := 40, pos := "law.go:29", after := #[], guard := none }) (v := ?_) rfl (by kernel_rfl) (by kernel_rfl) (by kernel_rfl) (fun _ _ _ h => h) (Or.inl ⟨by rfl, ?_⟩) (by assumption) ?_
        rotate_left
        · (intro ww hSw; (try dsimp only at hSw); go_simp; try with_reducible rfl)
        (try simp only [Act.put, List.setIfInBounds_toArray, List.set_cons_zero, List.set_cons_succ])
        refine wpAnyH_take (i := 1) (oi := { dst := some 18, op := Op.move (Operand.tmp 5), type := 3, pos := "law.go:29", after := #[], guard := none }) (v := ?_) rfl (by kernel_rfl) (by kernel_rfl) (by kernel_rfl) (fun _ _ _ h => h) (Or.inl ⟨by rfl, ?_⟩) (by assumption) ?_
        rotate_left
        · (intro ww hSw; (try dsimp only at hSw); go_simp; try with_reducible rfl)
        (try simp only [Act.put, List.setIfInBounds_toArray, List.set_cons_zero, List.set_cons_succ])
        refine wpAnyH_take (i := 2) (oi := { dst := some 19, op := Op.indexAddr 40 (Operand.tmp 17) (Operand.tmp 18), type := 0, pos := "law.go:29", after := #[{ on := 0, ground := Ground.data }, { on := 1, ground := Ground.data }], guard := none }) (v := ?_) rfl (by kernel_rfl) (by kernel_rfl) (by kernel_rfl) (fun _ _ _ h => h) (Or.inl ⟨by rfl, ?_⟩) (by assumption) ?_
        rotate_left
        · (intro ww hSw; (try dsimp only at hSw); go_simp; try with_reducible rfl)
        (try simp only [Act.put, List.setIfInBounds_toArray, List.set_cons_zero, List.set_cons_succ])
        refine wpAnyH_take (i := 3) (oi := { dst := some 20, op := Op.load 38 (Operand.tmp 19), type := 38, pos := "law.go:29", after := #[{ on := 2, ground := Ground.data }], guard := none }) (v := .agg (QV).toArray) rfl (by kernel_rfl) (by kernel_rfl) (by kernel_rfl) (fun _ _ _ h => h) (yieldsIf_load_mid (by rfl) _ _ rfl (b2) (o2 + k * 20) rfl (QV) _ (fun ww hSw => hSw.1) Tryd.underlying38 rfl HIQ.out) (by assumption) ?_
        (try simp only [Act.put, List.setIfInBounds_toArray, List.set_cons_zero, List.set_cons_succ])
        refine wpAnyH_take (i := 4) (oi := { dst := some 21, op := Op.move (Operand.tmp 1), type := 40, pos := "law.go:29", after := #[], guard := none }) (v := ?_) rfl (by kernel_rfl) (by kernel_rfl) (by kernel_rfl) (fun _ _ _ h => h) (Or.inl ⟨by rfl, ?_⟩) (by assumption) ?_
        rotate_left
        · (intro ww hSw; (try dsimp only at hSw); go_simp; try with_reducible rfl)
        (try simp only [Act.put, List.setIfInBounds_toArray, List.set_cons_zero, List.set_cons_succ])
        refine wpAnyH_take (i := 5) (oi := { dst := some 22, op := Op.move (Operand.tmp 5), type := 3, pos := "law.go:29", after := #[], guard := none }) (v := ?_) rfl (by kernel_rfl) (by kernel_rfl) (by kernel_rfl) (fun _ _ _ h => h) (Or.inl ⟨by rfl, ?_⟩) (by assumption) ?_
        rotate_left
        · (intro ww hSw; (try dsimp only at hSw); go_simp; try with_reducible rfl)
        (try simp only [Act.put, List.setIfInBounds_toArray, List.set_cons_zero, List.set_cons_succ])
        refine wpAnyH_take (i := 6) (oi := { dst := some 23, op := Op.indexAddr 40 (Operand.tmp 21) (Operand.tmp 22), type := 0, pos := "law.go:29", after := #[{ on := 4, ground := Ground.data }, { on := 5, ground := Ground.data }], guard := none }) (v := ?_) rfl (by kernel_rfl) (by kernel_rfl) (by kernel_rfl) (fun _ _ _ h => h) (Or.inl ⟨by rfl, ?_⟩) (by assumption) ?_
        rotate_left
        · (intro ww hSw; (try dsimp only at hSw); go_simp; try with_reducible rfl)
        (try simp only [Act.put, List.setIfInBounds_toArray, List.set_cons_zero, List.set_cons_succ])
        refine wpAnyH_take (i := 7) (oi := { dst := some 24, op := Op.load 38 (Operand.tmp 23), type := 38, pos := "law.go:29", after := #[{ on := 6, ground := Ground.data }], guard := none }) (v := .agg (RV).toArray) rfl (by kernel_rfl) (by kernel_rfl) (by kernel_rfl) (fun _ _ _ h => h) (yieldsIf_load_mid (by rfl) _ _ rfl (b3) (o3 + k * 20) rfl (RV) _ (fun ww hSw => hSw.2.1) Tryd.underlying38 rfl HIR.out) (by assumption) ?_
        (try simp only [Act.put, List.setIfInBounds_toArray, List.set_cons_zero, List.set_cons_succ])
        refine wpAnyH_take (i := 8) (oi := { dst := some 25, op := Op.binOp BinOp.neq 38 (Operand.tmp 20) (Operand.tmp 24) 38, type := 4, pos := "law.go:29", after := #[{ on := 3, ground := Ground.data }, { on := 7, ground := Ground.data }], guard := none }) (v := .bool (!decide (l[k] = m[k]'(HLn.out ▸ hlt)))) rfl (by kernel_rfl) (by kernel_rfl) (by kernel_rfl) (fun _ _ _ h => h) (Or.inl ⟨by rfl, (by intro ww hSw; go_simp)⟩) (by assumption) ?_
        (try simp only [Act.put, List.setIfInBounds_toArray, List.set_cons_zero, List.set_cons_succ])
        refine wpAnyH_done (by kernel_rfl) ?_ _
        refine NoPanic.normal ?_
        have HB2 := Lib.hid (HB.out.trans (hHeld.2.2.mono HB.out.size))
        clear hHeld hq1 hq2 hqe
        by_cases he : l[k] = m[k]
        · have hd : (!decide (l[k] = m[k])) = false := by simp [he]
          have HE := Lib.hid (HT.out he)
          clear HT HF he HG
          rw [hd]
          clear hd
          go_wp2_with fail
          go_roundw
          case rel => exact ⟨k + 1, hlt, by go_num, HB2.out, HE⟩
          case measure => simp [intOf]; omega
        · have hd : (!decide (l[k] = m[k])) = true := by simp [he]
          have HE : Hid (decide (l = m) = false) := Lib.hid (by simpa using HF.out he)
          clear HT HF he HG
          rw [hd]
          clear hd
          go_wp2_with fail
          go_ret
          exact ⟨by rw [HE.out]; rfl, HB2.out⟩
      · obtain rfl : k = l.length := by omega
        have HE : Hid (decide (l = m) = true) := Lib.hid (by
          have h := HG.out
          rw [List.take_length, HLn.out, List.take_length] at h
          simpa using h)
        clear HG
        go_wp2_with fail
        go_ret
        exact ⟨by rw [HE.out]; rfl, HB.out⟩
  · have h2 : ((l.length : Int) != (m.length : Int)) = true := by simp; omega
    have HE : Hid (decide (l = m) = false) := Lib.hid (by simpa using fun h : l = m => hlen (by rw [h]))
    clear hlen
    go_enter Tryd.func28, Tryd.ntmps28
    go_wp2_with fail
    go_ret
    exact ⟨by rw [HE.out]; rfl, Below.refl _ _⟩

theorem exec_field {P : Program} {op : Oper} {a : Act} {W : World} {v : Value} {T : TypeId} {x : Operand} {i : Nat} (ho : op.op = .field T x i) (h : (Instr.field T (a.eval x) i).run P W = .ok v W) : (execOp a.eval op).run P W = .ok (.value v) W := by
  unfold execOp
  simp only [ho, Sem.run_bind]
  rw [h]
  rfl
theorem Tryd.fldF (a0 a1 a2 a3 x0 x1 x2 x3 x4 x5 x6 x7 x8 x9 x10 x11 x12 x13 x14 x15 : Int) (W : World) : (Instr.field 38 (.agg #[.int .u8 a0, .int .u8 a1, .int .u8 a2, .int .u8 a3, .int .u8 x0, .int .u8 x1, .int .u8 x2, .int .u8 x3, .int .u8 x4, .int .u8 x5, .int .u8 x6, .int .u8 x7, .int .u8 x8, .int .u8 x9, .int .u8 x10, .int .u8 x11, .int .u8 x12, .int .u8 x13, .int .u8 x14, .int .u8 x15]) 0).run Tryd.prog W = .ok (.agg #[.int .u8 a0, .int .u8 a1, .int .u8 a2, .int .u8 a3]) W := by kernel_rfl
theorem Tryd.fldX (a0 a1 a2 a3 x0 x1 x2 x3 x4 x5 x6 x7 x8 x9 x10 x11 x12 x13 x14 x15 : Int) (W : World) : (Instr.field 38 (.agg #[.int .u8 a0, .int .u8 a1, .int .u8 a2, .int .u8 a3, .int .u8 x0, .int .u8 x1, .int .u8 x2, .int .u8 x3, .int .u8 x4, .int .u8 x5, .int .u8 x6, .int .u8 x7, .int .u8 x8, .int .u8 x9, .int .u8 x10, .int .u8 x11, .int .u8 x12, .int .u8 x13, .int .u8 x14, .int .u8 x15]) 1).run Tryd.prog W = .ok (.agg #[.int .u8 x0, .int .u8 x1, .int .u8 x2, .int .u8 x3, .int .u8 x4, .int .u8 x5, .int .u8 x6, .int .u8 x7, .int .u8 x8, .int .u8 x9, .int .u8 x10, .int .u8 x11, .int .u8 x12, .int .u8 x13, .int .u8 x14, .int .u8 x15]) W := by kernel_rfl
theorem field_f (p : List UInt8 × List UInt8) (h : okPr p) (W : World) : (Instr.field 38 (.agg (prv p).toArray) 0).run Tryd.prog W = .ok (.agg (bu p.1).toArray) W := by
  obtain ⟨x, y⟩ := p
  match x, y, h with
  | [b0, b1, b2, b3], [c0, c1, c2, c3, c4, c5, c6, c7, c8, c9, ca, cb, cc, cd, ce, cf], _ => exact Tryd.fldF _ _ _ _ _ _ _ _ _ _ _ _ _ _ _ _ _ _ _ _ W
theorem field_x (p : List UInt8 × List UInt8) (h : okPr p) (W : World) : (Instr.field 38 (.agg (prv p).toArray) 1).run Tryd.prog W = .ok (.agg (bu p.2).toArray) W := by
  obtain ⟨x, y⟩ := p
  match x, y, h with
  | [b0, b1, b2, b3], [c0, c1, c2, c3, c4, c5, c6, c7, c8, c9, ca, cb, cc, cd, ce, cf], _ => exact Tryd.fldX _ _ _ _ _ _ _ _ _ _ _ _ _ _ _ _ _ _ _ _ W
theorem one_mart (n : UInt8) (h : mart (oneP n) = false) : newE [oneP n] = 0 ∧ newL [oneP n] = [oneP n] := by
  have e : addE [] (oneP n) = 0 := addE_zero.2 ⟨h, rfl, by decide⟩
  unfold newE newL newG
  rw [if_pos e]
  exact ⟨rfl, rfl⟩
theorem aw_mart : mart (oneP 1) = false := by decide +kernel
theorem four_one (p : List UInt8 × List UInt8) : fourA [p] p.2 = p.1 ∧ fourI [p] p.2 = true := by
  unfold fourA fourI lkv sw lk
  simp
theorem six_one (p : List UInt8 × List UInt8) : sixA [p] p.1 = p.2 ∧ sixI [p] p.1 = true := by
  unfold sixA sixI lkv lk
  simp
set_option maxRecDepth 100000 in
set_option maxHeartbeats 8000000 in
theorem awake_true (w : World) (hm : Hm w) :
    Calls Tryd.prog 21 #[] w fun e w' => e = .returned (.bool true) ∧ Below w.heap.size w w' := by
  have C1 : Hid (∀ W, Calls Tryd.prog 15 #[.int .u8 1] W fun e w' => e = .returned (.agg (prv (oneP 1)).toArray) ∧ Below W.heap.size W w') := Lib.hid (fun W => one_any 1 W)
  have HM : Hid (∀ W, Below w.heap.size w W → Hm W) := Lib.hid (fun W hW => hm.below hW)
  have HBS := Lib.hid (bslice_one (oneP 1) (oneP_ok 1))
  obtain ⟨p, hp⟩ : ∃ p, p = oneP 1 := ⟨_, rfl⟩
  have HOk : Hid (okPr p) := Lib.hid (by rw [hp]; exact oneP_ok 1)
  have HN : Hid (newE [p] = 0 ∧ newL [p] = [p]) := Lib.hid (by rw [hp]; exact one_mart 1 aw_mart)
  rw [← hp] at C1 HBS
  clear hp hm
  have HI_VF : Hid ((Tryd.prog.info? 36).map (·.size) = some (bu p.1).length) := Lib.hid (Tryd.infoU4 _ (HOk.out.1))
  have HO_VF : Hid ((bu p.1).toArray.all (·.oneCell') = true) := Lib.hid (bu_one _)
  have HL_VF : Hid ((bu p.1).length = 4) := Lib.hid (by rw [bu_len]; exact HOk.out.1)
  have HI_VX : Hid ((Tryd.prog.info? 23).map (·.size) = some (bu p.2).length) := Lib.hid (Tryd.infoU6 _ (HOk.out.2))
  have HO_VX : Hid ((bu p.2).toArray.all (·.oneCell') = true) := Lib.hid (bu_one _)
  have HL_VX : Hid ((bu p.2).length = 16) := Lib.hid (by rw [bu_len]; exact HOk.out.2)
  have hff := field_f p HOk.out
  have hfx := field_x p HOk.out
  have hq4 : ∀ W, (binOp .eql 36 (.agg (bu p.1).toArray) (.agg (bu p.1).toArray)).run Tryd.prog W = .ok (.bool true) W := fun W => by
    have h := equ4 p.1 p.1 HOk.out.1 HOk.out.1 W
    rwa [show decide (p.1 = p.1) = true by simp] at h
  have hq6 : ∀ W, (binOp .eql 23 (.agg (bu p.2).toArray) (.agg (bu p.2).toArray)).run Tryd.prog W = .ok (.bool true) W := fun W => by
    have h := equ6 p.2 p.2 HOk.out.2 HOk.out.2 W
    rwa [show decide (p.2 = p.2) = true by simp] at h
  have HFF := Lib.hid hff
  have HFX := Lib.hid hfx
  have HQ4 := Lib.hid hq4
  have HQ6 := Lib.hid hq6
  have CN : Hid (∀ W g, Hm W → g < W.heap.size → Bk W g 38 (prv p).toArray → Calls Tryd.prog 14 #[.slice (some ⟨g, 0, none⟩) 1 1] W fun e w' => Below W.heap.size W w' ∧ e = .returned (.tuple #[.pointer (some ⟨W.heap.size, 0, none⟩), .int .i64 0]) ∧ Tb w' W.heap.size [p]) := Lib.hid (fun W g hmW hlt hB => by
    refine (new_any (.slice (some ⟨g, 0, none⟩) 1 1) [p] W (.inr ⟨_, 1, rfl, Nat.le_refl _, .inr ⟨g, 0, rfl, hlt, by rw [prV_one]; exact hB.range⟩⟩) (by intro q hq; rw [List.mem_singleton.1 hq]; exact HOk.out) (by simp) hmW).mono ?_
    rintro e w' ⟨h1, ⟨_, h2, h3⟩ | ⟨h2, _⟩⟩
    · exact ⟨h1, h2, by rw [HN.out.2] at h3; exact h3⟩
    · exact absurd HN.out.1 h2)
  have C4 : Hid (∀ W b, Tb W b [p] → Calls Tryd.prog 25 #[.pointer (some ⟨b, 0, none⟩), .agg (bu p.2).toArray] W fun e w' => e = .returned (.tuple #[.agg (bu p.1).toArray, .bool true]) ∧ Below W.heap.size W w') := Lib.hid (fun W b hT => by
    have h := four_any b [p] p.2 W hT HOk.out.2
    rwa [(four_one p).1, (four_one p).2] at h)
  have C6 : Hid (∀ W b, Tb W b [p] → Calls Tryd.prog 16 #[.pointer (some ⟨b, 0, none⟩), .agg (bu p.1).toArray] W fun e w' => e = .returned (.tuple #[.agg (bu p.2).toArray, .bool true]) ∧ Below W.heap.size W w') := Lib.hid (fun W b hT => by
    have h := six_any b [p] p.1 W hT HOk.out.1
    rwa [(six_one p).1, (six_one p).2] at h)
  have CL : Hid (∀ W b, Tb W b [p] → Calls Tryd.prog 19 #[.pointer (some ⟨b, 0, none⟩)] W fun e w' => e = .returned (.int .i64 1) ∧ W = w') := Lib.hid (fun W b hT => len_any b [p] W hT)
  clear hff hfx hq4 hq6 HN HOk
  generalize bu p.1 = VF at *
  generalize bu p.2 = VX at *
  generalize hPV : prv p = PV at *
  clear hPV
  go_enter Tryd.func21, Tryd.ntmps21
  go_wp2_with fail
  refine (C1.out _).mono ?_
  rintro e w1 ⟨rfl, hb1⟩
  have HB1 := Lib.hid hb1
  clear hb1
  have HBs := Lib.hid (bk_new w1 38 PV.toArray)
  have HW2 : Hid (Below w.heap.size w (w1.alloc (.cells PV.toArray 38))) := Lib.hid (HB1.out.alloc HB1.out.size _)
  have HLt := Lib.hid HBs.out.lt
  go_wp2_with (((with_reducible (change wpList _ _ _ _ _ _)); (refine wpList_bslice rfl rfl (by simp only [List.map_toArray]; rfl) (HBS.out _) ?_)))
  clear HB1
  generalize w1.alloc (.cells PV.toArray 38) = w2 at *
  generalize w1.heap.size = g at *
  refine (CN.out _ _ (HM.out _ HW2.out) HLt.out HBs.out).mono ?_
  rintro e w3 ⟨hb3, rfl, hT3⟩
  have HK3 : Hid (Kp w w.heap.size [] w3) := Lib.hid ⟨fun x hx => (by cases hx), HW2.out.trans (hb3.mono HW2.out.size), Nat.le_trans HW2.out.size hb3.size⟩
  have HT : Hid (∀ W, Below w3.heap.size w3 W → Tb W w2.heap.size [p]) := Lib.hid (fun W hW => hT3.below hW)
  have HR3 := Lib.hid (Below.refl w3.heap.size w3)
  clear hb3 hT3 HBs HW2 HLt CN HM HBS
  generalize w2.heap.size = b at *
  go_wp2_with (fail)
  refine (C1.out _).mono ?_
  rintro e w4 ⟨rfl, bb⟩
  have HK4 := Lib.hid (HK3.out.below bb (Nat.le_refl _))
  have HR4 := Lib.hid (HR3.out.trans (bb.mono HR3.out.size))
  clear bb HK3 HR3
  go_wp2_with (((with_reducible (change wpList _ _ _ _ _ _)); ((refine Great.wpList_readTo rfl _ rfl (.agg VX.toArray) (exec_field rfl (HFX.out _)) ?_))))
  refine (C4.out _ _ (HT.out _ HR4.out)).mono ?_
  rintro e w5 ⟨rfl, bb⟩
  have HK5 := Lib.hid (HK4.out.below bb (Nat.le_refl _))
  have HR5 := Lib.hid (HR4.out.trans (bb.mono HR4.out.size))
  clear bb HK4 HR4
  have hR := below_sets VF HR5.out.size 0 _ (HR5.out.alloc HR5.out.size (.cells ([.int .u8 0, .int .u8 0, .int .u8 0, .int .u8 0] : List Value).toArray 36))
  have HR6 := Lib.hid hR
  clear hR HR5
  have ht := (bk_new w5 36 ([.int .u8 0, .int .u8 0, .int .u8 0, .int .u8 0] : List Value).toArray).there VF.toArray.size (by have := HL_VF.out; simp; omega)
  go_upto_region 3 with (((with_reducible (change wpList _ _ _ _ _ _)); ((refine wpList_store_mid rfl 36 _ _ rfl w5.heap.size 0 VF.toArray rfl rfl ht (by simpa using HI_VF.out) HO_VF.out ?_))))
  have HK6 := Lib.hid (HK5.out.put 36 ([.int .u8 0, .int .u8 0, .int .u8 0, .int .u8 0] : List Value).toArray VF (by have := HL_VF.out; simp; omega))
  clear ht HK5
  generalize (w5.alloc (.cells ([.int .u8 0, .int .u8 0, .int .u8 0, .int .u8 0] : List Value).toArray 36)).setCells w5.heap.size 0 VF = w6 at *
  generalize w5.heap.size = g1 at *
  go_wp2_with (fail)
  refine (C1.out _).mono ?_
  rintro e w7 ⟨rfl, bb⟩
  have HK7 := Lib.hid (HK6.out.below bb (Nat.le_refl _))
  have HR7 := Lib.hid (HR6.out.trans (bb.mono HR6.out.size))
  clear bb HK6 HR6
  go_wp2_with (((with_reducible (change wpList _ _ _ _ _ _)); ((refine Great.wpList_readTo rfl _ rfl (.agg VF.toArray) (exec_field rfl (HFF.out _)) ?_))))
  refine (C6.out _ _ (HT.out _ HR7.out)).mono ?_
  rintro e w8 ⟨rfl, bb⟩
  have HK8 := Lib.hid (HK7.out.below bb (Nat.le_refl _))
  have HR8 := Lib.hid (HR7.out.trans (bb.mono HR7.out.size))
  clear bb HK7 HR7
  have hR := below_sets VX HR8.out.size 0 _ (HR8.out.alloc HR8.out.size (.cells ([.int .u8 0, .int .u8 0, .int .u8 0, .int .u8 0, .int .u8 0, .int .u8 0, .int .u8 0, .int .u8 0, .int .u8 0, .int .u8 0, .int .u8 0, .int .u8 0, .int .u8 0, .int .u8 0, .int .u8 0, .int .u8 0] : List Value).toArray 23))
  have HR9 := Lib.hid hR
  clear hR HR8
  have ht := (bk_new w8 23 ([.int .u8 0, .int .u8 0, .int .u8 0, .int .u8 0, .int .u8 0, .int .u8 0, .int .u8 0, .int .u8 0, .int .u8 0, .int .u8 0, .int .u8 0, .int .u8 0, .int .u8 0, .int .u8 0, .int .u8 0, .int .u8 0] : List Value).toArray).there VX.toArray.size (by have := HL_VX.out; simp; omega)
  go_upto_region 4 with (((with_reducible (change wpList _ _ _ _ _ _)); ((refine wpList_store_mid rfl 23 _ _ rfl w8.heap.size 0 VX.toArray rfl rfl ht (by simpa using HI_VX.out) HO_VX.out ?_))))
  have HK9 := Lib.hid (HK8.out.put 23 ([.int .u8 0, .int .u8 0, .int .u8 0, .int .u8 0, .int .u8 0, .int .u8 0, .int .u8 0, .int .u8 0, .int .u8 0, .int .u8 0, .int .u8 0, .int .u8 0, .int .u8 0, .int .u8 0, .int .u8 0, .int .u8 0] : List Value).toArray VX (by have := HL_VX.out; simp; omega))
  clear ht HK8
  generalize (w8.alloc (.cells ([.int .u8 0, .int .u8 0, .int .u8 0, .int .u8 0, .int .u8 0, .int .u8 0, .int .u8 0, .int .u8 0, .int .u8 0, .int .u8 0, .int .u8 0, .int .u8 0, .int .u8 0, .int .u8 0, .int .u8 0, .int .u8 0] : List Value).toArray 23)).setCells w8.heap.size 0 VX = w9 at *
  generalize w8.heap.size = g2 at *
  have hq4 := HQ4.out
  have hq6 := HQ6.out
  have HKR : Hid (∀ W, Kp w w.heap.size [(g2, 23, VX), (g1, 36, VF)] W → Below w3.heap.size w3 W → (fun W => Kp w w.heap.size [(g2, 23, VX), (g1, 36, VF)] W ∧ Below w3.heap.size w3 W ∧ W.rangeAt g2 0 VX ∧ W.rangeAt g1 0 VF) W) := Lib.hid (fun W k r => ⟨k, r, k.hd.range, k.tl.hd.range⟩)
  refine wp_region_noPanic ?_
  refine wp_region_held_drew (S := fun W => Kp w w.heap.size [(g2, 23, VX), (g1, 36, VF)] W ∧ Below w3.heap.size w3 W ∧ W.rangeAt g2 0 VX ∧ W.rangeAt g1 0 VF) (by kernel_rfl) (HKR.out _ HK9.out.drew HR9.out.drew) (fun hHeld => ?_)
  refine wpAnyH_take (i := 0) (oi := { dst := some 27, op := Op.move (Operand.tmp 2), type := 32, pos := "law.go:20", after := #[], guard := none }) (v := ?_) rfl (by kernel_rfl) (by kernel_rfl) (by kernel_rfl) (fun _ _ _ h => h) (Or.inl ⟨by rfl, ?_⟩) (by assumption) ?_
  rotate_left
  · (intro ww hSw; (try dsimp only at hSw); go_simp; try with_reducible rfl)
  (try simp only [Act.put, List.setIfInBounds_toArray, List.set_cons_zero, List.set_cons_succ])
  refine wpAnyH_take (i := 1) (oi := { dst := some 28, op := Op.binOp BinOp.eql 32 (Operand.tmp 27) (Operand.const (Value.int IntKind.i64 0)) 32, type := 4, pos := "law.go:20", after := #[{ on := 0, ground := Ground.data }], guard := none }) (v := ?_) rfl (by kernel_rfl) (by kernel_rfl) (by kernel_rfl) (fun _ _ _ h => h) (Or.inl ⟨by rfl, ?_⟩) (by assumption) ?_
  rotate_left
  · (intro ww hSw; (try dsimp only at hSw); go_simp; try with_reducible rfl)
  (try simp only [Act.put, List.setIfInBounds_toArray, List.set_cons_zero, List.set_cons_succ])
  refine wpAnyH_take (i := 2) (oi := { dst := some 29, op := Op.move (Operand.tmp 28), type := 4, pos := "law.go:20", after := #[{ on := 1, ground := Ground.data }], guard := none }) (v := ?_) rfl (by kernel_rfl) (by kernel_rfl) (by kernel_rfl) (fun _ _ _ h => h) (Or.inl ⟨by rfl, ?_⟩) (by assumption) ?_
  rotate_left
  · (intro ww hSw; (try dsimp only at hSw); go_simp; try with_reducible rfl)
  (try simp only [Act.put, List.setIfInBounds_toArray, List.set_cons_zero, List.set_cons_succ])
  refine wpAnyH_take (i := 3) (oi := { dst := some 30, op := Op.move (Operand.tmp 4), type := 4, pos := "law.go:20", after := #[{ on := 2, ground := Ground.guard }], guard := some (2, true) }) (v := ?_) rfl (by kernel_rfl) (by kernel_rfl) (by kernel_rfl) (fun _ _ _ h => h) (Or.inl ⟨by rfl, ?_⟩) (by assumption) ?_
  rotate_left
  · (intro ww hSw; (try dsimp only at hSw); go_simp; try with_reducible rfl)
  (try simp only [Act.put, List.setIfInBounds_toArray, List.set_cons_zero, List.set_cons_succ])
  refine wpAnyH_take (i := 4) (oi := { dst := some 31, op := Op.pick (Operand.tmp 29) (Operand.tmp 30) (Operand.const (Value.bool false)), type := 4, pos := "law.go:20", after := #[{ on := 2, ground := Ground.data }, { on := 3, ground := Ground.data }], guard := none }) (v := ?_) rfl (by kernel_rfl) (by kernel_rfl) (by kernel_rfl) (fun _ _ _ h => h) (Or.inl ⟨by rfl, ?_⟩) (by assumption) ?_
  rotate_left
  · (intro ww hSw; (try dsimp only at hSw); go_simp; try with_reducible rfl)
  (try simp only [Act.put, List.setIfInBounds_toArray, List.set_cons_zero, List.set_cons_succ])
  refine wpAnyH_take (i := 5) (oi := { dst := some 32, op := Op.move (Operand.tmp 31), type := 4, pos := "law.go:20", after := #[{ on := 4, ground := Ground.data }, { on := 2, ground := Ground.chain }], guard := none }) (v := ?_) rfl (by kernel_rfl) (by kernel_rfl) (by kernel_rfl) (fun _ _ _ h => h) (Or.inl ⟨by rfl, ?_⟩) (by assumption) ?_
  rotate_left
  · (intro ww hSw; (try dsimp only at hSw); go_simp; try with_reducible rfl)
  (try simp only [Act.put, List.setIfInBounds_toArray, List.set_cons_zero, List.set_cons_succ])
  refine wpAnyH_take (i := 6) (oi := { dst := some 33, op := Op.move (Operand.tmp 6), type := 4, pos := "law.go:20", after := #[{ on := 5, ground := Ground.guard }], guard := some (5, true) }) (v := ?_) rfl (by kernel_rfl) (by kernel_rfl) (by kernel_rfl) (fun _ _ _ h => h) (Or.inl ⟨by rfl, ?_⟩) (by assumption) ?_
  rotate_left
  · (intro ww hSw; (try dsimp only at hSw); go_simp; try with_reducible rfl)
  (try simp only [Act.put, List.setIfInBounds_toArray, List.set_cons_zero, List.set_cons_succ])
  refine wpAnyH_take (i := 7) (oi := { dst := some 34, op := Op.pick (Operand.tmp 32) (Operand.tmp 33) (Operand.const (Value.bool false)), type := 4, pos := "law.go:20", after := #[{ on := 5, ground := Ground.data }, { on := 6, ground := Ground.data }], guard := none }) (v := ?_) rfl (by kernel_rfl) (by kernel_rfl) (by kernel_rfl) (fun _ _ _ h => h) (Or.inl ⟨by rfl, ?_⟩) (by assumption) ?_
  rotate_left
  · (intro ww hSw; (try dsimp only at hSw); go_simp; try with_reducible rfl)
  (try simp only [Act.put, List.setIfInBounds_toArray, List.set_cons_zero, List.set_cons_succ])
  refine wpAnyH_take (i := 8) (oi := { dst := some 35, op := Op.move (Operand.tmp 34), type := 4, pos := "law.go:20", after := #[{ on := 7, ground := Ground.data }, { on := 5, ground := Ground.chain }], guard := none }) (v := ?_) rfl (by kernel_rfl) (by kernel_rfl) (by kernel_rfl) (fun _ _ _ h => h) (Or.inl ⟨by rfl, ?_⟩) (by assumption) ?_
  rotate_left
  · (intro ww hSw; (try dsimp only at hSw); go_simp; try with_reducible rfl)
  (try simp only [Act.put, List.setIfInBounds_toArray, List.set_cons_zero, List.set_cons_succ])
  refine wpAnyH_take (i := 9) (oi := { dst := some 36, op := Op.load 36 (Operand.tmp 3), type := 36, pos := "law.go:20", after := #[{ on := 8, ground := Ground.guard }], guard := some (8, true) }) (v := .agg (VF).toArray) rfl (by kernel_rfl) (by kernel_rfl) (by kernel_rfl) (fun _ _ _ h => h) (yieldsIf_load_mid (by rfl) _ _ rfl (g1) 0 rfl (VF) _ (fun ww hSw => hSw.2.2.2) Tryd.underlying36 rfl HI_VF.out) (by assumption) ?_
  (try simp only [Act.put, List.setIfInBounds_toArray, List.set_cons_zero, List.set_cons_succ])
  refine wpAnyH_ready (rs := [10]) (by kernel_rfl) (by simp) ?_
  refine AllReadyH.cons (o := { dst := some 37, op := Op.call { callee := Callee.value (Operand.func 15), args := #[Operand.const (Value.int IntKind.u8 1)], argTypes := #[5] }, type := 38, pos := "law.go:20", after := #[{ on := 8, ground := Ground.chain }, { on := 8, ground := Ground.guard }], guard := some (8, true) }) rfl (fun K hK => ?_) AllReadyH.nil
  go_simp
  ((with_reducible refine (C1.out _).mono ?_); rintro e w9 ⟨rfl, hb9⟩)
  refine hK.out _ _ (HKR.out _ (hHeld.1.below hb9 (Nat.le_refl _)) (hHeld.2.1.trans (hb9.mono hHeld.2.1.size))) (fun hHeld => ?_)
  clear hK K
  (try simp only [Act.put, List.setIfInBounds_toArray, List.set_cons_zero, List.set_cons_succ])
  refine wpAnyH_take (i := 11) (oi := { dst := some 38, op := Op.field 38 (Operand.tmp 37) 0, type := 36, pos := "law.go:20", after := #[{ on := 10, ground := Ground.data }, { on := 8, ground := Ground.guard }], guard := some (8, true) }) (v := (.agg VF.toArray)) rfl (by kernel_rfl) (by kernel_rfl) (by kernel_rfl) (fun _ _ _ h => h) (Or.inl ⟨by rfl, fun ww _ => exec_field rfl (HFF.out ww)⟩) (by assumption) ?_
  (try simp only [Act.put, List.setIfInBounds_toArray, List.set_cons_zero, List.set_cons_succ])
  refine wpAnyH_take (i := 12) (oi := { dst := some 39, op := Op.binOp BinOp.eql 36 (Operand.tmp 36) (Operand.tmp 38) 36, type := 4, pos := "law.go:20", after := #[{ on := 9, ground := Ground.data }, { on := 11, ground := Ground.data }, { on := 8, ground := Ground.guard }], guard := some (8, true) }) (v := .bool true) rfl (by kernel_rfl) (by kernel_rfl) (by kernel_rfl) (fun _ _ _ h => h) (Or.inl ⟨by rfl, (by intro ww hSw; go_simp)⟩) (by assumption) ?_
  (try simp only [Act.put, List.setIfInBounds_toArray, List.set_cons_zero, List.set_cons_succ])
  refine wpAnyH_take (i := 13) (oi := { dst := some 40, op := Op.pick (Operand.tmp 35) (Operand.tmp 39) (Operand.const (Value.bool false)), type := 4, pos := "law.go:20", after := #[{ on := 8, ground := Ground.data }, { on := 12, ground := Ground.data }], guard := none }) (v := ?_) rfl (by kernel_rfl) (by kernel_rfl) (by kernel_rfl) (fun _ _ _ h => h) (Or.inl ⟨by rfl, ?_⟩) (by assumption) ?_
  rotate_left
  · (intro ww hSw; (try dsimp only at hSw); go_simp; try with_reducible rfl)
  (try simp only [Act.put, List.setIfInBounds_toArray, List.set_cons_zero, List.set_cons_succ])
  refine wpAnyH_take (i := 14) (oi := { dst := some 41, op := Op.move (Operand.tmp 40), type := 4, pos := "law.go:20", after := #[{ on := 13, ground := Ground.data }, { on := 10, ground := Ground.chain }], guard := none }) (v := ?_) rfl (by kernel_rfl) (by kernel_rfl) (by kernel_rfl) (fun _ _ _ h => h) (Or.inl ⟨by rfl, ?_⟩) (by assumption) ?_
  rotate_left
  · (intro ww hSw; (try dsimp only at hSw); go_simp; try with_reducible rfl)
  (try simp only [Act.put, List.setIfInBounds_toArray, List.set_cons_zero, List.set_cons_succ])
  refine wpAnyH_take (i := 15) (oi := { dst := some 42, op := Op.load 23 (Operand.tmp 5), type := 23, pos := "law.go:20", after := #[{ on := 14, ground := Ground.guard }], guard := some (14, true) }) (v := .agg (VX).toArray) rfl (by kernel_rfl) (by kernel_rfl) (by kernel_rfl) (fun _ _ _ h => h) (yieldsIf_load_mid (by rfl) _ _ rfl (g2) 0 rfl (VX) _ (fun ww hSw => hSw.2.2.1) Tryd.underlying23 rfl HI_VX.out) (by assumption) ?_
  (try simp only [Act.put, List.setIfInBounds_toArray, List.set_cons_zero, List.set_cons_succ])
  refine wpAnyH_ready (rs := [16]) (by kernel_rfl) (by simp) ?_
  refine AllReadyH.cons (o := { dst := some 43, op := Op.call { callee := Callee.value (Operand.func 15), args := #[Operand.const (Value.int IntKind.u8 1)], argTypes := #[5] }, type := 38, pos := "law.go:20", after := #[{ on := 14, ground := Ground.chain }, { on := 14, ground := Ground.guard }], guard := some (14, true) }) rfl (fun K hK => ?_) AllReadyH.nil
  go_simp
  ((with_reducible refine (C1.out _).mono ?_); rintro e w9 ⟨rfl, hb9⟩)
  refine hK.out _ _ (HKR.out _ (hHeld.1.below hb9 (Nat.le_refl _)) (hHeld.2.1.trans (hb9.mono hHeld.2.1.size))) (fun hHeld => ?_)
  clear hK K
  (try simp only [Act.put, List.setIfInBounds_toArray, List.set_cons_zero, List.set_cons_succ])
  refine wpAnyH_take (i := 17) (oi := { dst := some 44, op := Op.field 38 (Operand.tmp 43) 1, type := 23, pos := "law.go:20", after := #[{ on := 16, ground := Ground.data }, { on := 14, ground := Ground.guard }], guard := some (14, true) }) (v := (.agg VX.toArray)) rfl (by kernel_rfl) (by kernel_rfl) (by kernel_rfl) (fun _ _ _ h => h) (Or.inl ⟨by rfl, fun ww _ => exec_field rfl (HFX.out ww)⟩) (by assumption) ?_
  (try simp only [Act.put, List.setIfInBounds_toArray, List.set_cons_zero, List.set_cons_succ])
  refine wpAnyH_take (i := 18) (oi := { dst := some 45, op := Op.binOp BinOp.eql 23 (Operand.tmp 42) (Operand.tmp 44) 23, type := 4, pos := "law.go:20", after := #[{ on := 15, ground := Ground.data }, { on := 17, ground := Ground.data }, { on := 14, ground := Ground.guard }], guard := some (14, true) }) (v := .bool true) rfl (by kernel_rfl) (by kernel_rfl) (by kernel_rfl) (fun _ _ _ h => h) (Or.inl ⟨by rfl, (by intro ww hSw; go_simp)⟩) (by assumption) ?_
  (try simp only [Act.put, List.setIfInBounds_toArray, List.set_cons_zero, List.set_cons_succ])
  refine wpAnyH_take (i := 19) (oi := { dst := some 46, op := Op.pick (Operand.tmp 41) (Operand.tmp 45) (Operand.const (Value.bool false)), type := 4, pos := "law.go:20", after := #[{ on := 14, ground := Ground.data }, { on := 18, ground := Ground.data }], guard := none }) (v := ?_) rfl (by kernel_rfl) (by kernel_rfl) (by kernel_rfl) (fun _ _ _ h => h) (Or.inl ⟨by rfl, ?_⟩) (by assumption) ?_
  rotate_left
  · (intro ww hSw; (try dsimp only at hSw); go_simp; try with_reducible rfl)
  (try simp only [Act.put, List.setIfInBounds_toArray, List.set_cons_zero, List.set_cons_succ])
  refine wpAnyH_take (i := 20) (oi := { dst := some 47, op := Op.move (Operand.tmp 46), type := 4, pos := "law.go:20", after := #[{ on := 19, ground := Ground.data }, { on := 16, ground := Ground.chain }], guard := none }) (v := ?_) rfl (by kernel_rfl) (by kernel_rfl) (by kernel_rfl) (fun _ _ _ h => h) (Or.inl ⟨by rfl, ?_⟩) (by assumption) ?_
  rotate_left
  · (intro ww hSw; (try dsimp only at hSw); go_simp; try with_reducible rfl)
  (try simp only [Act.put, List.setIfInBounds_toArray, List.set_cons_zero, List.set_cons_succ])
  refine wpAnyH_take (i := 21) (oi := { dst := some 48, op := Op.move (Operand.tmp 1), type := 31, pos := "law.go:20", after := #[{ on := 20, ground := Ground.guard }], guard := some (20, true) }) (v := ?_) rfl (by kernel_rfl) (by kernel_rfl) (by kernel_rfl) (fun _ _ _ h => h) (Or.inl ⟨by rfl, ?_⟩) (by assumption) ?_
  rotate_left
  · (intro ww hSw; (try dsimp only at hSw); go_simp; try with_reducible rfl)
  (try simp only [Act.put, List.setIfInBounds_toArray, List.set_cons_zero, List.set_cons_succ])
  refine wpAnyH_ready (rs := [22]) (by kernel_rfl) (by simp) ?_
  refine AllReadyH.cons (o := { dst := some 49, op := Op.call { callee := Callee.value (Operand.func 19), args := #[Operand.tmp 48], argTypes := #[31] }, type := 3, pos := "law.go:20", after := #[{ on := 21, ground := Ground.data }, { on := 20, ground := Ground.chain }, { on := 20, ground := Ground.guard }], guard := some (20, true) }) rfl (fun K hK => ?_) AllReadyH.nil
  go_simp
  ((with_reducible refine (CL.out _ _ (HT.out _ hHeld.2.1)).mono ?_); rintro e w9 ⟨rfl, rfl⟩)
  refine hK.out _ _ (hHeld) (fun hHeld => ?_)
  clear hK K
  (try simp only [Act.put, List.setIfInBounds_toArray, List.set_cons_zero, List.set_cons_succ])
  refine wpAnyH_take (i := 23) (oi := { dst := some 50, op := Op.binOp BinOp.eql 3 (Operand.tmp 49) (Operand.const (Value.int IntKind.i64 1)) 3, type := 4, pos := "law.go:20", after := #[{ on := 22, ground := Ground.data }, { on := 20, ground := Ground.guard }], guard := some (20, true) }) (v := ?_) rfl (by kernel_rfl) (by kernel_rfl) (by kernel_rfl) (fun _ _ _ h => h) (Or.inl ⟨by rfl, ?_⟩) (by assumption) ?_
  rotate_left
  · (intro ww hSw; (try dsimp only at hSw); go_simp; try with_reducible rfl)
  (try simp only [Act.put, List.setIfInBounds_toArray, List.set_cons_zero, List.set_cons_succ])
  refine wpAnyH_take (i := 24) (oi := { dst := some 51, op := Op.pick (Operand.tmp 47) (Operand.tmp 50) (Operand.const (Value.bool false)), type := 4, pos := "law.go:20", after := #[{ on := 20, ground := Ground.data }, { on := 23, ground := Ground.data }], guard := none }) (v := ?_) rfl (by kernel_rfl) (by kernel_rfl) (by kernel_rfl) (fun _ _ _ h => h) (Or.inl ⟨by rfl, ?_⟩) (by assumption) ?_
  rotate_left
  · (intro ww hSw; (try dsimp only at hSw); go_simp; try with_reducible rfl)
  (try simp only [Act.put, List.setIfInBounds_toArray, List.set_cons_zero, List.set_cons_succ])
  refine wpAnyH_take (i := 25) (oi := { dst := some 0, op := Op.assign (Operand.tmp 51), type := 4, pos := "law.go:20", after := #[{ on := 24, ground := Ground.data }, { on := 22, ground := Ground.chain }, { on := 0, ground := Ground.phase }, { on := 1, ground := Ground.phase }, { on := 2, ground := Ground.phase }, { on := 3, ground := Ground.phase }, { on := 4, ground := Ground.phase }, { on := 5, ground := Ground.phase }, { on := 6, ground := Ground.phase }, { on := 7, ground := Ground.phase }, { on := 8, ground := Ground.phase }, { on := 9, ground := Ground.phase }, { on := 10, ground := Ground.phase }, { on := 11, ground := Ground.phase }, { on := 12, ground := Ground.phase }, { on := 13, ground := Ground.phase }, { on := 14, ground := Ground.phase }, { on := 15, ground := Ground.phase }, { on := 16, ground := Ground.phase }, { on := 17, ground := Ground.phase }, { on := 18, ground := Ground.phase }, { on := 19, ground := Ground.phase }, { on := 20, ground := Ground.phase }, { on := 21, ground := Ground.phase }, { on := 22, ground := Ground.phase }, { on := 23, ground := Ground.phase }, { on := 24, ground := Ground.phase }], guard := none }) (v := ?_) rfl (by kernel_rfl) (by kernel_rfl) (by kernel_rfl) (fun _ _ _ h => h) (Or.inl ⟨by rfl, ?_⟩) (by assumption) ?_
  rotate_left
  · (intro ww hSw; (try dsimp only at hSw); go_simp; try with_reducible rfl)
  (try simp only [Act.put, List.setIfInBounds_toArray, List.set_cons_zero])
  refine wpAnyH_done (by kernel_rfl) ?_ _
  refine NoPanic.normal ?_
  have HE := Lib.hid hHeld.1
  clear hHeld
  go_wp2_with fail
  go_ret
  exact ⟨rfl, HE.out.2.1⟩
end Go.Proofs.YtchdagdmbjpmcaaDoor
