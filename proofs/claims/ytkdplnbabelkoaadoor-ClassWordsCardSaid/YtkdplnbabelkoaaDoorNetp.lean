/-
  Proved here: what the program's ParseNet4 and ParseNet6 answer.
  Conditions: a text that the library's cut takes; the library's MaxLen holds some number.
-/
import Derived.Test.YtkdplnbabelkoaaDoorPnn
import Derived.Test.YtkdplnbabelkoaaDoorSixp
import Derived.Test.YtkdplnbabelkoaaDoorLen
import Derived.Test.YtkdplnbabelkoaaDoorMarts
namespace Go.Proofs.YtkdplnbabelkoaaDoor
open Go.RowKit

theorem run_execN {P : Program} {op : Oper} {a : Act} {w : World} {v : Value} {T : TypeId} {l : Array (Nat × Operand)} {m : Array (Nat × Value)} (ho : op.op = .build T l) (hm : l.map (fun p => (p.1, a.eval p.2)) = m) (h : (Instr.build T m).run P w = .ok v w) : (execOp a.eval op).run P w = .ok (.value v) w := by
  unfold execOp
  simp only [ho, Sem.run_bind]
  rw [← hm] at h
  have e : (l.map fun x => match x with | (i, x) => (i, a.eval x)) = l.map (fun p => (p.1, a.eval p.2)) := rfl
  rw [e, h]
  rfl
theorem Tryd.bN6 (a0 a1 a2 a3 a4 a5 a6 a7 a8 a9 aa ab ac ad ae af n : Int) (W : World) : (Instr.build 36 #[(0, .agg #[.int .u8 a0, .int .u8 a1, .int .u8 a2, .int .u8 a3, .int .u8 a4, .int .u8 a5, .int .u8 a6, .int .u8 a7, .int .u8 a8, .int .u8 a9, .int .u8 aa, .int .u8 ab, .int .u8 ac, .int .u8 ad, .int .u8 ae, .int .u8 af]), (1, .int .i64 n)]).run Tryd.prog W = .ok (.agg #[.int .u8 a0, .int .u8 a1, .int .u8 a2, .int .u8 a3, .int .u8 a4, .int .u8 a5, .int .u8 a6, .int .u8 a7, .int .u8 a8, .int .u8 a9, .int .u8 aa, .int .u8 ab, .int .u8 ac, .int .u8 ad, .int .u8 ae, .int .u8 af, .int .i64 n]) W := by kernel_rfl
theorem bN6v (p : Nn) (h : p.ad.length = 16) (W : World) : (Instr.build 36 #[(0, .agg (bu p.ad).toArray), (1, .int .i64 p.ln)]).run Tryd.prog W = .ok (.agg p.vals.toArray) W := by
  obtain ⟨l, n⟩ := p
  match l, h with
  | [a, b, c, d, e, f, g, i, j, k, m, o, q, r, s, t], _ => exact Tryd.bN6 _ _ _ _ _ _ _ _ _ _ _ _ _ _ _ _ _ W
theorem cutA_size (s : ByteArray) : (cutA s).size ≤ s.size := by
  have h := cut_R [47] s.data.toList (by decide)
  have e : (cutA s).size = (Lib.cut s.data.toList [47]).1.length := by unfold cutA; simp [ByteArray.size]
  have hs : s.data.toList.length = s.size := ba_size s
  rw [e, ← hs]
  unfold Lib.cut
  split
  · rw [List.length_take]; omega
  · exact Nat.le_refl _
theorem Tryd.execZN6 (ρ : Operand → Value) (d : Option Tmp) (ty : TypeId) (ps : String) (af : Array Edge) (gd : Option (Nat × Bool)) (w : World) : (execOp ρ { dst := d, op := .build 36 #[], type := ty, pos := ps, after := af, guard := gd }).run Tryd.prog w = .ok (.value (.agg zeroN6.vals.toArray)) w := by kernel_rfl
set_option maxRecDepth 100000 in
set_option maxHeartbeats 8000000 in
theorem parsenet4_any (s : ByteArray) (w : World) (hs : s.size < 4294967281) (hm : ML w) :
    Calls Tryd.prog 15 #[.string s] w fun e w' => e = .returned (.tuple #[.agg (valN4 s).vals.toArray, .bool (okN4 s)]) ∧ Below w.heap.size w w' := by
  have CC := Lib.hid (fun W m (h : W.cell? ⟨5, 0, none⟩ = some (.int .i64 m)) => Tryd.strings_Cut s ⟨#[47]⟩ m W hs h)
  have es : (⟨#[47]⟩ : ByteArray).data.toList = [47] := rfl
  rw [es] at CC
  obtain ⟨A, hA⟩ : ∃ A : ByteArray, A = cutA s := ⟨_, rfl⟩
  obtain ⟨B2, hB2⟩ : ∃ B2 : ByteArray, B2 = cutB s := ⟨_, rfl⟩
  have hA2 : (⟨(Lib.cut s.data.toList [47]).1.toArray⟩ : ByteArray) = A := hA.symm
  have hB3 : (⟨(Lib.cut s.data.toList [47]).2.1.toArray⟩ : ByteArray) = B2 := hB2.symm
  rw [hA2, hB3] at CC
  generalize (Lib.cut s.data.toList [47]).2.2 = sh at *
  obtain ⟨h1, h2⟩ := okN4_p s
  have CP : Hid (∀ W, Calls Tryd.prog 14 #[.string A] W fun e w' => e = .returned (.tuple #[.agg (bu (pN4 s).ad).toArray, .bool (ok4 A)]) ∧ Below W.heap.size W w') := Lib.hid (fun W => by
    have h := parse4_any (cutA s) W
    rw [← val4u_b8, ← hA] at h
    have e : (pN4 s).ad = val4u A := by rw [hA]; rfl
    rw [e]
    exact h)
  have CL : Hid (∀ W, Calls Tryd.prog 47 #[.string B2, .int .i64 32] W fun e w' => e = .returned (.tuple #[.int .i64 (pN4 s).ln, .bool (leno B2 32)]) ∧ Below W.heap.size W w') := Lib.hid (fun W => by
    have h := length_any B2 32 W
    have e : (pN4 s).ln = lenv B2 32 := by rw [hB2]; rfl
    rw [e]
    exact h)
  rw [← hA, ← hB2] at h1
  have HL4 : Hid ((pN4 s).ad.length = 4) := Lib.hid (val4u_len _)
  generalize okN4 s = ok at *
  have HOk := Lib.hid h1
  generalize hR : (valN4 s).vals = VR at *
  obtain ⟨VZ, hVZ⟩ : ∃ VZ, VZ = zeroN4.vals := ⟨_, rfl⟩
  have HW : Hid (VR = if ok = true then (pN4 s).vals else VZ) := Lib.hid (by rw [← hR, h2, hVZ]; cases ok <;> rfl)
  clear h1 h2 hR hA hB2 hA2 hB3 es hs
  generalize pN4 s = N at *
  have CM := Lib.hid (fun W => may4_any N W HL4.out)
  have HBN := Lib.hid (fun W => bN4v N HL4.out W)
  have HIV := Lib.hid (Tryd.infoNn4 N HL4.out)
  have HOV := Lib.hid (nn_one N)
  have HID := Lib.hid (Tryd.infoU4 N.ad HL4.out)
  have HOD := Lib.hid (bu_one N.ad)
  have HLD : Hid ((bu N.ad).length = 4) := Lib.hid (by rw [bu_len]; exact HL4.out)
  have HLV : Hid (N.vals.length = 5) := Lib.hid (by unfold Nn.vals; rw [List.length_append, bu_len, HL4.out]; rfl)
  have HLZ : Hid (VZ.length = 5) := Lib.hid (by rw [hVZ]; rfl)
  have HIL : Hid ((Tryd.prog.info? 32).map (·.size) = some VZ.length) := Lib.hid (by rw [hVZ]; exact Tryd.infoNn4 zeroN4 rfl)
  have HIZ : Hid ((Tryd.prog.info? 32).map (·.size) = some VZ.toArray.size) := Lib.hid (by rw [List.size_toArray]; exact HIL.out)
  have HOZ : Hid (VZ.toArray.all (·.oneCell') = true) := Lib.hid (by rw [hVZ]; exact nn_one _)
  have HBD : Hid (∀ (ρ : Operand → Value) (d : Option Tmp) (ty : TypeId) (ps : String) (af : Array Edge) (W : World), (execOp ρ { dst := d, op := .build 32 #[], type := ty, pos := ps, after := af, guard := none }).run Tryd.prog W = .ok (.value (.agg VZ.toArray)) W) := Lib.hid (fun ρ d ty ps af W => by rw [hVZ]; exact Tryd.execZN4 ρ d ty ps af none W)
  obtain ⟨ZA, hZA⟩ : ∃ ZA, ZA = ([.int .u8 0, .int .u8 0, .int .u8 0, .int .u8 0] : List Value) := ⟨_, rfl⟩
  have HLA : Hid (ZA.length = 4) := Lib.hid (by rw [hZA]; rfl)
  have HHA : Hid (([.int .u8 0, .int .u8 0, .int .u8 0, .int .u8 0] : List Value).toArray = ZA.toArray) := Lib.hid (by rw [hZA])
  have hz : ([.int .u8 0, .int .u8 0, .int .u8 0, .int .u8 0, .int .i64 0] : List Value).toArray = VZ.toArray := by rw [hVZ]; rfl
  have HHz := Lib.hid hz
  generalize ok4 A = o1 at *
  generalize leno B2 32 = o2 at *
  generalize N.may = o3 at *
  generalize N.ln = L at *
  generalize bu N.ad = VD at *
  generalize N.vals = NV at *
  have HK1 := Lib.hid ((Kp.start w).new 32 VZ)
  have HM := Lib.hid (hm.below ((Below.refl w.heap.size w).alloc (Nat.le_refl _) (.cells VZ.toArray 32)))
  clear hVZ hZA hm HL4
  generalize hw1 : w.alloc (.cells VZ.toArray 32) = w1 at *
  go_enter Tryd.func15, Tryd.ntmps15
  go_upto_region 1 with (fail)
  clear hw1 hz
  obtain ⟨m, hm⟩ := HM.out
  go_wp2_with fail
  refine (CC.out w1 m hm).mono ?_
  rintro e w2 ⟨rfl, nd, rfl⟩
  have hb2 : Below w1.heap.size w1 (w1.drewN nd) := (Below.refl w1.heap.size w1).trans ⟨rfl, rfl, rfl, Nat.le_refl _, fun _ _ => rfl⟩
  have HK2 := Lib.hid (HK1.out.below hb2 (Nat.le_refl _))
  have HM2 := Lib.hid (HM.out.below hb2)
  clear hm HM CC HK1 hb2
  generalize w1.drewN nd = w2 at *
  go_wp2_with fail
  refine (CP.out w2).mono ?_
  rintro e w3 ⟨rfl, b3⟩
  have HK3 := Lib.hid (HK2.out.below b3 (Nat.le_refl _))
  clear b3 HK2 HM2 CP
  have ht3 : (w3.alloc (.cells ZA.toArray 28)).there w3.heap.size 0 VD.toArray.size := (bk_new w3 28 ZA.toArray).there _ (by have := HLD.out; have := HLA.out; simp; omega)
  have HK4 := Lib.hid (HK3.out.put 28 ZA.toArray VD (by have := HLD.out; have := HLA.out; simp; omega))
  have hz := HHA.out
  go_upto_region 3 with (refine wpList_store_mid rfl 28 _ _ rfl w3.heap.size 0 VD.toArray rfl rfl ht3 (by simpa using HID.out) HOD.out ?_)
  clear hz ht3 HK3
  generalize (w3.alloc (.cells ZA.toArray 28)).setCells w3.heap.size 0 VD = w4 at *
  generalize w3.heap.size = g4 at *
  go_wp2_with fail
  refine (CL.out w4).mono ?_
  rintro e w5 ⟨rfl, b5⟩
  have HK5 := Lib.hid (HK4.out.below b5 (Nat.le_refl _))
  clear b5 HK4 CL
  have hrD := HK5.out.hd.range
  have ht5 : (w5.alloc (.cells VZ.toArray 32)).there w5.heap.size 0 NV.toArray.size := (bk_new w5 32 VZ.toArray).there _ (by have := HLV.out; have := HLZ.out; simp; omega)
  have HK6 := Lib.hid (HK5.out.put 32 VZ.toArray NV (by have := HLV.out; have := HLZ.out; simp; omega))
  have hz := HHz.out
  go_upto_region 5 with (first | (refine wpList_load_mid rfl 28 _ rfl g4 0 rfl VD _ hrD Tryd.underlying28 rfl HID.out ?_) | (refine Great.wpList_readTo rfl _ rfl (.agg NV.toArray) (run_execN rfl (by rw [List.map_toArray]; rfl) (HBN.out _)) ?_) | (refine wpList_store_mid rfl 32 _ _ rfl w5.heap.size 0 NV.toArray rfl rfl ht5 (by simpa using HIV.out) HOV.out ?_))
  clear hz ht5 HK5 hrD
  generalize (w5.alloc (.cells VZ.toArray 32)).setCells w5.heap.size 0 NV = w6 at *
  generalize w5.heap.size = g6 at *
  cases o1
  · have HX1 : Hid (ok = false) := Lib.hid (by rw [HOk.out]; rfl)
    have HX2 : Hid (VR = VZ) := Lib.hid (by rw [HW.out, HX1.out]; rfl)
    have ht := HK6.out.tl.tl.hd.there VZ.toArray.size (Nat.le_refl _)
    clear HOk HW
    go_wp2_with (first | (refine Great.wpList_readTo rfl _ rfl (.agg VZ.toArray) (HBD.out _ _ _ _ _ _) ?_) | (refine wpList_store_mid rfl 32 _ _ rfl w.heap.size 0 VZ.toArray rfl rfl ht HIZ.out HOZ.out ?_))
    have hk7 := Bk.sets VZ 0 _ _ HK6.out.tl.tl.hd
    rw [puts_whole VZ.toArray VZ (by simp)] at hk7
    refine bodyPost_ret (v := .tuple #[.agg VZ.toArray, .bool false]) ?_ rfl ⟨by rw [HX1.out, HX2.out], below_sets _ (Nat.le_refl _) 0 _ HK6.out.tl.tl.2.1⟩
    exact results_cell2 rfl rfl rfl (run_loadVar_mid _ w.heap.size 0 32 VZ _ hk7.range Tryd.underlying32 rfl HIL.out)
  · cases o2
    · have HX1 : Hid (ok = false) := Lib.hid (by rw [HOk.out]; rfl)
      have HX2 : Hid (VR = VZ) := Lib.hid (by rw [HW.out, HX1.out]; rfl)
      have ht := HK6.out.tl.tl.hd.there VZ.toArray.size (Nat.le_refl _)
      clear HOk HW
      go_wp2_with (first | (refine Great.wpList_readTo rfl _ rfl (.agg VZ.toArray) (HBD.out _ _ _ _ _ _) ?_) | (refine wpList_store_mid rfl 32 _ _ rfl w.heap.size 0 VZ.toArray rfl rfl ht HIZ.out HOZ.out ?_))
      have hk7 := Bk.sets VZ 0 _ _ HK6.out.tl.tl.hd
      rw [puts_whole VZ.toArray VZ (by simp)] at hk7
      refine bodyPost_ret (v := .tuple #[.agg VZ.toArray, .bool false]) ?_ rfl ⟨by rw [HX1.out, HX2.out], below_sets _ (Nat.le_refl _) 0 _ HK6.out.tl.tl.2.1⟩
      exact results_cell2 rfl rfl rfl (run_loadVar_mid _ w.heap.size 0 32 VZ _ hk7.range Tryd.underlying32 rfl HIL.out)
    · have hrN := HK6.out.hd.range
      cases o3
      · have HX1 : Hid (ok = false) := Lib.hid (by rw [HOk.out]; rfl)
        have HX2 : Hid (VR = VZ) := Lib.hid (by rw [HW.out, HX1.out]; rfl)
        clear HOk HW
        go_wp2_with (first | (refine wpList_load_if (by rfl) 32 _ rfl g6 0 rfl NV _ hrN Tryd.underlying32 rfl HIV.out ?_) | (go_at_call 48; refine (CM.out _).mono ?_; rintro e w9 ⟨rfl, hb9⟩; have HK9 := Lib.hid (HK6.out.below hb9 (Nat.le_refl _)); have hr9 := HK9.out.hd.range; have ht9 : w9.there w.heap.size 0 VZ.toArray.size := HK9.out.tl.tl.hd.there _ (Nat.le_refl _); clear hb9 hrN) | (refine Great.wpList_readTo rfl _ rfl (.agg VZ.toArray) (HBD.out _ _ _ _ _ _) ?_) | (refine wpList_store_mid rfl 32 _ _ rfl w.heap.size 0 VZ.toArray rfl rfl ht9 HIZ.out HOZ.out ?_))
        have hk7 := Bk.sets VZ 0 _ _ HK9.out.tl.tl.hd
        rw [puts_whole VZ.toArray VZ (by simp)] at hk7
        refine bodyPost_ret (v := .tuple #[.agg VZ.toArray, .bool false]) ?_ rfl ⟨by rw [HX1.out, HX2.out], below_sets _ (Nat.le_refl _) 0 _ HK9.out.tl.tl.2.1⟩
        exact results_cell2 rfl rfl rfl (run_loadVar_mid _ w.heap.size 0 32 VZ _ hk7.range Tryd.underlying32 rfl HIL.out)
      · have HX1 : Hid (ok = true) := Lib.hid (by rw [HOk.out]; rfl)
        have HX2 : Hid (VR = NV) := Lib.hid (by rw [HW.out, HX1.out]; rfl)
        clear HOk HW
        go_wp2_with (first | (refine wpList_load_if (by rfl) 32 _ rfl g6 0 rfl NV _ hrN Tryd.underlying32 rfl HIV.out ?_) | (go_at_call 48; refine (CM.out _).mono ?_; rintro e w9 ⟨rfl, hb9⟩; have HK9 := Lib.hid (HK6.out.below hb9 (Nat.le_refl _)); have hr9 := HK9.out.hd.range; have ht9 : w9.there w.heap.size 0 NV.toArray.size := HK9.out.tl.tl.hd.there _ (by have := HLV.out; have := HLZ.out; simp; omega); clear hb9 hrN) | (refine wpList_load_mid rfl 32 _ rfl g6 0 rfl NV _ hr9 Tryd.underlying32 rfl HIV.out ?_) | (refine wpList_store_mid rfl 32 _ _ rfl w.heap.size 0 NV.toArray rfl rfl ht9 (by simpa using HIV.out) HOV.out ?_))
        have hk7 := Bk.sets NV 0 _ _ HK9.out.tl.tl.hd
        rw [puts_whole VZ.toArray NV (by have := HLV.out; have := HLZ.out; simp; omega)] at hk7
        refine bodyPost_ret (v := .tuple #[.agg NV.toArray, .bool true]) ?_ rfl ⟨by rw [HX1.out, HX2.out], below_sets _ (Nat.le_refl _) 0 _ HK9.out.2.1⟩
        exact results_cell2 rfl rfl rfl (run_loadVar_mid _ w.heap.size 0 32 NV _ hk7.range Tryd.underlying32 rfl HIV.out)
set_option maxRecDepth 100000 in
set_option maxHeartbeats 8000000 in
theorem parsenet6_any (s : ByteArray) (w : World) (hs : s.size < 4294967281) (hm : ML w) :
    Calls Tryd.prog 16 #[.string s] w fun e w' => e = .returned (.tuple #[.agg (valN6 s).vals.toArray, .bool (okN6 s)]) ∧ Below w.heap.size w w' := by
  have CC := Lib.hid (fun W m (h : W.cell? ⟨5, 0, none⟩ = some (.int .i64 m)) => Tryd.strings_Cut s ⟨#[47]⟩ m W hs h)
  have es : (⟨#[47]⟩ : ByteArray).data.toList = [47] := rfl
  rw [es] at CC
  obtain ⟨A, hA⟩ : ∃ A : ByteArray, A = cutA s := ⟨_, rfl⟩
  obtain ⟨B2, hB2⟩ : ∃ B2 : ByteArray, B2 = cutB s := ⟨_, rfl⟩
  have hA2 : (⟨(Lib.cut s.data.toList [47]).1.toArray⟩ : ByteArray) = A := hA.symm
  have hB3 : (⟨(Lib.cut s.data.toList [47]).2.1.toArray⟩ : ByteArray) = B2 := hB2.symm
  rw [hA2, hB3] at CC
  generalize (Lib.cut s.data.toList [47]).2.2 = sh at *
  obtain ⟨h1, h2⟩ := okN6_p s
  have CP : Hid (∀ W (hW : ML W), Calls Tryd.prog 13 #[.string A] W fun e w' => e = .returned (.tuple #[.agg (bu (pN6 s).ad).toArray, .bool (ok6 A)]) ∧ Below W.heap.size W w') := Lib.hid (fun W hW => by
    have h := parse6_any (cutA s) W (by have := cutA_size s; omega) hW
    rw [← val6u_b8, ← hA] at h
    have e : (pN6 s).ad = val6u A := by rw [hA]; rfl
    rw [e]
    exact h)
  have CL : Hid (∀ W, Calls Tryd.prog 47 #[.string B2, .int .i64 128] W fun e w' => e = .returned (.tuple #[.int .i64 (pN6 s).ln, .bool (leno B2 128)]) ∧ Below W.heap.size W w') := Lib.hid (fun W => by
    have h := length_any B2 128 W
    have e : (pN6 s).ln = lenv B2 128 := by rw [hB2]; rfl
    rw [e]
    exact h)
  rw [← hA, ← hB2] at h1
  have HL4 : Hid ((pN6 s).ad.length = 16) := Lib.hid (val6u_len _)
  generalize okN6 s = ok at *
  have HOk := Lib.hid h1
  generalize hR : (valN6 s).vals = VR at *
  obtain ⟨VZ, hVZ⟩ : ∃ VZ, VZ = zeroN6.vals := ⟨_, rfl⟩
  have HW : Hid (VR = if ok = true then (pN6 s).vals else VZ) := Lib.hid (by rw [← hR, h2, hVZ]; cases ok <;> rfl)
  clear h1 h2 hR hA hB2 hA2 hB3 es hs
  generalize pN6 s = N at *
  have CM := Lib.hid (fun W => may6_any N W HL4.out)
  have HBN := Lib.hid (fun W => bN6v N HL4.out W)
  have HIV := Lib.hid (Tryd.infoNn6 N HL4.out)
  have HOV := Lib.hid (nn_one N)
  have HID := Lib.hid (Tryd.infoU6 N.ad HL4.out)
  have HOD := Lib.hid (bu_one N.ad)
  have HLD : Hid ((bu N.ad).length = 16) := Lib.hid (by rw [bu_len]; exact HL4.out)
  have HLV : Hid (N.vals.length = 17) := Lib.hid (by unfold Nn.vals; rw [List.length_append, bu_len, HL4.out]; rfl)
  have HLZ : Hid (VZ.length = 17) := Lib.hid (by rw [hVZ]; rfl)
  have HIL : Hid ((Tryd.prog.info? 36).map (·.size) = some VZ.length) := Lib.hid (by rw [hVZ]; exact Tryd.infoNn6 zeroN6 rfl)
  have HIZ : Hid ((Tryd.prog.info? 36).map (·.size) = some VZ.toArray.size) := Lib.hid (by rw [List.size_toArray]; exact HIL.out)
  have HOZ : Hid (VZ.toArray.all (·.oneCell') = true) := Lib.hid (by rw [hVZ]; exact nn_one _)
  have HBD : Hid (∀ (ρ : Operand → Value) (d : Option Tmp) (ty : TypeId) (ps : String) (af : Array Edge) (W : World), (execOp ρ { dst := d, op := .build 36 #[], type := ty, pos := ps, after := af, guard := none }).run Tryd.prog W = .ok (.value (.agg VZ.toArray)) W) := Lib.hid (fun ρ d ty ps af W => by rw [hVZ]; exact Tryd.execZN6 ρ d ty ps af none W)
  obtain ⟨ZA, hZA⟩ : ∃ ZA, ZA = ([.int .u8 0, .int .u8 0, .int .u8 0, .int .u8 0, .int .u8 0, .int .u8 0, .int .u8 0, .int .u8 0, .int .u8 0, .int .u8 0, .int .u8 0, .int .u8 0, .int .u8 0, .int .u8 0, .int .u8 0, .int .u8 0] : List Value) := ⟨_, rfl⟩
  have HLA : Hid (ZA.length = 16) := Lib.hid (by rw [hZA]; rfl)
  have HHA : Hid (([.int .u8 0, .int .u8 0, .int .u8 0, .int .u8 0, .int .u8 0, .int .u8 0, .int .u8 0, .int .u8 0, .int .u8 0, .int .u8 0, .int .u8 0, .int .u8 0, .int .u8 0, .int .u8 0, .int .u8 0, .int .u8 0] : List Value).toArray = ZA.toArray) := Lib.hid (by rw [hZA])
  have hz : ([.int .u8 0, .int .u8 0, .int .u8 0, .int .u8 0, .int .u8 0, .int .u8 0, .int .u8 0, .int .u8 0, .int .u8 0, .int .u8 0, .int .u8 0, .int .u8 0, .int .u8 0, .int .u8 0, .int .u8 0, .int .u8 0, .int .i64 0] : List Value).toArray = VZ.toArray := by rw [hVZ]; rfl
  have HHz := Lib.hid hz
  generalize ok6 A = o1 at *
  generalize leno B2 128 = o2 at *
  generalize N.may = o3 at *
  generalize N.ln = L at *
  generalize bu N.ad = VD at *
  generalize N.vals = NV at *
  have HK1 := Lib.hid ((Kp.start w).new 36 VZ)
  have HM := Lib.hid (hm.below ((Below.refl w.heap.size w).alloc (Nat.le_refl _) (.cells VZ.toArray 36)))
  clear hVZ hZA hm HL4
  generalize hw1 : w.alloc (.cells VZ.toArray 36) = w1 at *
  go_enter Tryd.func16, Tryd.ntmps16
  go_upto_region 1 with (fail)
  clear hw1 hz
  obtain ⟨m, hm⟩ := HM.out
  go_wp2_with fail
  refine (CC.out w1 m hm).mono ?_
  rintro e w2 ⟨rfl, nd, rfl⟩
  have hb2 : Below w1.heap.size w1 (w1.drewN nd) := (Below.refl w1.heap.size w1).trans ⟨rfl, rfl, rfl, Nat.le_refl _, fun _ _ => rfl⟩
  have HK2 := Lib.hid (HK1.out.below hb2 (Nat.le_refl _))
  have HM2 := Lib.hid (HM.out.below hb2)
  clear hm HM CC HK1 hb2
  generalize w1.drewN nd = w2 at *
  go_wp2_with fail
  refine (CP.out w2 HM2.out).mono ?_
  rintro e w3 ⟨rfl, b3⟩
  have HK3 := Lib.hid (HK2.out.below b3 (Nat.le_refl _))
  clear b3 HK2 HM2 CP
  have ht3 : (w3.alloc (.cells ZA.toArray 24)).there w3.heap.size 0 VD.toArray.size := (bk_new w3 24 ZA.toArray).there _ (by have := HLD.out; have := HLA.out; simp; omega)
  have HK4 := Lib.hid (HK3.out.put 24 ZA.toArray VD (by have := HLD.out; have := HLA.out; simp; omega))
  have hz := HHA.out
  go_upto_region 3 with (refine wpList_store_mid rfl 24 _ _ rfl w3.heap.size 0 VD.toArray rfl rfl ht3 (by simpa using HID.out) HOD.out ?_)
  clear hz ht3 HK3
  generalize (w3.alloc (.cells ZA.toArray 24)).setCells w3.heap.size 0 VD = w4 at *
  generalize w3.heap.size = g4 at *
  go_wp2_with fail
  refine (CL.out w4).mono ?_
  rintro e w5 ⟨rfl, b5⟩
  have HK5 := Lib.hid (HK4.out.below b5 (Nat.le_refl _))
  clear b5 HK4 CL
  have hrD := HK5.out.hd.range
  have ht5 : (w5.alloc (.cells VZ.toArray 36)).there w5.heap.size 0 NV.toArray.size := (bk_new w5 36 VZ.toArray).there _ (by have := HLV.out; have := HLZ.out; simp; omega)
  have HK6 := Lib.hid (HK5.out.put 36 VZ.toArray NV (by have := HLV.out; have := HLZ.out; simp; omega))
  have hz := HHz.out
  go_upto_region 5 with (first | (refine wpList_load_mid rfl 24 _ rfl g4 0 rfl VD _ hrD Tryd.underlying24 rfl HID.out ?_) | (refine Great.wpList_readTo rfl _ rfl (.agg NV.toArray) (run_execN rfl (by rw [List.map_toArray]; rfl) (HBN.out _)) ?_) | (refine wpList_store_mid rfl 36 _ _ rfl w5.heap.size 0 NV.toArray rfl rfl ht5 (by simpa using HIV.out) HOV.out ?_))
  clear hz ht5 HK5 hrD
  generalize (w5.alloc (.cells VZ.toArray 36)).setCells w5.heap.size 0 NV = w6 at *
  generalize w5.heap.size = g6 at *
  cases o1
  · have HX1 : Hid (ok = false) := Lib.hid (by rw [HOk.out]; rfl)
    have HX2 : Hid (VR = VZ) := Lib.hid (by rw [HW.out, HX1.out]; rfl)
    have ht := HK6.out.tl.tl.hd.there VZ.toArray.size (Nat.le_refl _)
    clear HOk HW
    go_wp2_with (first | (refine Great.wpList_readTo rfl _ rfl (.agg VZ.toArray) (HBD.out _ _ _ _ _ _) ?_) | (refine wpList_store_mid rfl 36 _ _ rfl w.heap.size 0 VZ.toArray rfl rfl ht HIZ.out HOZ.out ?_))
    have hk7 := Bk.sets VZ 0 _ _ HK6.out.tl.tl.hd
    rw [puts_whole VZ.toArray VZ (by simp)] at hk7
    refine bodyPost_ret (v := .tuple #[.agg VZ.toArray, .bool false]) ?_ rfl ⟨by rw [HX1.out, HX2.out], below_sets _ (Nat.le_refl _) 0 _ HK6.out.tl.tl.2.1⟩
    exact results_cell2 rfl rfl rfl (run_loadVar_mid _ w.heap.size 0 36 VZ _ hk7.range Tryd.underlying36 rfl HIL.out)
  · cases o2
    · have HX1 : Hid (ok = false) := Lib.hid (by rw [HOk.out]; rfl)
      have HX2 : Hid (VR = VZ) := Lib.hid (by rw [HW.out, HX1.out]; rfl)
      have ht := HK6.out.tl.tl.hd.there VZ.toArray.size (Nat.le_refl _)
      clear HOk HW
      go_wp2_with (first | (refine Great.wpList_readTo rfl _ rfl (.agg VZ.toArray) (HBD.out _ _ _ _ _ _) ?_) | (refine wpList_store_mid rfl 36 _ _ rfl w.heap.size 0 VZ.toArray rfl rfl ht HIZ.out HOZ.out ?_))
      have hk7 := Bk.sets VZ 0 _ _ HK6.out.tl.tl.hd
      rw [puts_whole VZ.toArray VZ (by simp)] at hk7
      refine bodyPost_ret (v := .tuple #[.agg VZ.toArray, .bool false]) ?_ rfl ⟨by rw [HX1.out, HX2.out], below_sets _ (Nat.le_refl _) 0 _ HK6.out.tl.tl.2.1⟩
      exact results_cell2 rfl rfl rfl (run_loadVar_mid _ w.heap.size 0 36 VZ _ hk7.range Tryd.underlying36 rfl HIL.out)
    · have hrN := HK6.out.hd.range
      cases o3
      · have HX1 : Hid (ok = false) := Lib.hid (by rw [HOk.out]; rfl)
        have HX2 : Hid (VR = VZ) := Lib.hid (by rw [HW.out, HX1.out]; rfl)
        clear HOk HW
        go_wp2_with (first | (refine wpList_load_if (by rfl) 36 _ rfl g6 0 rfl NV _ hrN Tryd.underlying36 rfl HIV.out ?_) | (go_at_call 49; refine (CM.out _).mono ?_; rintro e w9 ⟨rfl, hb9⟩; have HK9 := Lib.hid (HK6.out.below hb9 (Nat.le_refl _)); have hr9 := HK9.out.hd.range; have ht9 : w9.there w.heap.size 0 VZ.toArray.size := HK9.out.tl.tl.hd.there _ (Nat.le_refl _); clear hb9 hrN) | (refine Great.wpList_readTo rfl _ rfl (.agg VZ.toArray) (HBD.out _ _ _ _ _ _) ?_) | (refine wpList_store_mid rfl 36 _ _ rfl w.heap.size 0 VZ.toArray rfl rfl ht9 HIZ.out HOZ.out ?_))
        have hk7 := Bk.sets VZ 0 _ _ HK9.out.tl.tl.hd
        rw [puts_whole VZ.toArray VZ (by simp)] at hk7
        refine bodyPost_ret (v := .tuple #[.agg VZ.toArray, .bool false]) ?_ rfl ⟨by rw [HX1.out, HX2.out], below_sets _ (Nat.le_refl _) 0 _ HK9.out.tl.tl.2.1⟩
        exact results_cell2 rfl rfl rfl (run_loadVar_mid _ w.heap.size 0 36 VZ _ hk7.range Tryd.underlying36 rfl HIL.out)
      · have HX1 : Hid (ok = true) := Lib.hid (by rw [HOk.out]; rfl)
        have HX2 : Hid (VR = NV) := Lib.hid (by rw [HW.out, HX1.out]; rfl)
        clear HOk HW
        go_wp2_with (first | (refine wpList_load_if (by rfl) 36 _ rfl g6 0 rfl NV _ hrN Tryd.underlying36 rfl HIV.out ?_) | (go_at_call 49; refine (CM.out _).mono ?_; rintro e w9 ⟨rfl, hb9⟩; have HK9 := Lib.hid (HK6.out.below hb9 (Nat.le_refl _)); have hr9 := HK9.out.hd.range; have ht9 : w9.there w.heap.size 0 NV.toArray.size := HK9.out.tl.tl.hd.there _ (by have := HLV.out; have := HLZ.out; simp; omega); clear hb9 hrN) | (refine wpList_load_mid rfl 36 _ rfl g6 0 rfl NV _ hr9 Tryd.underlying36 rfl HIV.out ?_) | (refine wpList_store_mid rfl 36 _ _ rfl w.heap.size 0 NV.toArray rfl rfl ht9 (by simpa using HIV.out) HOV.out ?_))
        have hk7 := Bk.sets NV 0 _ _ HK9.out.tl.tl.hd
        rw [puts_whole VZ.toArray NV (by have := HLV.out; have := HLZ.out; simp; omega)] at hk7
        refine bodyPost_ret (v := .tuple #[.agg NV.toArray, .bool true]) ?_ rfl ⟨by rw [HX1.out, HX2.out], below_sets _ (Nat.le_refl _) 0 _ HK9.out.2.1⟩
        exact results_cell2 rfl rfl rfl (run_loadVar_mid _ w.heap.size 0 36 NV _ hk7.range Tryd.underlying36 rfl HIV.out)
end Go.Proofs.YtkdplnbabelkoaaDoor
