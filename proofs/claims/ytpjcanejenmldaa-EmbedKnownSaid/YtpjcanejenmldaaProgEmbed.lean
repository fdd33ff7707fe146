/-
  Proved here: what the program's Embed answers.
  Conditions: addresses of 16 and of 4 bytes.
-/
import Derived.Test.YtpjcanejenmldaaPlaces
namespace Go.Proofs.Ytpjcanejenmldaa
open Go.RowKit

theorem Kp.set8 {w0 w : World} {B b : Nat} {T : TypeId} {x : List Int} {l : List (Nat × TypeId × List Value)} (h : Kp w0 B ((b, T, b8 x) :: l) w) (hne : ∀ y ∈ l, y.1 ≠ b) (hB : B ≤ b) (i : Nat) (v : Int) : Kp w0 B ((b, T, b8 (x.set i v)) :: l) (w.setCell ⟨b, i, none⟩ (.int .u8 v)) := by
  rw [b8_set]
  exact h.set1 hne hB i _
theorem Try.idx0 (q0 q1 q2 q3 : Int) (W : World) : (Instr.index 45 (.agg #[.int .i64 q0, .int .i64 q1, .int .i64 q2, .int .i64 q3]) (.int .i64 0)).run Try.prog W = .ok (.int .i64 q0) W := by kernel_rfl
theorem Try.idx1 (q0 q1 q2 q3 : Int) (W : World) : (Instr.index 45 (.agg #[.int .i64 q0, .int .i64 q1, .int .i64 q2, .int .i64 q3]) (.int .i64 1)).run Try.prog W = .ok (.int .i64 q1) W := by kernel_rfl
theorem Try.idx2 (q0 q1 q2 q3 : Int) (W : World) : (Instr.index 45 (.agg #[.int .i64 q0, .int .i64 q1, .int .i64 q2, .int .i64 q3]) (.int .i64 2)).run Try.prog W = .ok (.int .i64 q2) W := by kernel_rfl
theorem Try.idx3 (q0 q1 q2 q3 : Int) (W : World) : (Instr.index 45 (.agg #[.int .i64 q0, .int .i64 q1, .int .i64 q2, .int .i64 q3]) (.int .i64 3)).run Try.prog W = .ok (.int .i64 q3) W := by kernel_rfl
theorem pos_some {L : Int} (h : okL L = true) : ∃ q0 q1 q2 q3 : Nat, pos4 L = [q0, q1, q2, q3] ∧ q0 < 16 ∧ q1 < 16 ∧ q2 < 16 ∧ q3 < 16 := by
  rcases okL_cases h with rfl | rfl | rfl | rfl | rfl | rfl <;> exact ⟨_, _, _, _, rfl, by decide, by decide, by decide, by decide⟩
set_option maxRecDepth 100000 in
set_option maxHeartbeats 1000000 in
theorem embed_any (p : Nt) (a : List Int) (hl : p.ad.length = 16) (ha : a.length = 4) (w : World) :
    Calls Try.prog 10 #[.agg p.vals.toArray, .agg (b8 a).toArray] w fun e w' => e = .returned (.tuple #[.agg (b8 (p.emb a)).toArray, .bool p.right]) ∧ Below w.heap.size w w' := by
  have HR := Lib.hid (fun W => right_any p hl W)
  have HI : Hid (p.emb a = if p.right = true then put4 p.ad (pos4 p.ln) a else zero6) := Lib.hid rfl
  have HP : Hid (∀ q : List Nat, put4 p.ad q a = (((p.ad.set (q.getD 0 0) (a.getD 0 0)).set (q.getD 1 0) (a.getD 1 0)).set (q.getD 2 0) (a.getD 2 0)).set (q.getD 3 0) (a.getD 3 0)) := Lib.hid (fun _ => rfl)
  have HO := Lib.hid (show p.right = true → okL p.ln = true from fun h => by unfold Nt.right at h; simp only [Bool.and_eq_true] at h; exact h.1)
  have HPl := Lib.hid (fun (h : p.right = true) W => places_any p.ln (HO.out h) W)
  have HQs := Lib.hid (fun (h : p.right = true) => pos_some (HO.out h))
  generalize p.emb a = R at *
  generalize hVR : b8 R = VR at *
  have HVR := Lib.hid hVR
  clear hVR
  have HAv : Hid ((b8 a)[0]? = some (.int .u8 (a.getD 0 0)) ∧ (b8 a)[1]? = some (.int .u8 (a.getD 1 0)) ∧ (b8 a)[2]? = some (.int .u8 (a.getD 2 0)) ∧ (b8 a)[3]? = some (.int .u8 (a.getD 3 0))) := Lib.hid ⟨b8_at a 0 (by omega), b8_at a 1 (by omega), b8_at a 2 (by omega), b8_at a 3 (by omega)⟩
  have HF := Lib.hid (nf_of p hl)
  have HIn := Lib.hid (Try.infoNet p hl)
  have HI6 := Lib.hid (Try.infoSix p.ad hl)
  have HO6 := Lib.hid (b8_one p.ad)
  have HLen := Lib.hid hl
  obtain ⟨VZ, hVZ⟩ : ∃ VZ, VZ = b8 zero6 := ⟨_, rfl⟩
  have HBD : Hid (∀ (ρ : Operand → Value) (d : Option Tmp) (ty : TypeId) (ps : String) (af : Array Edge) (W : World), (execOp ρ { dst := d, op := .build 23 #[], type := ty, pos := ps, after := af, guard := none }).run Try.prog W = .ok (.value (.agg VZ.toArray)) W) := Lib.hid (fun ρ d ty ps af W => by rw [hVZ]; exact Try.execZ6 ρ d ty ps af none W)
  have HZz : Hid ((Try.prog.info? 23).map (·.size) = some VZ.toArray.size) := Lib.hid (by rw [hVZ]; exact Try.infoSix zero6 rfl)
  have HOz : Hid (VZ.toArray.all (·.oneCell') = true) := Lib.hid (by rw [hVZ]; exact b8_one zero6)
  have HLz : Hid (VZ.length = 16) := Lib.hid (by rw [hVZ]; rfl)
  have hK3 := kp3 w 26 31 23 p.vals (b8 a) ([.int .u8 0, .int .u8 0, .int .u8 0, .int .u8 0, .int .u8 0, .int .u8 0, .int .u8 0, .int .u8 0, .int .u8 0, .int .u8 0, .int .u8 0, .int .u8 0, .int .u8 0, .int .u8 0, .int .u8 0, .int .u8 0] : List Value)
  have hZ : ([.int .u8 0, .int .u8 0, .int .u8 0, .int .u8 0, .int .u8 0, .int .u8 0, .int .u8 0, .int .u8 0, .int .u8 0, .int .u8 0, .int .u8 0, .int .u8 0, .int .u8 0, .int .u8 0, .int .u8 0, .int .u8 0] : List Value) = VZ := by rw [hVZ]; rfl
  rw [hZ] at hK3
  have HVZ := Lib.hid hVZ
  clear hVZ
  generalize p.right = rt at *
  generalize p.ln = L at *
  generalize p.vals = V at *
  generalize p.ad.getD 8 0 = d8 at *
  generalize a.getD 0 0 = a0 at *
  generalize a.getD 1 0 = a1 at *
  generalize a.getD 2 0 = a2 at *
  generalize a.getD 3 0 = a3 at *
  generalize b8 a = VA at *
  generalize p.ad = A at *
  generalize hX8 : b8 A = X8 at *
  have HX8 := Lib.hid hX8
  have HL8 : Hid (X8.length = 16) := Lib.hid (by rw [← hX8, b8_len, hl])
  clear hl ha hX8
  have hw : ((w.alloc (.cells V.toArray 26)).alloc (.cells VA.toArray 31)).alloc (.cells VZ.toArray 23) = ((w.alloc (.cells V.toArray 26)).alloc (.cells VA.toArray 31)).alloc (.cells ([.int .u8 0, .int .u8 0, .int .u8 0, .int .u8 0, .int .u8 0, .int .u8 0, .int .u8 0, .int .u8 0, .int .u8 0, .int .u8 0, .int .u8 0, .int .u8 0, .int .u8 0, .int .u8 0, .int .u8 0, .int .u8 0] : List Value).toArray 23) := by rw [← hZ]
  rw [hw] at hK3
  clear hw
  have HZ := Lib.hid hZ
  clear hZ
  have HS3 : Hid ((((w.alloc (.cells V.toArray 26)).alloc (.cells VA.toArray 31)).alloc (.cells ([.int .u8 0, .int .u8 0, .int .u8 0, .int .u8 0, .int .u8 0, .int .u8 0, .int .u8 0, .int .u8 0, .int .u8 0, .int .u8 0, .int .u8 0, .int .u8 0, .int .u8 0, .int .u8 0, .int .u8 0, .int .u8 0] : List Value).toArray 23)).heap.size = w.heap.size + 3) := Lib.hid (by simp)
  generalize hw3 : ((w.alloc (.cells V.toArray 26)).alloc (.cells VA.toArray 31)).alloc (.cells ([.int .u8 0, .int .u8 0, .int .u8 0, .int .u8 0, .int .u8 0, .int .u8 0, .int .u8 0, .int .u8 0, .int .u8 0, .int .u8 0, .int .u8 0, .int .u8 0, .int .u8 0, .int .u8 0, .int .u8 0, .int .u8 0] : List Value).toArray 23) = w3 at *
  have hrN := hK3.tl.tl.hd.range
  have HK3 := Lib.hid hK3
  clear hK3
  go_enter Try.func10, Try.ntmps10
  go_upto_region 1 with (fail)
  clear hw3
  go_wp2_with (refine wpList_load_mid rfl 26 _ rfl w.heap.size 0 rfl V _ hrN Try.underlying26 rfl HIn.out ?_)
  clear hrN
  refine (HR.out _).mono ?_
  rintro e w5 ⟨rfl, b5⟩
  have HK5 := Lib.hid (HK3.out.below b5 (Nat.le_refl _))
  have HS5 : Hid (w.heap.size + 3 ≤ w5.heap.size) := Lib.hid (by have := b5.size; have := HS3.out; omega)
  clear b5 HK3 HR HS3
  have ht5 : w5.there (w.heap.size + 1 + 1) 0 VZ.toArray.size := HK5.out.hd.there _ (Nat.le_refl _)
  cases rt
  · have HXr : Hid (VR = VZ) := Lib.hid (by rw [← HVR.out, HI.out, HVZ.out]; rfl)
    clear HI HO HAv HP HPl HQs HVR
    go_wp2_with (first | (refine Great.wpList_readTo rfl _ rfl (.agg VZ.toArray) (HBD.out _ _ _ _ _ _) ?_) | (refine wpList_store_mid rfl 23 _ _ rfl (w.heap.size + 1 + 1) 0 VZ.toArray rfl rfl ht5 HZz.out HOz.out ?_))
    have hk7 := Bk.sets VZ 0 _ _ HK5.out.hd
    rw [puts_whole VZ.toArray VZ (by simp)] at hk7
    refine bodyPost_ret (v := .tuple #[.agg VZ.toArray, .bool false]) ?_ rfl ⟨by rw [HXr.out], below_sets _ (by omega) 0 _ HK5.out.2.1⟩
    exact results_cell2 rfl rfl rfl (run_loadVar_mid _ (w.heap.size + 1 + 1) 0 23 VZ _ hk7.range Try.underlying23 rfl (by simpa using HZz.out))
  · obtain ⟨q0, q1, q2, q3, hq, l0, l1, l2, l3⟩ := HQs.out rfl
    have hP := HP.out (pos4 L)
    have hPl := HPl.out rfl
    rw [hq] at hP hPl
    have HXr : Hid (VR = b8 ((((A.set q0 a0).set q1 a1).set q2 a2).set q3 a3)) := Lib.hid (by rw [← HVR.out, HI.out, hq]; exact congrArg b8 hP)
    have HPL : Hid (∀ W, Calls Try.prog 21 #[.int .i64 L] W fun e w' => e = .returned (.agg #[.int .i64 (q0 : Int), .int .i64 (q1 : Int), .int .i64 (q2 : Int), .int .i64 (q3 : Int)]) ∧ Below W.heap.size W w') := Lib.hid hPl
    clear hP hPl hq HPl HQs HI HO HP HVR
    have hrA := (net_s HF.out HK5.out.tl.tl.hd).1
    have hth : (w5.alloc (.cells ([.int .u8 0, .int .u8 0, .int .u8 0, .int .u8 0, .int .u8 0, .int .u8 0, .int .u8 0, .int .u8 0, .int .u8 0, .int .u8 0, .int .u8 0, .int .u8 0, .int .u8 0, .int .u8 0, .int .u8 0, .int .u8 0] : List Value).toArray 23)).there w5.heap.size 0 X8.toArray.size := (bk_new w5 23 ([.int .u8 0, .int .u8 0, .int .u8 0, .int .u8 0, .int .u8 0, .int .u8 0, .int .u8 0, .int .u8 0, .int .u8 0, .int .u8 0, .int .u8 0, .int .u8 0, .int .u8 0, .int .u8 0, .int .u8 0, .int .u8 0] : List Value).toArray).there _ (by have := HL8.out; simp; omega)
    go_upto_region 4 with (first | (refine wpList_load_mid rfl 23 _ rfl w.heap.size 0 rfl X8 _ hrA Try.underlying23 rfl HI6.out ?_) | (refine wpList_store_mid rfl 23 _ _ rfl w5.heap.size 0 X8.toArray rfl rfl hth (by simpa using HI6.out) HO6.out ?_))
    have hK6 := HK5.out.put 23 ([.int .u8 0, .int .u8 0, .int .u8 0, .int .u8 0, .int .u8 0, .int .u8 0, .int .u8 0, .int .u8 0, .int .u8 0, .int .u8 0, .int .u8 0, .int .u8 0, .int .u8 0, .int .u8 0, .int .u8 0, .int .u8 0] : List Value).toArray X8 (by have := HL8.out; simp; omega)
    have HNE : Hid (∀ y ∈ [(w.heap.size + 1 + 1, 23, VZ), (w.heap.size + 1, 31, VA), (w.heap.size, 26, V)], y.1 ≠ w5.heap.size) := Lib.hid (fun y hy => HK5.out.ne y hy)
    have HG : Hid (w.heap.size ≤ w5.heap.size) := Lib.hid (by have := HS5.out; omega)
    rw [← HX8.out] at hK6 ⊢
    have HK6 := Lib.hid hK6
    rw [HX8.out] at HK6 ⊢
    clear hrA hth hK6 HK5 ht5 HS5
    generalize (w5.alloc (.cells ([.int .u8 0, .int .u8 0, .int .u8 0, .int .u8 0, .int .u8 0, .int .u8 0, .int .u8 0, .int .u8 0, .int .u8 0, .int .u8 0, .int .u8 0, .int .u8 0, .int .u8 0, .int .u8 0, .int .u8 0, .int .u8 0] : List Value).toArray 23)).setCells w5.heap.size 0 X8 = w6 at *
    generalize w5.heap.size = g at *
    have c16 := (net_s HF.out HK6.out.tl.tl.tl.hd).2.2
    go_wp2_with fail
    clear c16
    refine (HPL.out _).mono ?_
    rintro e w7 ⟨rfl, b7⟩
    have hK7 := HK6.out.below b7 (Nat.le_refl _)
    rw [← HX8.out] at hK7
    clear b7 HK6 HPL
    go_wp2_with fail
    have hx0 := Try.idx0 (q0 : Int) (q1 : Int) (q2 : Int) (q3 : Int)
    have hx1 := Try.idx1 (q0 : Int) (q1 : Int) (q2 : Int) (q3 : Int)
    have hx2 := Try.idx2 (q0 : Int) (q1 : Int) (q2 : Int) (q3 : Int)
    have hx3 := Try.idx3 (q0 : Int) (q1 : Int) (q2 : Int) (q3 : Int)
    refine wp_loop_rounds 5 ?_
    have HK7 := Lib.hid hK7
    have ca := HK7.out.tl.tl.hd.at HAv.out.1
    have cx := HK7.out.hd.at (b8_at A q0 (by (try simp only [List.length_set]); have := HLen.out; omega))
    have cz := HK7.out.hd.z q0
    have iq : ((q0 : Nat) : Int) < 16 := by omega
    generalize A.getD q0 0 = dx at *
    have hK8 := HK7.out.set8 HNE.out HG.out q0 a0
    have HKn := Lib.hid hK8
    clear hK7 hK8
    rw [rounds_succ]
    go_wp2_with fail
    have hK8 := HKn.out
    clear HKn HK7 ca cx cz iq
    generalize w7.setCell ⟨g, q0, none⟩ (.int .u8 a0) = w8 at *
    have HK8 := Lib.hid hK8
    have ca := HK8.out.tl.tl.hd.at HAv.out.2.1
    have cx := HK8.out.hd.at (b8_at (A.set q0 a0) q1 (by (try simp only [List.length_set]); have := HLen.out; omega))
    have cz := HK8.out.hd.z q1
    have iq : ((q1 : Nat) : Int) < 16 := by omega
    generalize (A.set q0 a0).getD q1 0 = dx at *
    have hK9 := HK8.out.set8 HNE.out HG.out q1 a1
    have HKn := Lib.hid hK9
    clear hK8 hK9
    rw [rounds_succ]
    go_wp2_with fail
    have hK9 := HKn.out
    clear HKn HK8 ca cx cz iq
    generalize w8.setCell ⟨g, q1, none⟩ (.int .u8 a1) = w9 at *
    have HK9 := Lib.hid hK9
    have ca := HK9.out.tl.tl.hd.at HAv.out.2.2.1
    have cx := HK9.out.hd.at (b8_at ((A.set q0 a0).set q1 a1) q2 (by (try simp only [List.length_set]); have := HLen.out; omega))
    have cz := HK9.out.hd.z q2
    have iq : ((q2 : Nat) : Int) < 16 := by omega
    generalize ((A.set q0 a0).set q1 a1).getD q2 0 = dx at *
    have hK10 := HK9.out.set8 HNE.out HG.out q2 a2
    have HKn := Lib.hid hK10
    clear hK9 hK10
    rw [rounds_succ]
    go_wp2_with fail
    have hK10 := HKn.out
    clear HKn HK9 ca cx cz iq
    generalize w9.setCell ⟨g, q2, none⟩ (.int .u8 a2) = w10 at *
    have HK10 := Lib.hid hK10
    have ca := HK10.out.tl.tl.hd.at HAv.out.2.2.2
    have cx := HK10.out.hd.at (b8_at (((A.set q0 a0).set q1 a1).set q2 a2) q3 (by (try simp only [List.length_set]); have := HLen.out; omega))
    have cz := HK10.out.hd.z q3
    have iq : ((q3 : Nat) : Int) < 16 := by omega
    generalize (((A.set q0 a0).set q1 a1).set q2 a2).getD q3 0 = dx at *
    have hK11 := HK10.out.set8 HNE.out HG.out q3 a3
    have HKn := Lib.hid hK11
    clear hK10 hK11
    rw [rounds_succ]
    go_wp2_with fail
    have hK11 := HKn.out
    clear HKn HK10 ca cx cz iq
    generalize w10.setCell ⟨g, q3, none⟩ (.int .u8 a3) = w11 at *
    rw [← HXr.out] at hK11
    have HK11 := Lib.hid hK11
    have hs11 : VR.length = 16 := by rw [HXr.out, b8_len]; simp [HLen.out]
    have HO11 : Hid (VR.toArray.all (·.oneCell') = true) := Lib.hid (by rw [HXr.out]; exact b8_one _)
    have hr11 := hK11.hd.range
    have ht11 : w11.there (w.heap.size + 1 + 1) 0 VR.toArray.size := hK11.tl.hd.there _ (by have := HLz.out; simp; omega)
    have HI11 : Hid ((Try.prog.info? 23).map (·.size) = some VR.length) := Lib.hid (by rw [hs11]; have h := HZz.out; have h2 := HLz.out; rw [h]; simp [h2])
    have hk12 := Bk.sets VR 0 _ _ hK11.tl.hd
    rw [puts_whole VZ.toArray VR (by have := HLz.out; simp; omega)] at hk12
    have HK12 := Lib.hid hk12
    clear hK11 hs11 HXr hk12
    rw [rounds_succ]
    go_wp2_with (first | (refine wpList_load_mid rfl 23 _ rfl g 0 rfl VR _ hr11 Try.underlying23 rfl HI11.out ?_) | (refine wpList_store_mid rfl 23 _ _ rfl (w.heap.size + 1 + 1) 0 VR.toArray rfl rfl ht11 (by simpa using HI11.out) HO11.out ?_))
    refine bodyPost_ret (v := .tuple #[.agg VR.toArray, .bool true]) ?_ rfl ⟨rfl, below_sets _ (by omega) 0 _ HK11.out.2.1⟩
    exact results_cell2 rfl rfl rfl (run_loadVar_mid _ (w.heap.size + 1 + 1) 0 23 VR _ HK12.out.range Try.underlying23 rfl (by simpa using HI11.out))
end Go.Proofs.Ytpjcanejenmldaa
