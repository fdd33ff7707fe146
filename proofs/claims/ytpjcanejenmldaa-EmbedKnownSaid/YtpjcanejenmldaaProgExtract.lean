/-
  Proved here: what the program's Extract answers.
  Conditions: addresses of 16 bytes.
-/
import Derived.Test.YtpjcanejenmldaaProgEmbed
namespace Go.Proofs.Ytpjcanejenmldaa
open Go.RowKit

set_option maxRecDepth 100000 in
set_option maxHeartbeats 1000000 in
theorem extract_any (p : Nt) (x : List Int) (hl : p.ad.length = 16) (hx : x.length = 16) (w : World) :
    Calls Try.prog 12 #[.agg p.vals.toArray, .agg (b8 x).toArray] w fun e w' => e = .returned (.tuple #[.agg (b8 (p.ext x)).toArray, .bool (p.takes x)]) ∧ Below w.heap.size w w' := by
  have HR : Hid (∀ W, Calls Try.prog 19 #[.agg p.vals.toArray, .agg (b8 x).toArray] W fun e w' => e = .returned (.bool (p.inside x)) ∧ Below W.heap.size W w') := Lib.hid (fun W => inside_any p x hl hx W)
  have HI : Hid (p.ext x = if p.takes x = true then get4 x (pos4 p.ln) else zero4) := Lib.hid rfl
  have HTk : Hid (p.takes x = (p.inside x && (x.getD 8 0 == 0))) := Lib.hid rfl
  have HO : Hid (p.inside x = true → okL p.ln = true) := Lib.hid (fun h => by unfold Nt.inside Nt.right at h; simp only [Bool.and_eq_true] at h; exact h.1.1)
  have HPl := Lib.hid (fun (h : p.inside x = true) W => places_any p.ln (HO.out h) W)
  have HQs := Lib.hid (fun (h : p.inside x = true) => pos_some (HO.out h))
  generalize p.takes x = tk at *
  generalize p.inside x = rt at *
  generalize p.ext x = R at *
  generalize hVR : b8 R = VR at *
  have HVR := Lib.hid hVR
  clear hVR
  have HF := Lib.hid (nf_of p hl)
  have HIn := Lib.hid (Try.infoNet p hl)
  have HIx := Lib.hid (Try.infoSix x hx)
  have HXa := Lib.hid (fun k (h : k < 16) => b8_at x k (by omega))
  have HZ4 : Hid ((Try.prog.info? 31).map (·.size) = some 4) := Lib.hid (Try.infoFour zero4 rfl)
  have HBD : Hid (∀ (ρ : Operand → Value) (d : Option Tmp) (ty : TypeId) (ps : String) (af : Array Edge) (W : World), (execOp ρ { dst := d, op := .build 31 #[], type := ty, pos := ps, after := af, guard := none }).run Try.prog W = .ok (.value (.agg ([.int .u8 0, .int .u8 0, .int .u8 0, .int .u8 0] : List Value).toArray)) W) := Lib.hid (fun ρ d ty ps af W => Try.execZ4 ρ d ty ps af none W)
  have HO4 : Hid (([.int .u8 0, .int .u8 0, .int .u8 0, .int .u8 0] : List Value).toArray.all (·.oneCell') = true) := Lib.hid (by simp [Value.oneCell'])
  have HK := Lib.hid (kp3 w 26 23 31 p.vals (b8 x) ([.int .u8 0, .int .u8 0, .int .u8 0, .int .u8 0] : List Value))
  generalize p.ad.getD 8 0 = e8 at *
  generalize p.ln = L at *
  generalize p.vals = V at *
  generalize b8 p.ad = X8 at *
  generalize b8 x = X at *
  clear hl hx
  have HS3 : Hid ((((w.alloc (.cells V.toArray 26)).alloc (.cells X.toArray 23)).alloc (.cells ([.int .u8 0, .int .u8 0, .int .u8 0, .int .u8 0] : List Value).toArray 31)).heap.size = w.heap.size + 3) := Lib.hid (by simp)
  generalize hw3 : ((w.alloc (.cells V.toArray 26)).alloc (.cells X.toArray 23)).alloc (.cells ([.int .u8 0, .int .u8 0, .int .u8 0, .int .u8 0] : List Value).toArray 31) = w3 at *
  have hrN := HK.out.tl.tl.hd.range
  have hrX := HK.out.tl.hd.range
  go_enter Try.func12, Try.ntmps12
  go_upto_region 1 with (fail)
  clear hw3
  go_wp2_with (first | (refine wpList_load_mid rfl 26 _ rfl w.heap.size 0 rfl V _ hrN Try.underlying26 rfl HIn.out ?_) | (refine wpList_load_mid rfl 23 _ rfl (w.heap.size + 1) 0 rfl X _ hrX Try.underlying23 rfl HIx.out ?_))
  clear hrN hrX
  refine (HR.out _).mono ?_
  rintro e w5 ⟨rfl, b5⟩
  have HK5 := Lib.hid (HK.out.below b5 (Nat.le_refl _))
  have HS5 : Hid (w.heap.size + 3 ≤ w5.heap.size) := Lib.hid (by have := b5.size; have := HS3.out; omega)
  clear b5 HK HR HS3
  have ht5 : w5.there (w.heap.size + 1 + 1) 0 ([.int .u8 0, .int .u8 0, .int .u8 0, .int .u8 0] : List Value).toArray.size := HK5.out.hd.there _ (Nat.le_refl _)
  cases rt
  · have HXr : Hid (VR = ([.int .u8 0, .int .u8 0, .int .u8 0, .int .u8 0] : List Value)) := Lib.hid (by rw [← HVR.out, HI.out, HTk.out]; rfl)
    have HXt : Hid (tk = false) := Lib.hid (by rw [HTk.out]; rfl)
    clear HI HO HTk HVR HPl HQs
    go_wp2_with (first | (refine Great.wpList_readTo rfl _ rfl (.agg ([.int .u8 0, .int .u8 0, .int .u8 0, .int .u8 0] : List Value).toArray) (HBD.out _ _ _ _ _ _) ?_) | (refine wpList_store_mid rfl 31 _ _ rfl (w.heap.size + 1 + 1) 0 ([.int .u8 0, .int .u8 0, .int .u8 0, .int .u8 0] : List Value).toArray rfl rfl ht5 HZ4.out HO4.out ?_))
    have hk7 := Bk.sets ([.int .u8 0, .int .u8 0, .int .u8 0, .int .u8 0] : List Value) 0 _ _ HK5.out.hd
    rw [puts_whole ([.int .u8 0, .int .u8 0, .int .u8 0, .int .u8 0] : List Value).toArray ([.int .u8 0, .int .u8 0, .int .u8 0, .int .u8 0] : List Value) (by simp)] at hk7
    refine bodyPost_ret (v := .tuple #[.agg ([.int .u8 0, .int .u8 0, .int .u8 0, .int .u8 0] : List Value).toArray, .bool false]) ?_ rfl ⟨by rw [HXr.out, HXt.out], below_sets _ (by omega) 0 _ HK5.out.2.1⟩
    exact results_cell2 rfl rfl rfl (run_loadVar_mid _ (w.heap.size + 1 + 1) 0 31 ([.int .u8 0, .int .u8 0, .int .u8 0, .int .u8 0] : List Value) _ hk7.range Try.underlying31 rfl HZ4.out)
  · have cx8 := HK5.out.tl.hd.at (HXa.out 8 (by omega))
    have HT8 : Hid (tk = (x.getD 8 0 == 0)) := Lib.hid (by rw [HTk.out]; rfl)
    clear HO HTk
    generalize hd8 : x.getD 8 0 = d8 at cx8 HT8
    clear hd8
    by_cases h8 : d8 = 0
    · have e8 : (d8 != 0) = false := by rw [h8]; rfl
      have HTt : Hid (tk = true) := Lib.hid (by rw [HT8.out, h8]; rfl)
      obtain ⟨q0, q1, q2, q3, hq, l0, l1, l2, l3⟩ := HQs.out rfl
      have hPl := HPl.out rfl
      rw [hq] at hPl
      have HXr : Hid (VR = b8 (get4 x [q0, q1, q2, q3])) := Lib.hid (by rw [← HVR.out, HI.out, HTt.out, hq]; rfl)
      rw [get4_b8] at HXr
      have HPL : Hid (∀ W, Calls Try.prog 21 #[.int .i64 L] W fun e w' => e = .returned (.agg #[.int .i64 (q0 : Int), .int .i64 (q1 : Int), .int .i64 (q2 : Int), .int .i64 (q3 : Int)]) ∧ Below W.heap.size W w') := Lib.hid hPl
      clear h8 HT8 HI hPl hq HPl HQs HVR
      go_upto_region 4 with (fail)
      have HK6 := Lib.hid (HK5.out.new 31 ([.int .u8 0, .int .u8 0, .int .u8 0, .int .u8 0] : List Value))
      have HNE : Hid (∀ y ∈ [(w.heap.size + 1 + 1, 31, ([.int .u8 0, .int .u8 0, .int .u8 0, .int .u8 0] : List Value)), (w.heap.size + 1, 23, X), (w.heap.size, 26, V)], y.1 ≠ w5.heap.size) := Lib.hid (fun y hy => HK5.out.ne y hy)
      have HG : Hid (w.heap.size ≤ w5.heap.size) := Lib.hid (by have := HS5.out; omega)
      clear HK5 ht5 HS5 cx8
      generalize w5.alloc (.cells ([.int .u8 0, .int .u8 0, .int .u8 0, .int .u8 0] : List Value).toArray 31) = w6 at *
      generalize w5.heap.size = g at *
      have c16 := (net_s HF.out HK6.out.tl.tl.tl.hd).2.2
      go_wp2_with fail
      clear c16
      refine (HPL.out _).mono ?_
      rintro e w7 ⟨rfl, b7⟩
      have hK7 := HK6.out.below b7 (Nat.le_refl _)
      clear b7 HK6 HPL
      go_wp2_with fail
      have hx0 := Try.idx0 (q0 : Int) (q1 : Int) (q2 : Int) (q3 : Int)
      have hx1 := Try.idx1 (q0 : Int) (q1 : Int) (q2 : Int) (q3 : Int)
      have hx2 := Try.idx2 (q0 : Int) (q1 : Int) (q2 : Int) (q3 : Int)
      have hx3 := Try.idx3 (q0 : Int) (q1 : Int) (q2 : Int) (q3 : Int)
      refine wp_loop_rounds 5 ?_
      have HK7 := Lib.hid hK7
      have cy := HK7.out.tl.tl.hd.at (HXa.out q0 l0)
      generalize x.getD q0 0 = y0 at *
      have cx := HK7.out.hd.at (i := 0) rfl
      have cz := HK7.out.hd.z 0
      have iq : ((q0 : Nat) : Int) < 16 := by omega
      have HKn : Hid (Kp w w.heap.size ((g, 31, [.int .u8 y0, .int .u8 0, .int .u8 0, .int .u8 0]) :: [(w.heap.size + 1 + 1, 31, ([.int .u8 0, .int .u8 0, .int .u8 0, .int .u8 0] : List Value)), (w.heap.size + 1, 23, X), (w.heap.size, 26, V)]) (w7.setCell ⟨g, 0, none⟩ (.int .u8 y0))) := Lib.hid (HK7.out.set1 HNE.out HG.out 0 _)
      clear hK7
      rw [rounds_succ]
      go_wp2_with fail
      have hK8 := HKn.out
      clear HKn HK7 cy cx cz iq
      generalize w7.setCell ⟨g, 0, none⟩ (.int .u8 y0) = w8 at *
      have HK8 := Lib.hid hK8
      have cy := HK8.out.tl.tl.hd.at (HXa.out q1 l1)
      generalize x.getD q1 0 = y1 at *
      have cx := HK8.out.hd.at (i := 1) rfl
      have cz := HK8.out.hd.z 1
      have iq : ((q1 : Nat) : Int) < 16 := by omega
      have HKn : Hid (Kp w w.heap.size ((g, 31, [.int .u8 y0, .int .u8 y1, .int .u8 0, .int .u8 0]) :: [(w.heap.size + 1 + 1, 31, ([.int .u8 0, .int .u8 0, .int .u8 0, .int .u8 0] : List Value)), (w.heap.size + 1, 23, X), (w.heap.size, 26, V)]) (w8.setCell ⟨g, 1, none⟩ (.int .u8 y1))) := Lib.hid (HK8.out.set1 HNE.out HG.out 1 _)
      clear hK8
      rw [rounds_succ]
      go_wp2_with fail
      have hK9 := HKn.out
      clear HKn HK8 cy cx cz iq
      generalize w8.setCell ⟨g, 1, none⟩ (.int .u8 y1) = w9 at *
      have HK9 := Lib.hid hK9
      have cy := HK9.out.tl.tl.hd.at (HXa.out q2 l2)
      generalize x.getD q2 0 = y2 at *
      have cx := HK9.out.hd.at (i := 2) rfl
      have cz := HK9.out.hd.z 2
      have iq : ((q2 : Nat) : Int) < 16 := by omega
      have HKn : Hid (Kp w w.heap.size ((g, 31, [.int .u8 y0, .int .u8 y1, .int .u8 y2, .int .u8 0]) :: [(w.heap.size + 1 + 1, 31, ([.int .u8 0, .int .u8 0, .int .u8 0, .int .u8 0] : List Value)), (w.heap.size + 1, 23, X), (w.heap.size, 26, V)]) (w9.setCell ⟨g, 2, none⟩ (.int .u8 y2))) := Lib.hid (HK9.out.set1 HNE.out HG.out 2 _)
      clear hK9
      rw [rounds_succ]
      go_wp2_with fail
      have hK10 := HKn.out
      clear HKn HK9 cy cx cz iq
      generalize w9.setCell ⟨g, 2, none⟩ (.int .u8 y2) = w10 at *
      have HK10 := Lib.hid hK10
      have cy := HK10.out.tl.tl.hd.at (HXa.out q3 l3)
      generalize x.getD q3 0 = y3 at *
      have cx := HK10.out.hd.at (i := 3) rfl
      have cz := HK10.out.hd.z 3
      have iq : ((q3 : Nat) : Int) < 16 := by omega
      have HKn : Hid (Kp w w.heap.size ((g, 31, [.int .u8 y0, .int .u8 y1, .int .u8 y2, .int .u8 y3]) :: [(w.heap.size + 1 + 1, 31, ([.int .u8 0, .int .u8 0, .int .u8 0, .int .u8 0] : List Value)), (w.heap.size + 1, 23, X), (w.heap.size, 26, V)]) (w10.setCell ⟨g, 3, none⟩ (.int .u8 y3))) := Lib.hid (HK10.out.set1 HNE.out HG.out 3 _)
      clear hK10
      rw [rounds_succ]
      go_wp2_with fail
      have hK11 := HKn.out
      clear HKn HK10 cy cx cz iq
      generalize w10.setCell ⟨g, 3, none⟩ (.int .u8 y3) = w11 at *
      have HK11 := Lib.hid hK11
      have HO11 : Hid (([.int .u8 y0, .int .u8 y1, .int .u8 y2, .int .u8 y3] : List Value).toArray.all (·.oneCell') = true) := Lib.hid (by simp [Value.oneCell'])
      have hr11 := hK11.hd.range
      have ht11 : w11.there (w.heap.size + 1 + 1) 0 ([.int .u8 y0, .int .u8 y1, .int .u8 y2, .int .u8 y3] : List Value).toArray.size := hK11.tl.hd.there _ (Nat.le_refl _)
      have hk12 := Bk.sets ([.int .u8 y0, .int .u8 y1, .int .u8 y2, .int .u8 y3] : List Value) 0 _ _ hK11.tl.hd
      rw [puts_whole ([.int .u8 0, .int .u8 0, .int .u8 0, .int .u8 0] : List Value).toArray ([.int .u8 y0, .int .u8 y1, .int .u8 y2, .int .u8 y3] : List Value) (by simp)] at hk12
      have HK12 := Lib.hid hk12
      clear hK11 hk12
      rw [rounds_succ]
      go_wp2_with (first | (refine wpList_load_mid rfl 31 _ rfl g 0 rfl ([.int .u8 y0, .int .u8 y1, .int .u8 y2, .int .u8 y3] : List Value) _ hr11 Try.underlying31 rfl HZ4.out ?_) | (refine wpList_store_mid rfl 31 _ _ rfl (w.heap.size + 1 + 1) 0 ([.int .u8 y0, .int .u8 y1, .int .u8 y2, .int .u8 y3] : List Value).toArray rfl rfl ht11 HZ4.out HO11.out ?_))
      refine bodyPost_ret (v := .tuple #[.agg ([.int .u8 y0, .int .u8 y1, .int .u8 y2, .int .u8 y3] : List Value).toArray, .bool true]) ?_ rfl ⟨by rw [HXr.out, HTt.out], below_sets _ (by omega) 0 _ HK11.out.2.1⟩
      exact results_cell2 rfl rfl rfl (run_loadVar_mid _ (w.heap.size + 1 + 1) 0 31 ([.int .u8 y0, .int .u8 y1, .int .u8 y2, .int .u8 y3] : List Value) _ HK12.out.range Try.underlying31 rfl HZ4.out)
    · have e8 : (d8 != 0) = true := by rw [bne_iff_ne]; exact h8
      have HXt : Hid (tk = false) := Lib.hid (by rw [HT8.out, beq_eq_false_iff_ne.2 h8])
      have HXr : Hid (VR = ([.int .u8 0, .int .u8 0, .int .u8 0, .int .u8 0] : List Value)) := Lib.hid (by rw [← HVR.out, HI.out, HXt.out]; rfl)
      clear h8 HT8 HI HVR HPl HQs
      go_wp2_with (first | (refine Great.wpList_readTo rfl _ rfl (.agg ([.int .u8 0, .int .u8 0, .int .u8 0, .int .u8 0] : List Value).toArray) (HBD.out _ _ _ _ _ _) ?_) | (refine wpList_store_mid rfl 31 _ _ rfl (w.heap.size + 1 + 1) 0 ([.int .u8 0, .int .u8 0, .int .u8 0, .int .u8 0] : List Value).toArray rfl rfl ht5 HZ4.out HO4.out ?_))
      have hk7 := Bk.sets ([.int .u8 0, .int .u8 0, .int .u8 0, .int .u8 0] : List Value) 0 _ _ HK5.out.hd
      rw [puts_whole ([.int .u8 0, .int .u8 0, .int .u8 0, .int .u8 0] : List Value).toArray ([.int .u8 0, .int .u8 0, .int .u8 0, .int .u8 0] : List Value) (by simp)] at hk7
      refine bodyPost_ret (v := .tuple #[.agg ([.int .u8 0, .int .u8 0, .int .u8 0, .int .u8 0] : List Value).toArray, .bool false]) ?_ rfl ⟨by rw [HXr.out, HXt.out], below_sets _ (by omega) 0 _ HK5.out.2.1⟩
      exact results_cell2 rfl rfl rfl (run_loadVar_mid _ (w.heap.size + 1 + 1) 0 31 ([.int .u8 0, .int .u8 0, .int .u8 0, .int .u8 0] : List Value) _ hk7.range Try.underlying31 rfl HZ4.out)
end Go.Proofs.Ytpjcanejenmldaa
