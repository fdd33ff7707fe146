/-
  Proved here: what the document's Extract answers.
  Conditions: addresses of 16 bytes.
-/
import Derived.Test.YtpjcanejenmldaaRefEmbed
namespace Go.Proofs.Ytpjcanejenmldaa
open Go.RowKit

/-- Three blocks, made one behind the other. -/
theorem kp3 (w : World) (T1 T2 T3 : TypeId) (V1 V2 V3 : List Value) : Kp w w.heap.size [(w.heap.size + 1 + 1, T3, V3), (w.heap.size + 1, T2, V2), (w.heap.size, T1, V1)] (((w.alloc (.cells V1.toArray T1)).alloc (.cells V2.toArray T2)).alloc (.cells V3.toArray T3)) := by
  have h := (((Kp.start w).new T1 V1).new T2 V2).new T3 V3
  have h1 : (w.alloc (.cells V1.toArray T1)).heap.size = w.heap.size + 1 := by simp
  have h2 : ((w.alloc (.cells V1.toArray T1)).alloc (.cells V2.toArray T2)).heap.size = w.heap.size + 1 + 1 := by simp
  rwa [h1, h2] at h
theorem get4_b8 (x : List Int) (a b c d : Nat) : b8 (get4 x [a, b, c, d]) = [.int .u8 (x.getD a 0), .int .u8 (x.getD b 0), .int .u8 (x.getD c 0), .int .u8 (x.getD d 0)] := rfl
set_option maxRecDepth 100000 in
set_option maxHeartbeats 4000000 in
theorem rextract_any (p : Nt) (x : List Int) (hl : p.ad.length = 16) (hx : x.length = 16) (w : World) :
    Calls Try.prog 17 #[.agg p.vals.toArray, .agg (b8 x).toArray] w fun e w' => e = .returned (.tuple #[.agg (b8 (p.ext x)).toArray, .bool (p.takes x)]) ∧ Below w.heap.size w w' := by
  have HR : Hid (∀ W, Calls Try.prog 20 #[.agg p.vals.toArray, .agg (b8 x).toArray] W fun e w' => e = .returned (.bool (p.inside x)) ∧ Below W.heap.size W w') := Lib.hid (fun W => rinside_any p x hl hx W)
  have HI : Hid (p.ext x = if p.takes x = true then get4 x (pos4 p.ln) else zero4) := Lib.hid rfl
  have HTk : Hid (p.takes x = (p.inside x && (x.getD 8 0 == 0))) := Lib.hid rfl
  have HO : Hid (p.inside x = true → okL p.ln = true) := Lib.hid (fun h => by unfold Nt.inside Nt.right at h; simp only [Bool.and_eq_true] at h; exact h.1.1)
  generalize p.takes x = tk at *
  generalize p.inside x = rt at *
  generalize p.ext x = R at *
  generalize hVR : b8 R = VR at *
  have HVR := Lib.hid hVR
  clear hVR
  have HV16 := Lib.hid (nvals_ln p hl)
  have HIn := Lib.hid (Try.infoNet p hl)
  have HIx := Lib.hid (Try.infoSix x hx)
  have HXa := Lib.hid (fun k (h : k < 16) => b8_at x k (by omega))
  have HZ4 : Hid ((Try.prog.info? 31).map (·.size) = some 4) := Lib.hid (Try.infoFour zero4 rfl)
  have HBD : Hid (∀ (ρ : Operand → Value) (d : Option Tmp) (ty : TypeId) (ps : String) (af : Array Edge) (W : World), (execOp ρ { dst := d, op := .build 31 #[], type := ty, pos := ps, after := af, guard := none }).run Try.prog W = .ok (.value (.agg ([.int .u8 0, .int .u8 0, .int .u8 0, .int .u8 0] : List Value).toArray)) W) := Lib.hid (fun ρ d ty ps af W => Try.execZ4 ρ d ty ps af none W)
  have HO4 : Hid (([.int .u8 0, .int .u8 0, .int .u8 0, .int .u8 0] : List Value).toArray.all (·.oneCell') = true) := Lib.hid (by simp [Value.oneCell'])
  have HK := Lib.hid (kp3 w 26 23 31 p.vals (b8 x) ([.int .u8 0, .int .u8 0, .int .u8 0, .int .u8 0] : List Value))
  generalize p.ln = L at *
  generalize p.vals = V at *
  generalize b8 x = X at *
  clear hl hx
  generalize hw3 : ((w.alloc (.cells V.toArray 26)).alloc (.cells X.toArray 23)).alloc (.cells ([.int .u8 0, .int .u8 0, .int .u8 0, .int .u8 0] : List Value).toArray 31) = w3 at *
  have hrN := HK.out.tl.tl.hd.range
  have hrX := HK.out.tl.hd.range
  go_enter Try.func17, Try.ntmps17
  go_upto_region 1 with (fail)
  clear hw3
  go_wp2_with (first | (refine wpList_load_mid rfl 26 _ rfl w.heap.size 0 rfl V _ hrN Try.underlying26 rfl HIn.out ?_) | (refine wpList_load_mid rfl 23 _ rfl (w.heap.size + 1) 0 rfl X _ hrX Try.underlying23 rfl HIx.out ?_))
  clear hrN hrX
  refine (HR.out _).mono ?_
  rintro e w5 ⟨rfl, b5⟩
  have HK5 := Lib.hid (HK.out.below b5 (Nat.le_refl _))
  clear b5 HK HR
  have ht5 : w5.there (w.heap.size + 1 + 1) 0 ([.int .u8 0, .int .u8 0, .int .u8 0, .int .u8 0] : List Value).toArray.size := HK5.out.hd.there _ (Nat.le_refl _)
  cases rt
  · have HXr : Hid (VR = ([.int .u8 0, .int .u8 0, .int .u8 0, .int .u8 0] : List Value)) := Lib.hid (by rw [← HVR.out, HI.out, HTk.out]; rfl)
    have HXt : Hid (tk = false) := Lib.hid (by rw [HTk.out]; rfl)
    clear HI HO HTk HVR
    go_wp2_with (first | (refine Great.wpList_readTo rfl _ rfl (.agg ([.int .u8 0, .int .u8 0, .int .u8 0, .int .u8 0] : List Value).toArray) (HBD.out _ _ _ _ _ _) ?_) | (refine wpList_store_mid rfl 31 _ _ rfl (w.heap.size + 1 + 1) 0 ([.int .u8 0, .int .u8 0, .int .u8 0, .int .u8 0] : List Value).toArray rfl rfl ht5 HZ4.out HO4.out ?_))
    have hk7 := Bk.sets ([.int .u8 0, .int .u8 0, .int .u8 0, .int .u8 0] : List Value) 0 _ _ HK5.out.hd
    rw [puts_whole ([.int .u8 0, .int .u8 0, .int .u8 0, .int .u8 0] : List Value).toArray ([.int .u8 0, .int .u8 0, .int .u8 0, .int .u8 0] : List Value) (by simp)] at hk7
    refine bodyPost_ret (v := .tuple #[.agg ([.int .u8 0, .int .u8 0, .int .u8 0, .int .u8 0] : List Value).toArray, .bool false]) ?_ rfl ⟨by rw [HXr.out, HXt.out], below_sets _ (by omega) 0 _ HK5.out.2.1⟩
    exact results_cell2 rfl rfl rfl (run_loadVar_mid _ (w.heap.size + 1 + 1) 0 31 ([.int .u8 0, .int .u8 0, .int .u8 0, .int .u8 0] : List Value) _ hk7.range Try.underlying31 rfl HZ4.out)
  · have hok := HO.out rfl
    have cx8 := HK5.out.tl.hd.at (HXa.out 8 (by omega))
    have HT8 : Hid (tk = (x.getD 8 0 == 0)) := Lib.hid (by rw [HTk.out]; rfl)
    clear HO HTk
    have HX8 : Hid (x.getD 8 0 = x.getD 8 0) := Lib.hid rfl
    generalize hd8 : x.getD 8 0 = d8 at cx8 HT8
    clear hd8 HX8
    by_cases h8 : d8 = 0
    · have e8 : (d8 != 0) = false := by rw [h8]; rfl
      have HTt : Hid (tk = true) := Lib.hid (by rw [HT8.out, h8]; rfl)
      have HIr : Hid (R = get4 x (pos4 L)) := Lib.hid (by rw [HI.out, HTt.out]; rfl)
      clear h8 HT8 HI
      have c16 := HK5.out.tl.tl.hd.at HV16.out
      rcases okL_cases hok with rfl | rfl | rfl | rfl | rfl | rfl
      · have HXr : Hid (VR = b8 (get4 x [4, 5, 6, 7])) := Lib.hid (by rw [← HVR.out, HIr.out]; rfl)
        rw [get4_b8] at HXr
        clear hok HIr HVR
        have cy0 := HK5.out.tl.hd.at (HXa.out 4 (by omega))
        have cy1 := HK5.out.tl.hd.at (HXa.out 5 (by omega))
        have cy2 := HK5.out.tl.hd.at (HXa.out 6 (by omega))
        have cy3 := HK5.out.tl.hd.at (HXa.out 7 (by omega))
        generalize x.getD 4 0 = y0 at *
        generalize x.getD 5 0 = y1 at *
        generalize x.getD 6 0 = y2 at *
        generalize x.getD 7 0 = y3 at *
        have HOw : Hid (([.int .u8 y0, .int .u8 y1, .int .u8 y2, .int .u8 y3] : List Value).toArray.all (·.oneCell') = true) := Lib.hid (by simp [Value.oneCell'])
        go_wp2_with (refine wpList_store_mid rfl 31 _ _ rfl (w.heap.size + 1 + 1) 0 ([.int .u8 y0, .int .u8 y1, .int .u8 y2, .int .u8 y3] : List Value).toArray rfl rfl ht5 HZ4.out HOw.out ?_)
        have hk7 := Bk.sets ([.int .u8 y0, .int .u8 y1, .int .u8 y2, .int .u8 y3] : List Value) 0 _ _ HK5.out.hd
        rw [puts_whole ([.int .u8 0, .int .u8 0, .int .u8 0, .int .u8 0] : List Value).toArray ([.int .u8 y0, .int .u8 y1, .int .u8 y2, .int .u8 y3] : List Value) (by simp)] at hk7
        refine bodyPost_ret (v := .tuple #[.agg ([.int .u8 y0, .int .u8 y1, .int .u8 y2, .int .u8 y3] : List Value).toArray, .bool true]) ?_ rfl ⟨by rw [HXr.out, HTt.out], below_sets _ (by omega) 0 _ HK5.out.2.1⟩
        exact results_cell2 rfl rfl rfl (run_loadVar_mid _ (w.heap.size + 1 + 1) 0 31 ([.int .u8 y0, .int .u8 y1, .int .u8 y2, .int .u8 y3] : List Value) _ hk7.range Try.underlying31 rfl HZ4.out)
      · have HXr : Hid (VR = b8 (get4 x [5, 6, 7, 9])) := Lib.hid (by rw [← HVR.out, HIr.out]; rfl)
        rw [get4_b8] at HXr
        clear hok HIr HVR
        have cy0 := HK5.out.tl.hd.at (HXa.out 5 (by omega))
        have cy1 := HK5.out.tl.hd.at (HXa.out 6 (by omega))
        have cy2 := HK5.out.tl.hd.at (HXa.out 7 (by omega))
        have cy3 := HK5.out.tl.hd.at (HXa.out 9 (by omega))
        generalize x.getD 5 0 = y0 at *
        generalize x.getD 6 0 = y1 at *
        generalize x.getD 7 0 = y2 at *
        generalize x.getD 9 0 = y3 at *
        have HOw : Hid (([.int .u8 y0, .int .u8 y1, .int .u8 y2, .int .u8 y3] : List Value).toArray.all (·.oneCell') = true) := Lib.hid (by simp [Value.oneCell'])
        go_wp2_with (refine wpList_store_mid rfl 31 _ _ rfl (w.heap.size + 1 + 1) 0 ([.int .u8 y0, .int .u8 y1, .int .u8 y2, .int .u8 y3] : List Value).toArray rfl rfl ht5 HZ4.out HOw.out ?_)
        have hk7 := Bk.sets ([.int .u8 y0, .int .u8 y1, .int .u8 y2, .int .u8 y3] : List Value) 0 _ _ HK5.out.hd
        rw [puts_whole ([.int .u8 0, .int .u8 0, .int .u8 0, .int .u8 0] : List Value).toArray ([.int .u8 y0, .int .u8 y1, .int .u8 y2, .int .u8 y3] : List Value) (by simp)] at hk7
        refine bodyPost_ret (v := .tuple #[.agg ([.int .u8 y0, .int .u8 y1, .int .u8 y2, .int .u8 y3] : List Value).toArray, .bool true]) ?_ rfl ⟨by rw [HXr.out, HTt.out], below_sets _ (by omega) 0 _ HK5.out.2.1⟩
        exact results_cell2 rfl rfl rfl (run_loadVar_mid _ (w.heap.size + 1 + 1) 0 31 ([.int .u8 y0, .int .u8 y1, .int .u8 y2, .int .u8 y3] : List Value) _ hk7.range Try.underlying31 rfl HZ4.out)
      · have HXr : Hid (VR = b8 (get4 x [6, 7, 9, 10])) := Lib.hid (by rw [← HVR.out, HIr.out]; rfl)
        rw [get4_b8] at HXr
        clear hok HIr HVR
        have cy0 := HK5.out.tl.hd.at (HXa.out 6 (by omega))
        have cy1 := HK5.out.tl.hd.at (HXa.out 7 (by omega))
        have cy2 := HK5.out.tl.hd.at (HXa.out 9 (by omega))
        have cy3 := HK5.out.tl.hd.at (HXa.out 10 (by omega))
        generalize x.getD 6 0 = y0 at *
        generalize x.getD 7 0 = y1 at *
        generalize x.getD 9 0 = y2 at *
        generalize x.getD 10 0 = y3 at *
        have HOw : Hid (([.int .u8 y0, .int .u8 y1, .int .u8 y2, .int .u8 y3] : List Value).toArray.all (·.oneCell') = true) := Lib.hid (by simp [Value.oneCell'])
        go_wp2_with (refine wpList_store_mid rfl 31 _ _ rfl (w.heap.size + 1 + 1) 0 ([.int .u8 y0, .int .u8 y1, .int .u8 y2, .int .u8 y3] : List Value).toArray rfl rfl ht5 HZ4.out HOw.out ?_)
        have hk7 := Bk.sets ([.int .u8 y0, .int .u8 y1, .int .u8 y2, .int .u8 y3] : List Value) 0 _ _ HK5.out.hd
        rw [puts_whole ([.int .u8 0, .int .u8 0, .int .u8 0, .int .u8 0] : List Value).toArray ([.int .u8 y0, .int .u8 y1, .int .u8 y2, .int .u8 y3] : List Value) (by simp)] at hk7
        refine bodyPost_ret (v := .tuple #[.agg ([.int .u8 y0, .int .u8 y1, .int .u8 y2, .int .u8 y3] : List Value).toArray, .bool true]) ?_ rfl ⟨by rw [HXr.out, HTt.out], below_sets _ (by omega) 0 _ HK5.out.2.1⟩
        exact results_cell2 rfl rfl rfl (run_loadVar_mid _ (w.heap.size + 1 + 1) 0 31 ([.int .u8 y0, .int .u8 y1, .int .u8 y2, .int .u8 y3] : List Value) _ hk7.range Try.underlying31 rfl HZ4.out)
      · have HXr : Hid (VR = b8 (get4 x [7, 9, 10, 11])) := Lib.hid (by rw [← HVR.out, HIr.out]; rfl)
        rw [get4_b8] at HXr
        clear hok HIr HVR
        have cy0 := HK5.out.tl.hd.at (HXa.out 7 (by omega))
        have cy1 := HK5.out.tl.hd.at (HXa.out 9 (by omega))
        have cy2 := HK5.out.tl.hd.at (HXa.out 10 (by omega))
        have cy3 := HK5.out.tl.hd.at (HXa.out 11 (by omega))
        generalize x.getD 7 0 = y0 at *
        generalize x.getD 9 0 = y1 at *
        generalize x.getD 10 0 = y2 at *
        generalize x.getD 11 0 = y3 at *
        have HOw : Hid (([.int .u8 y0, .int .u8 y1, .int .u8 y2, .int .u8 y3] : List Value).toArray.all (·.oneCell') = true) := Lib.hid (by simp [Value.oneCell'])
        go_wp2_with (refine wpList_store_mid rfl 31 _ _ rfl (w.heap.size + 1 + 1) 0 ([.int .u8 y0, .int .u8 y1, .int .u8 y2, .int .u8 y3] : List Value).toArray rfl rfl ht5 HZ4.out HOw.out ?_)
        have hk7 := Bk.sets ([.int .u8 y0, .int .u8 y1, .int .u8 y2, .int .u8 y3] : List Value) 0 _ _ HK5.out.hd
        rw [puts_whole ([.int .u8 0, .int .u8 0, .int .u8 0, .int .u8 0] : List Value).toArray ([.int .u8 y0, .int .u8 y1, .int .u8 y2, .int .u8 y3] : List Value) (by simp)] at hk7
        refine bodyPost_ret (v := .tuple #[.agg ([.int .u8 y0, .int .u8 y1, .int .u8 y2, .int .u8 y3] : List Value).toArray, .bool true]) ?_ rfl ⟨by rw [HXr.out, HTt.out], below_sets _ (by omega) 0 _ HK5.out.2.1⟩
        exact results_cell2 rfl rfl rfl (run_loadVar_mid _ (w.heap.size + 1 + 1) 0 31 ([.int .u8 y0, .int .u8 y1, .int .u8 y2, .int .u8 y3] : List Value) _ hk7.range Try.underlying31 rfl HZ4.out)
      · have HXr : Hid (VR = b8 (get4 x [9, 10, 11, 12])) := Lib.hid (by rw [← HVR.out, HIr.out]; rfl)
        rw [get4_b8] at HXr
        clear hok HIr HVR
        have cy0 := HK5.out.tl.hd.at (HXa.out 9 (by omega))
        have cy1 := HK5.out.tl.hd.at (HXa.out 10 (by omega))
        have cy2 := HK5.out.tl.hd.at (HXa.out 11 (by omega))
        have cy3 := HK5.out.tl.hd.at (HXa.out 12 (by omega))
        generalize x.getD 9 0 = y0 at *
        generalize x.getD 10 0 = y1 at *
        generalize x.getD 11 0 = y2 at *
        generalize x.getD 12 0 = y3 at *
        have HOw : Hid (([.int .u8 y0, .int .u8 y1, .int .u8 y2, .int .u8 y3] : List Value).toArray.all (·.oneCell') = true) := Lib.hid (by simp [Value.oneCell'])
        go_wp2_with (refine wpList_store_mid rfl 31 _ _ rfl (w.heap.size + 1 + 1) 0 ([.int .u8 y0, .int .u8 y1, .int .u8 y2, .int .u8 y3] : List Value).toArray rfl rfl ht5 HZ4.out HOw.out ?_)
        have hk7 := Bk.sets ([.int .u8 y0, .int .u8 y1, .int .u8 y2, .int .u8 y3] : List Value) 0 _ _ HK5.out.hd
        rw [puts_whole ([.int .u8 0, .int .u8 0, .int .u8 0, .int .u8 0] : List Value).toArray ([.int .u8 y0, .int .u8 y1, .int .u8 y2, .int .u8 y3] : List Value) (by simp)] at hk7
        refine bodyPost_ret (v := .tuple #[.agg ([.int .u8 y0, .int .u8 y1, .int .u8 y2, .int .u8 y3] : List Value).toArray, .bool true]) ?_ rfl ⟨by rw [HXr.out, HTt.out], below_sets _ (by omega) 0 _ HK5.out.2.1⟩
        exact results_cell2 rfl rfl rfl (run_loadVar_mid _ (w.heap.size + 1 + 1) 0 31 ([.int .u8 y0, .int .u8 y1, .int .u8 y2, .int .u8 y3] : List Value) _ hk7.range Try.underlying31 rfl HZ4.out)
      · have HXr : Hid (VR = b8 (get4 x [12, 13, 14, 15])) := Lib.hid (by rw [← HVR.out, HIr.out]; rfl)
        rw [get4_b8] at HXr
        clear hok HIr HVR
        have cy0 := HK5.out.tl.hd.at (HXa.out 12 (by omega))
        have cy1 := HK5.out.tl.hd.at (HXa.out 13 (by omega))
        have cy2 := HK5.out.tl.hd.at (HXa.out 14 (by omega))
        have cy3 := HK5.out.tl.hd.at (HXa.out 15 (by omega))
        generalize x.getD 12 0 = y0 at *
        generalize x.getD 13 0 = y1 at *
        generalize x.getD 14 0 = y2 at *
        generalize x.getD 15 0 = y3 at *
        have HOw : Hid (([.int .u8 y0, .int .u8 y1, .int .u8 y2, .int .u8 y3] : List Value).toArray.all (·.oneCell') = true) := Lib.hid (by simp [Value.oneCell'])
        go_wp2_with (refine wpList_store_mid rfl 31 _ _ rfl (w.heap.size + 1 + 1) 0 ([.int .u8 y0, .int .u8 y1, .int .u8 y2, .int .u8 y3] : List Value).toArray rfl rfl ht5 HZ4.out HOw.out ?_)
        have hk7 := Bk.sets ([.int .u8 y0, .int .u8 y1, .int .u8 y2, .int .u8 y3] : List Value) 0 _ _ HK5.out.hd
        rw [puts_whole ([.int .u8 0, .int .u8 0, .int .u8 0, .int .u8 0] : List Value).toArray ([.int .u8 y0, .int .u8 y1, .int .u8 y2, .int .u8 y3] : List Value) (by simp)] at hk7
        refine bodyPost_ret (v := .tuple #[.agg ([.int .u8 y0, .int .u8 y1, .int .u8 y2, .int .u8 y3] : List Value).toArray, .bool true]) ?_ rfl ⟨by rw [HXr.out, HTt.out], below_sets _ (by omega) 0 _ HK5.out.2.1⟩
        exact results_cell2 rfl rfl rfl (run_loadVar_mid _ (w.heap.size + 1 + 1) 0 31 ([.int .u8 y0, .int .u8 y1, .int .u8 y2, .int .u8 y3] : List Value) _ hk7.range Try.underlying31 rfl HZ4.out)
    · have e8 : (d8 != 0) = true := by rw [bne_iff_ne]; exact h8
      have HXt : Hid (tk = false) := Lib.hid (by rw [HT8.out, beq_eq_false_iff_ne.2 h8])
      have HXr : Hid (VR = ([.int .u8 0, .int .u8 0, .int .u8 0, .int .u8 0] : List Value)) := Lib.hid (by rw [← HVR.out, HI.out, HXt.out]; rfl)
      clear h8 HT8 HI hok HVR
      go_wp2_with (first | (refine Great.wpList_readTo rfl _ rfl (.agg ([.int .u8 0, .int .u8 0, .int .u8 0, .int .u8 0] : List Value).toArray) (HBD.out _ _ _ _ _ _) ?_) | (refine wpList_store_mid rfl 31 _ _ rfl (w.heap.size + 1 + 1) 0 ([.int .u8 0, .int .u8 0, .int .u8 0, .int .u8 0] : List Value).toArray rfl rfl ht5 HZ4.out HO4.out ?_))
      have hk7 := Bk.sets ([.int .u8 0, .int .u8 0, .int .u8 0, .int .u8 0] : List Value) 0 _ _ HK5.out.hd
      rw [puts_whole ([.int .u8 0, .int .u8 0, .int .u8 0, .int .u8 0] : List Value).toArray ([.int .u8 0, .int .u8 0, .int .u8 0, .int .u8 0] : List Value) (by simp)] at hk7
      refine bodyPost_ret (v := .tuple #[.agg ([.int .u8 0, .int .u8 0, .int .u8 0, .int .u8 0] : List Value).toArray, .bool false]) ?_ rfl ⟨by rw [HXr.out, HXt.out], below_sets _ (by omega) 0 _ HK5.out.2.1⟩
      exact results_cell2 rfl rfl rfl (run_loadVar_mid _ (w.heap.size + 1 + 1) 0 31 ([.int .u8 0, .int .u8 0, .int .u8 0, .int .u8 0] : List Value) _ hk7.range Try.underlying31 rfl HZ4.out)
end Go.Proofs.Ytpjcanejenmldaa
