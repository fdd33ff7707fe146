/-
  Proved here: the law ClassReads answers true.
  Conditions: what the library's variables hold.
-/
import Derived.Test.YtkkgcmfcfacakaaDoorNet6
import Derived.Test.YtkkgcmfcfacakaaDoorAwakec
import Derived.Test.YtkkgcmfcfacakaaDoorHeld
namespace Go.Proofs.YtkkgcmfcfacakaaDoor
open Go.RowKit

set_option maxRecDepth 100000 in
set_option maxHeartbeats 8000000 in
theorem classReads_any (s : ByteArray) (w : World) (h0 : Hw w) :
    Calls Tryd.prog 4 #[.string s] w fun e w' => e = .returned (.bool true) ∧ Below w.heap.size w w' := by
  have HW := Lib.hid h0
  have CA := Lib.hid (fun W (h : Hw W) => awakec_true W h)
  by_cases hs : s.size ≤ 300
  · have C4 : Hid (∀ W, Calls Tryd.prog 14 #[.string s] W fun e w' => e = .returned (.tuple #[.agg (bu (val4u s)).toArray, .bool (ok4 s)]) ∧ Below W.heap.size W w') := Lib.hid (fun W => by rw [val4u_b8]; exact parse4_any s W)
    have D4 : Hid (∀ W, Calls Tryd.prog 19 #[.string s] W fun e w' => e = .returned (.tuple #[.agg (bu (val4u s)).toArray, .bool (ok4 s)]) ∧ Below W.heap.size W w') := Lib.hid (fun W => by rw [val4u_b8]; exact rparse4_any s W (by omega))
    have C6 : Hid (∀ W, Hw W → Calls Tryd.prog 13 #[.string s] W fun e w' => e = .returned (.tuple #[.agg (bu (val6u s)).toArray, .bool (ok6 s)]) ∧ Below W.heap.size W w') := Lib.hid (fun W h => by rw [val6u_b8]; exact parse6_any s W (by omega) h.ml)
    have D6 : Hid (∀ W, Calls Tryd.prog 20 #[.string s] W fun e w' => e = .returned (.tuple #[.agg (bu (val6u s)).toArray, .bool (ok6 s)]) ∧ Below W.heap.size W w') := Lib.hid (fun W => by rw [val6u_b8]; exact rparse6_any s W (by omega))
    have E4 : Hid (∀ W, Hw W → Calls Tryd.prog 15 #[.string s] W fun e w' => e = .returned (.tuple #[.agg (valN4 s).vals.toArray, .bool (okN4 s)]) ∧ Below W.heap.size W w') := Lib.hid (fun W h => parsenet4_any s W (by omega) h.ml)
    have F4 : Hid (∀ W, Calls Tryd.prog 21 #[.string s] W fun e w' => e = .returned (.tuple #[.agg (valN4 s).vals.toArray, .bool (okN4 s)]) ∧ Below W.heap.size W w') := Lib.hid (fun W => rparsenet4_any s W (by omega))
    have E6 : Hid (∀ W, Hw W → Calls Tryd.prog 16 #[.string s] W fun e w' => e = .returned (.tuple #[.agg (valN6 s).vals.toArray, .bool (okN6 s)]) ∧ Below W.heap.size W w') := Lib.hid (fun W h => parsenet6_any s W (by omega) h.ml)
    have F6 : Hid (∀ W, Calls Tryd.prog 22 #[.string s] W fun e w' => e = .returned (.tuple #[.agg (valN6 s).vals.toArray, .bool (okN6 s)]) ∧ Below W.heap.size W w') := Lib.hid (fun W => rparsenet6_any s W (by omega))
    have l4 := val4u_len s
    have l6 := val6u_len s
    have m4 := netN4_len s
    have m6 := valN6_len s
    have HI_VA : Hid ((Tryd.prog.info? 28).map (·.size) = some (bu (val4u s)).length) := Lib.hid (Tryd.infoU4 _ l4)
    have HO_VA : Hid ((bu (val4u s)).toArray.all (·.oneCell') = true) := Lib.hid (bu_one _)
    have HL_VA : Hid ((bu (val4u s)).length = 4) := Lib.hid (by rw [bu_len]; exact l4)
    have HI_VX : Hid ((Tryd.prog.info? 24).map (·.size) = some (bu (val6u s)).length) := Lib.hid (Tryd.infoU6 _ l6)
    have HO_VX : Hid ((bu (val6u s)).toArray.all (·.oneCell') = true) := Lib.hid (bu_one _)
    have HL_VX : Hid ((bu (val6u s)).length = 16) := Lib.hid (by rw [bu_len]; exact l6)
    have HI_VM : Hid ((Tryd.prog.info? 32).map (·.size) = some ((valN4 s).vals).length) := Lib.hid (Tryd.infoNn4 _ m4)
    have HO_VM : Hid (((valN4 s).vals).toArray.all (·.oneCell') = true) := Lib.hid (nn_one _)
    have HL_VM : Hid (((valN4 s).vals).length = 5) := Lib.hid (by unfold Nn.vals; rw [List.length_append, bu_len, m4]; rfl)
    have HI_VN : Hid ((Tryd.prog.info? 36).map (·.size) = some ((valN6 s).vals).length) := Lib.hid (Tryd.infoNn6 _ m6)
    have HO_VN : Hid (((valN6 s).vals).toArray.all (·.oneCell') = true) := Lib.hid (nn_one _)
    have HL_VN : Hid (((valN6 s).vals).length = 17) := Lib.hid (by unfold Nn.vals; rw [List.length_append, bu_len, m6]; rfl)
    have q4 : ∀ W, (binOp .eql 28 (.agg (bu (val4u s)).toArray) (.agg (bu (val4u s)).toArray)).run Tryd.prog W = .ok (.bool true) W := fun W => by
      have h := equ4 (val4u s) (val4u s) l4 l4 W
      simpa only [decide_true, beq_self_eq_true, Bool.and_self, Bool.and_true, Bool.true_and] using h
    have q6 : ∀ W, (binOp .eql 24 (.agg (bu (val6u s)).toArray) (.agg (bu (val6u s)).toArray)).run Tryd.prog W = .ok (.bool true) W := fun W => by
      have h := equ6 (val6u s) (val6u s) l6 l6 W
      simpa only [decide_true, beq_self_eq_true, Bool.and_self, Bool.and_true, Bool.true_and] using h
    have qm : ∀ W, (binOp .eql 32 (.agg ((valN4 s).vals).toArray) (.agg ((valN4 s).vals).toArray)).run Tryd.prog W = .ok (.bool true) W := fun W => by
      have h := eqN4 (valN4 s) (valN4 s) m4 m4 W
      simpa only [decide_true, beq_self_eq_true, Bool.and_self, Bool.and_true, Bool.true_and] using h
    have qn : ∀ W, (binOp .eql 36 (.agg ((valN6 s).vals).toArray) (.agg ((valN6 s).vals).toArray)).run Tryd.prog W = .ok (.bool true) W := fun W => by
      have h := eqN6 (valN6 s) (valN6 s) m6 m6 W
      simpa only [decide_true, beq_self_eq_true, Bool.and_self, Bool.and_true, Bool.true_and] using h
    clear l4 l6 m4 m6
    generalize bu (val4u s) = VA at *
    generalize bu (val6u s) = VX at *
    generalize (valN4 s).vals = VM at *
    generalize (valN6 s).vals = VN at *
    generalize ok4 s = O4 at *
    generalize ok6 s = O6 at *
    generalize okN4 s = P4 at *
    generalize okN6 s = P6 at *
    have i3 : ¬ (300 : Int) < (s.size : Int) := by omega
    have HK0 := Lib.hid (Kp.start w)
    clear h0 hs
    go_enter Tryd.func4, Tryd.ntmps4
    go_wp2_with (fail)
    refine (CA.out _ (HW.out.below HK0.out.2.1)).mono ?_
    rintro e w1 ⟨rfl, bb⟩
    have HK1 := Lib.hid (HK0.out.below bb (Nat.le_refl _))
    clear bb HK0
    go_wp2_with (fail)
    refine (C4.out _).mono ?_
    rintro e w2 ⟨rfl, bb⟩
    have HK2 := Lib.hid (HK1.out.below bb (Nat.le_refl _))
    clear bb HK1
    have ht := (bk_new w2 28 ([.int .u8 0, .int .u8 0, .int .u8 0, .int .u8 0] : List Value).toArray).there VA.toArray.size (by have := HL_VA.out; simp; omega)
    go_upto_region 6 with ((refine wpList_store_mid rfl 28 _ _ rfl w2.heap.size 0 VA.toArray rfl rfl ht (by simpa using HI_VA.out) HO_VA.out ?_))
    have HK3 := Lib.hid (HK2.out.put 28 ([.int .u8 0, .int .u8 0, .int .u8 0, .int .u8 0] : List Value).toArray VA (by have := HL_VA.out; simp; omega))
    clear ht HK2
    generalize (w2.alloc (.cells ([.int .u8 0, .int .u8 0, .int .u8 0, .int .u8 0] : List Value).toArray 28)).setCells w2.heap.size 0 VA = w3 at *
    generalize w2.heap.size = g6 at *
    go_wp2_with (fail)
    refine (D4.out _).mono ?_
    rintro e w4 ⟨rfl, bb⟩
    have HK4 := Lib.hid (HK3.out.below bb (Nat.le_refl _))
    clear bb HK3
    have ht := (bk_new w4 28 ([.int .u8 0, .int .u8 0, .int .u8 0, .int .u8 0] : List Value).toArray).there VA.toArray.size (by have := HL_VA.out; simp; omega)
    go_upto_region 7 with ((refine wpList_store_mid rfl 28 _ _ rfl w4.heap.size 0 VA.toArray rfl rfl ht (by simpa using HI_VA.out) HO_VA.out ?_))
    have HK5 := Lib.hid (HK4.out.put 28 ([.int .u8 0, .int .u8 0, .int .u8 0, .int .u8 0] : List Value).toArray VA (by have := HL_VA.out; simp; omega))
    clear ht HK4
    generalize (w4.alloc (.cells ([.int .u8 0, .int .u8 0, .int .u8 0, .int .u8 0] : List Value).toArray 28)).setCells w4.heap.size 0 VA = w5 at *
    generalize w4.heap.size = g7 at *
    go_wp2_with (fail)
    refine (C6.out _ (HW.out.below HK5.out.2.1)).mono ?_
    rintro e w6 ⟨rfl, bb⟩
    have HK6 := Lib.hid (HK5.out.below bb (Nat.le_refl _))
    clear bb HK5
    have ht := (bk_new w6 24 ([.int .u8 0, .int .u8 0, .int .u8 0, .int .u8 0, .int .u8 0, .int .u8 0, .int .u8 0, .int .u8 0, .int .u8 0, .int .u8 0, .int .u8 0, .int .u8 0, .int .u8 0, .int .u8 0, .int .u8 0, .int .u8 0] : List Value).toArray).there VX.toArray.size (by have := HL_VX.out; simp; omega)
    go_upto_region 8 with ((refine wpList_store_mid rfl 24 _ _ rfl w6.heap.size 0 VX.toArray rfl rfl ht (by simpa using HI_VX.out) HO_VX.out ?_))
    have HK7 := Lib.hid (HK6.out.put 24 ([.int .u8 0, .int .u8 0, .int .u8 0, .int .u8 0, .int .u8 0, .int .u8 0, .int .u8 0, .int .u8 0, .int .u8 0, .int .u8 0, .int .u8 0, .int .u8 0, .int .u8 0, .int .u8 0, .int .u8 0, .int .u8 0] : List Value).toArray VX (by have := HL_VX.out; simp; omega))
    clear ht HK6
    generalize (w6.alloc (.cells ([.int .u8 0, .int .u8 0, .int .u8 0, .int .u8 0, .int .u8 0, .int .u8 0, .int .u8 0, .int .u8 0, .int .u8 0, .int .u8 0, .int .u8 0, .int .u8 0, .int .u8 0, .int .u8 0, .int .u8 0, .int .u8 0] : List Value).toArray 24)).setCells w6.heap.size 0 VX = w7 at *
    generalize w6.heap.size = g8 at *
    go_wp2_with (fail)
    refine (D6.out _).mono ?_
    rintro e w8 ⟨rfl, bb⟩
    have HK8 := Lib.hid (HK7.out.below bb (Nat.le_refl _))
    clear bb HK7
    have ht := (bk_new w8 24 ([.int .u8 0, .int .u8 0, .int .u8 0, .int .u8 0, .int .u8 0, .int .u8 0, .int .u8 0, .int .u8 0, .int .u8 0, .int .u8 0, .int .u8 0, .int .u8 0, .int .u8 0, .int .u8 0, .int .u8 0, .int .u8 0] : List Value).toArray).there VX.toArray.size (by have := HL_VX.out; simp; omega)
    go_upto_region 9 with ((refine wpList_store_mid rfl 24 _ _ rfl w8.heap.size 0 VX.toArray rfl rfl ht (by simpa using HI_VX.out) HO_VX.out ?_))
    have HK9 := Lib.hid (HK8.out.put 24 ([.int .u8 0, .int .u8 0, .int .u8 0, .int .u8 0, .int .u8 0, .int .u8 0, .int .u8 0, .int .u8 0, .int .u8 0, .int .u8 0, .int .u8 0, .int .u8 0, .int .u8 0, .int .u8 0, .int .u8 0, .int .u8 0] : List Value).toArray VX (by have := HL_VX.out; simp; omega))
    clear ht HK8
    generalize (w8.alloc (.cells ([.int .u8 0, .int .u8 0, .int .u8 0, .int .u8 0, .int .u8 0, .int .u8 0, .int .u8 0, .int .u8 0, .int .u8 0, .int .u8 0, .int .u8 0, .int .u8 0, .int .u8 0, .int .u8 0, .int .u8 0, .int .u8 0] : List Value).toArray 24)).setCells w8.heap.size 0 VX = w9 at *
    generalize w8.heap.size = g9 at *
    go_wp2_with (fail)
    refine (E4.out _ (HW.out.below HK9.out.2.1)).mono ?_
    rintro e w10 ⟨rfl, bb⟩
    have HK10 := Lib.hid (HK9.out.below bb (Nat.le_refl _))
    clear bb HK9
    have ht := (bk_new w10 32 ([.int .u8 0, .int .u8 0, .int .u8 0, .int .u8 0, .int .i64 0] : List Value).toArray).there VM.toArray.size (by have := HL_VM.out; simp; omega)
    go_upto_region 10 with ((refine wpList_store_mid rfl 32 _ _ rfl w10.heap.size 0 VM.toArray rfl rfl ht (by simpa using HI_VM.out) HO_VM.out ?_))
    have HK11 := Lib.hid (HK10.out.put 32 ([.int .u8 0, .int .u8 0, .int .u8 0, .int .u8 0, .int .i64 0] : List Value).toArray VM (by have := HL_VM.out; simp; omega))
    clear ht HK10
    generalize (w10.alloc (.cells ([.int .u8 0, .int .u8 0, .int .u8 0, .int .u8 0, .int .i64 0] : List Value).toArray 32)).setCells w10.heap.size 0 VM = w11 at *
    generalize w10.heap.size = g10 at *
    go_wp2_with (fail)
    refine (F4.out _).mono ?_
    rintro e w12 ⟨rfl, bb⟩
    have HK12 := Lib.hid (HK11.out.below bb (Nat.le_refl _))
    clear bb HK11
    have ht := (bk_new w12 32 ([.int .u8 0, .int .u8 0, .int .u8 0, .int .u8 0, .int .i64 0] : List Value).toArray).there VM.toArray.size (by have := HL_VM.out; simp; omega)
    go_upto_region 11 with ((refine wpList_store_mid rfl 32 _ _ rfl w12.heap.size 0 VM.toArray rfl rfl ht (by simpa using HI_VM.out) HO_VM.out ?_))
    have HK13 := Lib.hid (HK12.out.put 32 ([.int .u8 0, .int .u8 0, .int .u8 0, .int .u8 0, .int .i64 0] : List Value).toArray VM (by have := HL_VM.out; simp; omega))
    clear ht HK12
    generalize (w12.alloc (.cells ([.int .u8 0, .int .u8 0, .int .u8 0, .int .u8 0, .int .i64 0] : List Value).toArray 32)).setCells w12.heap.size 0 VM = w13 at *
    generalize w12.heap.size = g11 at *
    go_wp2_with (fail)
    refine (E6.out _ (HW.out.below HK13.out.2.1)).mono ?_
    rintro e w14 ⟨rfl, bb⟩
    have HK14 := Lib.hid (HK13.out.below bb (Nat.le_refl _))
    clear bb HK13
    have ht := (bk_new w14 36 ([.int .u8 0, .int .u8 0, .int .u8 0, .int .u8 0, .int .u8 0, .int .u8 0, .int .u8 0, .int .u8 0, .int .u8 0, .int .u8 0, .int .u8 0, .int .u8 0, .int .u8 0, .int .u8 0, .int .u8 0, .int .u8 0, .int .i64 0] : List Value).toArray).there VN.toArray.size (by have := HL_VN.out; simp; omega)
    go_upto_region 12 with ((refine wpList_store_mid rfl 36 _ _ rfl w14.heap.size 0 VN.toArray rfl rfl ht (by simpa using HI_VN.out) HO_VN.out ?_))
    have HK15 := Lib.hid (HK14.out.put 36 ([.int .u8 0, .int .u8 0, .int .u8 0, .int .u8 0, .int .u8 0, .int .u8 0, .int .u8 0, .int .u8 0, .int .u8 0, .int .u8 0, .int .u8 0, .int .u8 0, .int .u8 0, .int .u8 0, .int .u8 0, .int .u8 0, .int .i64 0] : List Value).toArray VN (by have := HL_VN.out; simp; omega))
    clear ht HK14
    generalize (w14.alloc (.cells ([.int .u8 0, .int .u8 0, .int .u8 0, .int .u8 0, .int .u8 0, .int .u8 0, .int .u8 0, .int .u8 0, .int .u8 0, .int .u8 0, .int .u8 0, .int .u8 0, .int .u8 0, .int .u8 0, .int .u8 0, .int .u8 0, .int .i64 0] : List Value).toArray 36)).setCells w14.heap.size 0 VN = w15 at *
    generalize w14.heap.size = g12 at *
    go_wp2_with (fail)
    refine (F6.out _).mono ?_
    rintro e w16 ⟨rfl, bb⟩
    have HK16 := Lib.hid (HK15.out.below bb (Nat.le_refl _))
    clear bb HK15
    have ht := (bk_new w16 36 ([.int .u8 0, .int .u8 0, .int .u8 0, .int .u8 0, .int .u8 0, .int .u8 0, .int .u8 0, .int .u8 0, .int .u8 0, .int .u8 0, .int .u8 0, .int .u8 0, .int .u8 0, .int .u8 0, .int .u8 0, .int .u8 0, .int .i64 0] : List Value).toArray).there VN.toArray.size (by have := HL_VN.out; simp; omega)
    go_upto_region 13 with ((refine wpList_store_mid rfl 36 _ _ rfl w16.heap.size 0 VN.toArray rfl rfl ht (by simpa using HI_VN.out) HO_VN.out ?_))
    have HK17 := Lib.hid (HK16.out.put 36 ([.int .u8 0, .int .u8 0, .int .u8 0, .int .u8 0, .int .u8 0, .int .u8 0, .int .u8 0, .int .u8 0, .int .u8 0, .int .u8 0, .int .u8 0, .int .u8 0, .int .u8 0, .int .u8 0, .int .u8 0, .int .u8 0, .int .i64 0] : List Value).toArray VN (by have := HL_VN.out; simp; omega))
    clear ht HK16
    generalize (w16.alloc (.cells ([.int .u8 0, .int .u8 0, .int .u8 0, .int .u8 0, .int .u8 0, .int .u8 0, .int .u8 0, .int .u8 0, .int .u8 0, .int .u8 0, .int .u8 0, .int .u8 0, .int .u8 0, .int .u8 0, .int .u8 0, .int .u8 0, .int .i64 0] : List Value).toArray 36)).setCells w16.heap.size 0 VN = w17 at *
    generalize w16.heap.size = g13 at *
    have hr0 := HK17.out.tl.tl.tl.tl.tl.tl.tl.hd.range
    have hr1 := HK17.out.tl.tl.tl.tl.tl.tl.hd.range
    have hs0 := HK17.out.tl.tl.tl.tl.tl.hd.range
    have hs1 := HK17.out.tl.tl.tl.tl.hd.range
    have hs2 := HK17.out.tl.tl.tl.hd.range
    have hs3 := HK17.out.tl.tl.hd.range
    have hs4 := HK17.out.tl.hd.range
    have hs5 := HK17.out.hd.range
    go_wp2_with (first | ((with_reducible (change bodyPost _ _ _ _ _ _)); refine bodyPost_ret (v := .bool true) ?_ rfl ⟨rfl, HK17.out.2.1⟩; simp [results]) | (refine wpList_load_mid rfl 28 _ rfl (g6) 0 rfl VA _ hr0 Tryd.underlying28 rfl HI_VA.out ?_) | (refine wpList_load_mid rfl 28 _ rfl (g7) 0 rfl VA _ hr1 Tryd.underlying28 rfl HI_VA.out ?_) | (refine wpList_load_if (by first | rfl | (simp only [beq_self_eq_true]; rfl)) 24 _ rfl (g8) 0 rfl VX _ hs0 Tryd.underlying24 rfl HI_VX.out ?_) | (refine wpList_load_if (by first | rfl | (simp only [beq_self_eq_true]; rfl)) 24 _ rfl (g9) 0 rfl VX _ hs1 Tryd.underlying24 rfl HI_VX.out ?_) | (refine wpList_load_if (by first | rfl | (simp only [beq_self_eq_true]; rfl)) 32 _ rfl (g10) 0 rfl VM _ hs2 Tryd.underlying32 rfl HI_VM.out ?_) | (refine wpList_load_if (by first | rfl | (simp only [beq_self_eq_true]; rfl)) 32 _ rfl (g11) 0 rfl VM _ hs3 Tryd.underlying32 rfl HI_VM.out ?_) | (refine wpList_load_if (by first | rfl | (simp only [beq_self_eq_true]; rfl)) 36 _ rfl (g12) 0 rfl VN _ hs4 Tryd.underlying36 rfl HI_VN.out ?_) | (refine wpList_load_if (by first | rfl | (simp only [beq_self_eq_true]; rfl)) 36 _ rfl (g13) 0 rfl VN _ hs5 Tryd.underlying36 rfl HI_VN.out ?_))
  · have i3 : (300 : Int) < (s.size : Int) := by omega
    have HK0 := Lib.hid (Kp.start w)
    clear h0 hs
    go_enter Tryd.func4, Tryd.ntmps4
    go_wp2_with (fail)
    refine (CA.out _ (HW.out.below HK0.out.2.1)).mono ?_
    rintro e w1 ⟨rfl, bb⟩
    have HK1 := Lib.hid (HK0.out.below bb (Nat.le_refl _))
    clear bb HK0
    go_wp2_with (fail)
    go_ret
    exact ⟨rfl, HK1.out.2.1⟩
end Go.Proofs.YtkkgcmfcfacakaaDoor
