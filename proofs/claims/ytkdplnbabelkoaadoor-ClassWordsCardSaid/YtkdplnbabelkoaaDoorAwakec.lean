/-
  Proved here: what the laws' awake answers.
  Conditions: what the library's variables hold.
-/
import Derived.Test.YtkdplnbabelkoaaDoorCst
namespace Go.Proofs.YtkdplnbabelkoaaDoor
open Go.RowKit

set_option maxRecDepth 100000 in
set_option maxHeartbeats 8000000 in
theorem awakec_true (w : World) (h0 : Hw w) :
    Calls Tryd.prog 17 #[] w fun e w' => e = .returned (.bool true) ∧ Below w.heap.size w w' := by
  have HW := Lib.hid h0
  have C1 := Lib.hid c4host_p
  have C2 := Lib.hid c6doc_p
  have C3 := Lib.hid c4host_tp
  have C4 := Lib.hid c6doc_tp
  have hq4 : ∀ W, (binOp .eql 28 (.agg (bu [192, 0, 2, 33]).toArray) (.agg #[.int .u8 192, .int .u8 0, .int .u8 2, .int .u8 33])).run Tryd.prog W = .ok (.bool true) W := fun W => equ4 [192, 0, 2, 33] [192, 0, 2, 33] rfl rfl W
  have hq6 : ∀ W, (binOp .eql 24 (.agg (bu [32, 1, 13, 184, 0, 0, 0, 0, 0, 0, 0, 0, 0, 0, 0, 1]).toArray) (.agg #[.int .u8 32, .int .u8 1, .int .u8 13, .int .u8 184, .int .u8 0, .int .u8 0, .int .u8 0, .int .u8 0, .int .u8 0, .int .u8 0, .int .u8 0, .int .u8 0, .int .u8 0, .int .u8 0, .int .u8 0, .int .u8 1])).run Tryd.prog W = .ok (.bool true) W := fun W => equ6 [32, 1, 13, 184, 0, 0, 0, 0, 0, 0, 0, 0, 0, 0, 0, 1] [32, 1, 13, 184, 0, 0, 0, 0, 0, 0, 0, 0, 0, 0, 0, 1] rfl rfl W
  have HI_VA : Hid ((Tryd.prog.info? 28).map (·.size) = some (bu [192, 0, 2, 33]).length) := Lib.hid (Tryd.infoU4 _ rfl)
  have HO_VA : Hid ((bu [192, 0, 2, 33]).toArray.all (·.oneCell') = true) := Lib.hid (bu_one _)
  have HL_VA : Hid ((bu [192, 0, 2, 33]).length = 4) := Lib.hid (by rw [bu_len]; exact rfl)
  have HI_VX : Hid ((Tryd.prog.info? 24).map (·.size) = some (bu [32, 1, 13, 184, 0, 0, 0, 0, 0, 0, 0, 0, 0, 0, 0, 1]).length) := Lib.hid (Tryd.infoU6 _ rfl)
  have HO_VX : Hid ((bu [32, 1, 13, 184, 0, 0, 0, 0, 0, 0, 0, 0, 0, 0, 0, 1]).toArray.all (·.oneCell') = true) := Lib.hid (bu_one _)
  have HL_VX : Hid ((bu [32, 1, 13, 184, 0, 0, 0, 0, 0, 0, 0, 0, 0, 0, 0, 1]).length = 16) := Lib.hid (by rw [bu_len]; exact rfl)
  generalize bu [192, 0, 2, 33] = VA at *
  generalize bu [32, 1, 13, 184, 0, 0, 0, 0, 0, 0, 0, 0, 0, 0, 0, 1] = VX at *
  have HK0 := Lib.hid (Kp.start w)
  clear h0
  go_enter Tryd.func17, Tryd.ntmps17
  go_wp2_with (fail)
  refine (C1.out _).mono ?_
  rintro e w1 ⟨rfl, bb⟩
  have HK1 := Lib.hid (HK0.out.below bb (Nat.le_refl _))
  clear bb HK0
  have ht := (bk_new w1 28 ([.int .u8 0, .int .u8 0, .int .u8 0, .int .u8 0] : List Value).toArray).there VA.toArray.size (by have := HL_VA.out; simp; omega)
  go_upto_region 2 with ((refine wpList_store_mid rfl 28 _ _ rfl w1.heap.size 0 VA.toArray rfl rfl ht (by simpa using HI_VA.out) HO_VA.out ?_))
  have HK2 := Lib.hid (HK1.out.put 28 ([.int .u8 0, .int .u8 0, .int .u8 0, .int .u8 0] : List Value).toArray VA (by have := HL_VA.out; simp; omega))
  clear ht HK1
  generalize (w1.alloc (.cells ([.int .u8 0, .int .u8 0, .int .u8 0, .int .u8 0] : List Value).toArray 28)).setCells w1.heap.size 0 VA = w2 at *
  generalize w1.heap.size = g1 at *
  go_wp2_with (fail)
  refine (C2.out _ (HW.out.below HK2.out.2.1)).mono ?_
  rintro e w3 ⟨rfl, bb⟩
  have HK3 := Lib.hid (HK2.out.below bb (Nat.le_refl _))
  clear bb HK2
  have ht := (bk_new w3 24 ([.int .u8 0, .int .u8 0, .int .u8 0, .int .u8 0, .int .u8 0, .int .u8 0, .int .u8 0, .int .u8 0, .int .u8 0, .int .u8 0, .int .u8 0, .int .u8 0, .int .u8 0, .int .u8 0, .int .u8 0, .int .u8 0] : List Value).toArray).there VX.toArray.size (by have := HL_VX.out; simp; omega)
  go_upto_region 3 with ((refine wpList_store_mid rfl 24 _ _ rfl w3.heap.size 0 VX.toArray rfl rfl ht (by simpa using HI_VX.out) HO_VX.out ?_))
  have HK4 := Lib.hid (HK3.out.put 24 ([.int .u8 0, .int .u8 0, .int .u8 0, .int .u8 0, .int .u8 0, .int .u8 0, .int .u8 0, .int .u8 0, .int .u8 0, .int .u8 0, .int .u8 0, .int .u8 0, .int .u8 0, .int .u8 0, .int .u8 0, .int .u8 0] : List Value).toArray VX (by have := HL_VX.out; simp; omega))
  clear ht HK3
  generalize (w3.alloc (.cells ([.int .u8 0, .int .u8 0, .int .u8 0, .int .u8 0, .int .u8 0, .int .u8 0, .int .u8 0, .int .u8 0, .int .u8 0, .int .u8 0, .int .u8 0, .int .u8 0, .int .u8 0, .int .u8 0, .int .u8 0, .int .u8 0] : List Value).toArray 24)).setCells w3.heap.size 0 VX = w4 at *
  generalize w3.heap.size = g2 at *
  have hr0 := HK4.out.tl.hd.range
  have hr1 := HK4.out.hd.range
  go_wp2_with (first | (refine wpList_load_if (by rfl) 28 _ rfl (g1) 0 rfl VA _ hr0 Tryd.underlying28 rfl HI_VA.out ?_) | (refine wpList_load_if (by rfl) 24 _ rfl (g2) 0 rfl VX _ hr1 Tryd.underlying24 rfl HI_VX.out ?_))
  clear hr0 hr1
  refine (C3.out _ (HW.out.below HK4.out.2.1)).mono ?_
  rintro e w5 ⟨rfl, bb⟩
  have HK5 := Lib.hid (HK4.out.below bb (Nat.le_refl _))
  clear bb HK4
  have hr0 := HK5.out.hd.range
  go_wp2_with ((refine wpList_load_if (by rfl) 24 _ rfl (g2) 0 rfl VX _ hr0 Tryd.underlying24 rfl HI_VX.out ?_))
  clear hr0
  refine (C4.out _ (HW.out.below HK5.out.2.1)).mono ?_
  rintro e w6 ⟨rfl, bb⟩
  have HK6 := Lib.hid (HK5.out.below bb (Nat.le_refl _))
  clear bb HK5
  go_wp2_with fail
  go_ret
  exact ⟨rfl, HK6.out.2.1⟩
end Go.Proofs.YtkdplnbabelkoaaDoor
