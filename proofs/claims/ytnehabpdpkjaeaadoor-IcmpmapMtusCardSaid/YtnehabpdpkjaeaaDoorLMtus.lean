/-
  Proved here: the law IcmpmapMtus answers true.
  Conditions: none.
-/
import Derived.Test.YtnehabpdpkjaeaaDoorAwk14
import Derived.Test.YtnehabpdpkjaeaaDoorIcb
namespace Go.Proofs.YtnehabpdpkjaeaaDoor
open Go.RowKit

theorem mB34 (r : Int) (w : World) : (Instr.build 24 #[(0, .int .i64 3), (1, .int .i64 4), (2, .int .u32 r)]).run Tryd.prog w = .ok (.agg (⟨3, 4, r, ⟨#[]⟩⟩ : Mg).vals.toArray) w := by kernel_rfl
theorem mB20 (r : Int) (w : World) : (Instr.build 24 #[(0, .int .i64 2), (2, .int .u32 r)]).run Tryd.prog w = .ok (.agg (⟨2, 0, r, ⟨#[]⟩⟩ : Mg).vals.toArray) w := by kernel_rfl
set_option maxRecDepth 100000 in
set_option maxHeartbeats 4000000 in
theorem mtus_zs (x y p q o : Int) (w : World) (hm : Hm w) (hs : y < x) (hz : y = 0) : Calls Tryd.prog 9 #[.int .u16 x, .int .u16 y, .int .u16 p, .int .u16 q, .int .u16 o] w (fun e w' => e = .returned (.bool true) ∧ Below w.heap.size w w') := by
  have HMB : Hid (∀ W, Below w.heap.size w W → Hm W) := Lib.hid (fun W hW => hm.below hW)
  have HK1 := Lib.hid (Kp.start w)
  obtain ⟨w1, hw1⟩ : ∃ w1, w1 = w := ⟨_, rfl⟩
  subst hw1
  go_enter Tryd.func9, Tryd.ntmps9
  go_wp2_with (fail)
  refine (awake14_true _ (HMB.out _ HK1.out.2.1)).mono ?_
  rintro e w2 ⟨rfl, bb⟩
  have HK2 := Lib.hid (HK1.out.below bb (Nat.le_refl _))
  clear bb HK1
  go_wp2_with (fail)
  go_ret
  exact ⟨rfl, HK2.out.2.1⟩
set_option maxRecDepth 100000 in
set_option maxHeartbeats 4000000 in
theorem mtus_ss (x y p q o : Int) (w : World) (hm : Hm w) (ix : 0 ≤ x ∧ x ≤ 65535) (iy : 0 ≤ y ∧ y ≤ 65535) (ip : 0 ≤ p ∧ p ≤ 65535) (iq : 0 ≤ q ∧ q ≤ 65535) (io : 0 ≤ o ∧ o ≤ 65535) (hs : y < x) (hz : y ≠ 0) (h2 : max o 1280 < max q 1280) : Calls Tryd.prog 9 #[.int .u16 x, .int .u16 y, .int .u16 p, .int .u16 q, .int .u16 o] w (fun e w' => e = .returned (.bool true) ∧ Below w.heap.size w w') := by
  have HMB : Hid (∀ W, Below w.heap.size w W → Hm W) := Lib.hid (fun W hW => hm.below hW)
  have hb : mtus (max p 68) (max o 1280) = true := mtus_iff.2 (by omega)
  have hc : mtus (max p 68) (max q 1280) = true := mtus_iff.2 (by omega)
  obtain ⟨u1, u2, u3, u4⟩ := mtus_up (x := y) (y := x) (a := max p 68) (b := (max o 1280)) (c := (max q 1280)) (by omega) (by omega) (by omega) (by omega) (by omega) (by omega)
  have r1 := told6_in (rs := y) (a := max p 68) (b := (max o 1280)) (len := 0) (by omega)
  have hbb : (max o 1280) ≤ 65535 := by omega
  have kx : IntKind.i64.wrap y = y := IntWalk.i64_in _ (by omega)
  have kp : IntKind.i64.wrap p = p := IntWalk.i64_in _ (by omega)
  have kq : IntKind.i64.wrap q = q := IntWalk.i64_in _ (by omega)
  have ko : IntKind.i64.wrap o = o := IntWalk.i64_in _ (by omega)
  have kl : IntKind.u32.wrap y = y := by rw [IntKind.wrap_u32]; omega
  have kh : IntKind.u32.wrap x = x := by rw [IntKind.wrap_u32]; omega
  have kz : (y == 0) = false := by rw [beq_eq_false_iff_ne]; exact hz
  have HB1 := Lib.hid (mB34 y)
  have HB2 := Lib.hid (mB34 x)
  have HB3 := Lib.hid (mB20 y)
  have HB4 := Lib.hid (mB20 x)
  obtain ⟨K1, hK1⟩ : ∃ V, V = (⟨2, 0, told6 y (max p 68) (max o 1280) 0, ⟨#[]⟩⟩ : Mg).vals := ⟨_, rfl⟩
  have CH1 : Hid (∀ W, Below w.heap.size w W → Calls Tryd.prog 11 #[.agg (⟨3, 4, y, ⟨#[]⟩⟩ : Mg).vals.toArray, .int .i64 (max p 68), .int .i64 (max o 1280), .int .i64 0] W fun e w' => e = .returned (.tuple #[.agg K1.toArray, .bool true]) ∧ Below W.heap.size W w') := Lib.hid (fun (W : World) (hW : Below w.heap.size w W) => have hmW := HMB.out W hW; by
    have h := psix_any ⟨3, 4, y, ⟨#[]⟩⟩ (max p 68) (max o 1280) 0 W (by show 0 ≤ y ∧ y < 4294967296; omega)
    rw [six_told hb, ← hK1] at h
    exact h)
  have HI_K1 : Hid ((Tryd.prog.info? 24).map (·.size) = some K1.length) := Lib.hid (by rw [hK1]; exact Tryd.infoMg _)
  have HO_K1 : Hid (K1.toArray.all (·.oneCell') = true) := Lib.hid (by rw [hK1]; exact mg_one _)
  have HL_K1 : Hid (K1.length = 4) := Lib.hid (by rw [hK1]; rfl)
  have HV1 : Hid (K1[2]? = some (.int .u32 (told6 y (max p 68) (max o 1280) 0))) := Lib.hid (by rw [hK1]; rfl)
  obtain ⟨K2, hK2⟩ : ∃ V, V = (⟨2, 0, told6 x (max p 68) (max o 1280) 0, ⟨#[]⟩⟩ : Mg).vals := ⟨_, rfl⟩
  have CH2 : Hid (∀ W, Below w.heap.size w W → Calls Tryd.prog 11 #[.agg (⟨3, 4, x, ⟨#[]⟩⟩ : Mg).vals.toArray, .int .i64 (max p 68), .int .i64 (max o 1280), .int .i64 0] W fun e w' => e = .returned (.tuple #[.agg K2.toArray, .bool true]) ∧ Below W.heap.size W w') := Lib.hid (fun (W : World) (hW : Below w.heap.size w W) => have hmW := HMB.out W hW; by
    have h := psix_any ⟨3, 4, x, ⟨#[]⟩⟩ (max p 68) (max o 1280) 0 W (by show 0 ≤ x ∧ x < 4294967296; omega)
    rw [six_told hb, ← hK2] at h
    exact h)
  have HI_K2 : Hid ((Tryd.prog.info? 24).map (·.size) = some K2.length) := Lib.hid (by rw [hK2]; exact Tryd.infoMg _)
  have HO_K2 : Hid (K2.toArray.all (·.oneCell') = true) := Lib.hid (by rw [hK2]; exact mg_one _)
  have HL_K2 : Hid (K2.length = 4) := Lib.hid (by rw [hK2]; rfl)
  have HV2 : Hid (K2[2]? = some (.int .u32 (told6 x (max p 68) (max o 1280) 0))) := Lib.hid (by rw [hK2]; rfl)
  obtain ⟨K3, hK3⟩ : ∃ V, V = (⟨2, 0, told6 y (max p 68) (max q 1280) 0, ⟨#[]⟩⟩ : Mg).vals := ⟨_, rfl⟩
  have CH3 : Hid (∀ W, Below w.heap.size w W → Calls Tryd.prog 11 #[.agg (⟨3, 4, y, ⟨#[]⟩⟩ : Mg).vals.toArray, .int .i64 (max p 68), .int .i64 (max q 1280), .int .i64 0] W fun e w' => e = .returned (.tuple #[.agg K3.toArray, .bool true]) ∧ Below W.heap.size W w') := Lib.hid (fun (W : World) (hW : Below w.heap.size w W) => have hmW := HMB.out W hW; by
    have h := psix_any ⟨3, 4, y, ⟨#[]⟩⟩ (max p 68) (max q 1280) 0 W (by show 0 ≤ y ∧ y < 4294967296; omega)
    rw [six_told hc, ← hK3] at h
    exact h)
  have HI_K3 : Hid ((Tryd.prog.info? 24).map (·.size) = some K3.length) := Lib.hid (by rw [hK3]; exact Tryd.infoMg _)
  have HO_K3 : Hid (K3.toArray.all (·.oneCell') = true) := Lib.hid (by rw [hK3]; exact mg_one _)
  have HL_K3 : Hid (K3.length = 4) := Lib.hid (by rw [hK3]; rfl)
  have HV3 : Hid (K3[2]? = some (.int .u32 (told6 y (max p 68) (max q 1280) 0))) := Lib.hid (by rw [hK3]; rfl)
  obtain ⟨K4, hK4⟩ : ∃ V, V = (⟨3, 4, told4 y (max p 68) (max o 1280), ⟨#[]⟩⟩ : Mg).vals := ⟨_, rfl⟩
  have CH4 : Hid (∀ W, Calls Tryd.prog 12 #[.agg (⟨2, 0, y, ⟨#[]⟩⟩ : Mg).vals.toArray, .int .i64 (max p 68), .int .i64 (max o 1280)] W fun e w' => e = .returned (.tuple #[.agg K4.toArray, .bool true]) ∧ Below W.heap.size W w') := Lib.hid (fun W => by
    have h := pfour_any ⟨2, 0, y, ⟨#[]⟩⟩ (max p 68) (max o 1280) W (by show 0 ≤ y ∧ y < 4294967296; omega)
    rw [four_told hb, ← hK4] at h
    exact h)
  have HI_K4 : Hid ((Tryd.prog.info? 24).map (·.size) = some K4.length) := Lib.hid (by rw [hK4]; exact Tryd.infoMg _)
  have HO_K4 : Hid (K4.toArray.all (·.oneCell') = true) := Lib.hid (by rw [hK4]; exact mg_one _)
  have HL_K4 : Hid (K4.length = 4) := Lib.hid (by rw [hK4]; rfl)
  have HV4 : Hid (K4[2]? = some (.int .u32 (told4 y (max p 68) (max o 1280)))) := Lib.hid (by rw [hK4]; rfl)
  obtain ⟨K5, hK5⟩ : ∃ V, V = (⟨3, 4, told4 x (max p 68) (max o 1280), ⟨#[]⟩⟩ : Mg).vals := ⟨_, rfl⟩
  have CH5 : Hid (∀ W, Calls Tryd.prog 12 #[.agg (⟨2, 0, x, ⟨#[]⟩⟩ : Mg).vals.toArray, .int .i64 (max p 68), .int .i64 (max o 1280)] W fun e w' => e = .returned (.tuple #[.agg K5.toArray, .bool true]) ∧ Below W.heap.size W w') := Lib.hid (fun W => by
    have h := pfour_any ⟨2, 0, x, ⟨#[]⟩⟩ (max p 68) (max o 1280) W (by show 0 ≤ x ∧ x < 4294967296; omega)
    rw [four_told hb, ← hK5] at h
    exact h)
  have HI_K5 : Hid ((Tryd.prog.info? 24).map (·.size) = some K5.length) := Lib.hid (by rw [hK5]; exact Tryd.infoMg _)
  have HO_K5 : Hid (K5.toArray.all (·.oneCell') = true) := Lib.hid (by rw [hK5]; exact mg_one _)
  have HL_K5 : Hid (K5.length = 4) := Lib.hid (by rw [hK5]; rfl)
  have HV5 : Hid (K5[2]? = some (.int .u32 (told4 x (max p 68) (max o 1280)))) := Lib.hid (by rw [hK5]; rfl)
  obtain ⟨K6, hK6⟩ : ∃ V, V = (⟨3, 4, told4 (told6 y (max p 68) (max o 1280) 0) (max p 68) (max o 1280), ⟨#[]⟩⟩ : Mg).vals := ⟨_, rfl⟩
  have CH6 : Hid (∀ W, Calls Tryd.prog 12 #[.agg (⟨2, 0, (told6 y (max p 68) (max o 1280) 0), ⟨#[]⟩⟩ : Mg).vals.toArray, .int .i64 (max p 68), .int .i64 (max o 1280)] W fun e w' => e = .returned (.tuple #[.agg K6.toArray, .bool true]) ∧ Below W.heap.size W w') := Lib.hid (fun W => by
    have h := pfour_any ⟨2, 0, (told6 y (max p 68) (max o 1280) 0), ⟨#[]⟩⟩ (max p 68) (max o 1280) W (by show 0 ≤ (told6 y (max p 68) (max o 1280) 0) ∧ (told6 y (max p 68) (max o 1280) 0) < 4294967296; omega)
    rw [four_told hb, ← hK6] at h
    exact h)
  have HI_K6 : Hid ((Tryd.prog.info? 24).map (·.size) = some K6.length) := Lib.hid (by rw [hK6]; exact Tryd.infoMg _)
  have HO_K6 : Hid (K6.toArray.all (·.oneCell') = true) := Lib.hid (by rw [hK6]; exact mg_one _)
  have HL_K6 : Hid (K6.length = 4) := Lib.hid (by rw [hK6]; rfl)
  have HV6 : Hid (K6[2]? = some (.int .u32 (told4 (told6 y (max p 68) (max o 1280) 0) (max p 68) (max o 1280)))) := Lib.hid (by rw [hK6]; rfl)
  rw [← hK1] at CH6
  clear hb hc hK1 hK2 hK3 hK4 hK5 hK6
  have r6 : told4 (told6 y (max p 68) (max o 1280) 0) (max p 68) (max o 1280) ≤ 65535 ∧ 0 ≤ told4 (told6 y (max p 68) (max o 1280) 0) (max p 68) (max o 1280) := by unfold told4; omega
  generalize told4 (told6 y (max p 68) (max o 1280) 0) (max p 68) (max o 1280) = z6 at *
  generalize told6 y (max p 68) (max o 1280) 0 = z1 at *
  generalize told6 x (max p 68) (max o 1280) 0 = z2 at *
  generalize told6 y (max p 68) (max q 1280) 0 = z3 at *
  generalize told4 y (max p 68) (max o 1280) = z4 at *
  generalize told4 x (max p 68) (max o 1280) = z5 at *
  generalize (⟨3, 4, y, ⟨#[]⟩⟩ : Mg).vals = N1 at *
  generalize (⟨3, 4, x, ⟨#[]⟩⟩ : Mg).vals = N2 at *
  generalize (⟨2, 0, y, ⟨#[]⟩⟩ : Mg).vals = N3 at *
  generalize (⟨2, 0, x, ⟨#[]⟩⟩ : Mg).vals = N4 at *
  have kz6 : IntKind.i64.wrap z6 = z6 := IntWalk.i64_in _ (by omega)
  have u4b : z6 ≤ y ∨ z6 ≤ 1260 := by omega
  have HK1 := Lib.hid (Kp.start w)
  obtain ⟨w1, hw1⟩ : ∃ w1, w1 = w := ⟨_, rfl⟩
  subst hw1
  go_enter Tryd.func9, Tryd.ntmps9
  go_wp2_with (fail)
  refine (awake14_true _ (HMB.out _ HK1.out.2.1)).mono ?_
  rintro e w2 ⟨rfl, bb⟩
  have HK2 := Lib.hid (HK1.out.below bb (Nat.le_refl _))
  clear bb HK1
  go_upto_region 8 with (fail)
  generalize max p 68 = A at *
  generalize max q 1280 = B at *
  generalize max o 1280 = C at *
  clear kp kq ko
  go_upto_region 10 with (fail)
  go_wp2_with (((with_reducible (change wpList _ _ _ _ _ _)); ((refine Great.wpList_readTo rfl _ rfl (.agg N1.toArray) (run_execN (T := 24) rfl (by rw [List.map_toArray]; rfl) (HB1.out _)) ?_))))
  refine (CH1.out _ HK2.out.2.1).mono ?_
  rintro e w3 ⟨rfl, bb⟩
  have HK3 := Lib.hid (HK2.out.below bb (Nat.le_refl _))
  clear bb HK2
  have ht := (bk_new w3 24 ([.int .i64 0, .int .i64 0, .int .u32 0, .string ⟨#[]⟩] : List Value).toArray).there K1.toArray.size (by have := HL_K1.out; simp; omega)
  go_upto_region 11 with (((with_reducible (change wpList _ _ _ _ _ _)); ((refine wpList_store_mid rfl 24 _ _ rfl (w3.heap.size) 0 K1.toArray rfl rfl ht (by simpa using HI_K1.out) HO_K1.out ?_))))
  have HK4 := Lib.hid (HK3.out.put 24 ([.int .i64 0, .int .i64 0, .int .u32 0, .string ⟨#[]⟩] : List Value).toArray K1 (by have := HL_K1.out; simp; omega))
  clear ht HK3
  generalize (w3.alloc (.cells ([.int .i64 0, .int .i64 0, .int .u32 0, .string ⟨#[]⟩] : List Value).toArray 24)).setCells w3.heap.size 0 K1 = w4 at *
  generalize w3.heap.size = g1 at *
  go_wp2_with (((with_reducible (change wpList _ _ _ _ _ _)); ((refine Great.wpList_readTo rfl _ rfl (.agg N2.toArray) (run_execN (T := 24) rfl (by rw [List.map_toArray]; rfl) (HB2.out _)) ?_))))
  refine (CH2.out _ HK4.out.2.1).mono ?_
  rintro e w5 ⟨rfl, bb⟩
  have HK5 := Lib.hid (HK4.out.below bb (Nat.le_refl _))
  clear bb HK4
  have ht := (bk_new w5 24 ([.int .i64 0, .int .i64 0, .int .u32 0, .string ⟨#[]⟩] : List Value).toArray).there K2.toArray.size (by have := HL_K2.out; simp; omega)
  go_upto_region 12 with (((with_reducible (change wpList _ _ _ _ _ _)); ((refine wpList_store_mid rfl 24 _ _ rfl (w5.heap.size) 0 K2.toArray rfl rfl ht (by simpa using HI_K2.out) HO_K2.out ?_))))
  have HK6 := Lib.hid (HK5.out.put 24 ([.int .i64 0, .int .i64 0, .int .u32 0, .string ⟨#[]⟩] : List Value).toArray K2 (by have := HL_K2.out; simp; omega))
  clear ht HK5
  generalize (w5.alloc (.cells ([.int .i64 0, .int .i64 0, .int .u32 0, .string ⟨#[]⟩] : List Value).toArray 24)).setCells w5.heap.size 0 K2 = w6 at *
  generalize w5.heap.size = g2 at *
  go_wp2_with (((with_reducible (change wpList _ _ _ _ _ _)); ((refine Great.wpList_readTo rfl _ rfl (.agg N1.toArray) (run_execN (T := 24) rfl (by rw [List.map_toArray]; rfl) (HB1.out _)) ?_))))
  refine (CH3.out _ HK6.out.2.1).mono ?_
  rintro e w7 ⟨rfl, bb⟩
  have HK7 := Lib.hid (HK6.out.below bb (Nat.le_refl _))
  clear bb HK6
  have ht := (bk_new w7 24 ([.int .i64 0, .int .i64 0, .int .u32 0, .string ⟨#[]⟩] : List Value).toArray).there K3.toArray.size (by have := HL_K3.out; simp; omega)
  go_upto_region 13 with (((with_reducible (change wpList _ _ _ _ _ _)); ((refine wpList_store_mid rfl 24 _ _ rfl (w7.heap.size) 0 K3.toArray rfl rfl ht (by simpa using HI_K3.out) HO_K3.out ?_))))
  have HK8 := Lib.hid (HK7.out.put 24 ([.int .i64 0, .int .i64 0, .int .u32 0, .string ⟨#[]⟩] : List Value).toArray K3 (by have := HL_K3.out; simp; omega))
  clear ht HK7
  generalize (w7.alloc (.cells ([.int .i64 0, .int .i64 0, .int .u32 0, .string ⟨#[]⟩] : List Value).toArray 24)).setCells w7.heap.size 0 K3 = w8 at *
  generalize w7.heap.size = g3 at *
  go_wp2_with (((with_reducible (change wpList _ _ _ _ _ _)); ((refine Great.wpList_readTo rfl _ rfl (.agg N3.toArray) (run_execN (T := 24) rfl (by rw [List.map_toArray]; rfl) (HB3.out _)) ?_))))
  refine (CH4.out _).mono ?_
  rintro e w9 ⟨rfl, bb⟩
  have HK9 := Lib.hid (HK8.out.below bb (Nat.le_refl _))
  clear bb HK8
  have ht := (bk_new w9 24 ([.int .i64 0, .int .i64 0, .int .u32 0, .string ⟨#[]⟩] : List Value).toArray).there K4.toArray.size (by have := HL_K4.out; simp; omega)
  go_upto_region 14 with (((with_reducible (change wpList _ _ _ _ _ _)); ((refine wpList_store_mid rfl 24 _ _ rfl (w9.heap.size) 0 K4.toArray rfl rfl ht (by simpa using HI_K4.out) HO_K4.out ?_))))
  have HK10 := Lib.hid (HK9.out.put 24 ([.int .i64 0, .int .i64 0, .int .u32 0, .string ⟨#[]⟩] : List Value).toArray K4 (by have := HL_K4.out; simp; omega))
  clear ht HK9
  generalize (w9.alloc (.cells ([.int .i64 0, .int .i64 0, .int .u32 0, .string ⟨#[]⟩] : List Value).toArray 24)).setCells w9.heap.size 0 K4 = w10 at *
  generalize w9.heap.size = g4 at *
  go_wp2_with (((with_reducible (change wpList _ _ _ _ _ _)); ((refine Great.wpList_readTo rfl _ rfl (.agg N4.toArray) (run_execN (T := 24) rfl (by rw [List.map_toArray]; rfl) (HB4.out _)) ?_))))
  refine (CH5.out _).mono ?_
  rintro e w11 ⟨rfl, bb⟩
  have HK11 := Lib.hid (HK10.out.below bb (Nat.le_refl _))
  clear bb HK10
  have ht := (bk_new w11 24 ([.int .i64 0, .int .i64 0, .int .u32 0, .string ⟨#[]⟩] : List Value).toArray).there K5.toArray.size (by have := HL_K5.out; simp; omega)
  go_upto_region 15 with (((with_reducible (change wpList _ _ _ _ _ _)); ((refine wpList_store_mid rfl 24 _ _ rfl (w11.heap.size) 0 K5.toArray rfl rfl ht (by simpa using HI_K5.out) HO_K5.out ?_))))
  have HK12 := Lib.hid (HK11.out.put 24 ([.int .i64 0, .int .i64 0, .int .u32 0, .string ⟨#[]⟩] : List Value).toArray K5 (by have := HL_K5.out; simp; omega))
  clear ht HK11
  generalize (w11.alloc (.cells ([.int .i64 0, .int .i64 0, .int .u32 0, .string ⟨#[]⟩] : List Value).toArray 24)).setCells w11.heap.size 0 K5 = w12 at *
  generalize w11.heap.size = g5 at *
  have hr0 := HK12.out.tl.tl.tl.tl.hd.range
  go_wp2_with (((with_reducible (change wpList _ _ _ _ _ _)); ((refine wpList_load_mid rfl 24 _ rfl (g1) 0 rfl (K1) _ hr0 Tryd.underlying24 rfl HI_K1.out ?_))))
  clear hr0
  refine (CH6.out _).mono ?_
  rintro e w13 ⟨rfl, bb⟩
  have HK13 := Lib.hid (HK12.out.below bb (Nat.le_refl _))
  clear bb HK12
  have ht := (bk_new w13 24 ([.int .i64 0, .int .i64 0, .int .u32 0, .string ⟨#[]⟩] : List Value).toArray).there K6.toArray.size (by have := HL_K6.out; simp; omega)
  go_upto_region 16 with (((with_reducible (change wpList _ _ _ _ _ _)); ((refine wpList_store_mid rfl 24 _ _ rfl (w13.heap.size) 0 K6.toArray rfl rfl ht (by simpa using HI_K6.out) HO_K6.out ?_))))
  have HK14 := Lib.hid (HK13.out.put 24 ([.int .i64 0, .int .i64 0, .int .u32 0, .string ⟨#[]⟩] : List Value).toArray K6 (by have := HL_K6.out; simp; omega))
  clear ht HK13
  generalize (w13.alloc (.cells ([.int .i64 0, .int .i64 0, .int .u32 0, .string ⟨#[]⟩] : List Value).toArray 24)).setCells w13.heap.size 0 K6 = w14 at *
  generalize w13.heap.size = g6 at *
  go_upto_region 18 with (fail)
  have e1 : w14.cell? ⟨g1, 2, none⟩ = some (.int .u32 z1) := HK14.out.tl.tl.tl.tl.tl.hd.at HV1.out
  have e2 : w14.cell? ⟨g2, 2, none⟩ = some (.int .u32 z2) := HK14.out.tl.tl.tl.tl.hd.at HV2.out
  have e3 : w14.cell? ⟨g3, 2, none⟩ = some (.int .u32 z3) := HK14.out.tl.tl.tl.hd.at HV3.out
  have e4 : w14.cell? ⟨g4, 2, none⟩ = some (.int .u32 z4) := HK14.out.tl.tl.hd.at HV4.out
  have e5 : w14.cell? ⟨g5, 2, none⟩ = some (.int .u32 z5) := HK14.out.tl.hd.at HV5.out
  have e6 : w14.cell? ⟨g6, 2, none⟩ = some (.int .u32 z6) := HK14.out.hd.at HV6.out
  go_wp2_with (fail)
  go_ret
  refine ⟨?_, HK14.out.2.1⟩
  first | rfl | (simp; done) | (simp; omega)
set_option maxRecDepth 100000 in
set_option maxHeartbeats 4000000 in
theorem mtus_sn (x y p q o : Int) (w : World) (hm : Hm w) (ix : 0 ≤ x ∧ x ≤ 65535) (iy : 0 ≤ y ∧ y ≤ 65535) (ip : 0 ≤ p ∧ p ≤ 65535) (iq : 0 ≤ q ∧ q ≤ 65535) (io : 0 ≤ o ∧ o ≤ 65535) (hs : y < x) (hz : y ≠ 0) (h2 : ¬ max o 1280 < max q 1280) : Calls Tryd.prog 9 #[.int .u16 x, .int .u16 y, .int .u16 p, .int .u16 q, .int .u16 o] w (fun e w' => e = .returned (.bool true) ∧ Below w.heap.size w w') := by
  have HMB : Hid (∀ W, Below w.heap.size w W → Hm W) := Lib.hid (fun W hW => hm.below hW)
  have hb : mtus (max p 68) (max q 1280) = true := mtus_iff.2 (by omega)
  have hc : mtus (max p 68) (max o 1280) = true := mtus_iff.2 (by omega)
  obtain ⟨u1, u2, u3, u4⟩ := mtus_up (x := y) (y := x) (a := max p 68) (b := (max q 1280)) (c := (max o 1280)) (by omega) (by omega) (by omega) (by omega) (by omega) (by omega)
  have r1 := told6_in (rs := y) (a := max p 68) (b := (max q 1280)) (len := 0) (by omega)
  have hbb : (max q 1280) ≤ 65535 := by omega
  have kx : IntKind.i64.wrap y = y := IntWalk.i64_in _ (by omega)
  have kp : IntKind.i64.wrap p = p := IntWalk.i64_in _ (by omega)
  have kq : IntKind.i64.wrap q = q := IntWalk.i64_in _ (by omega)
  have ko : IntKind.i64.wrap o = o := IntWalk.i64_in _ (by omega)
  have kl : IntKind.u32.wrap y = y := by rw [IntKind.wrap_u32]; omega
  have kh : IntKind.u32.wrap x = x := by rw [IntKind.wrap_u32]; omega
  have kz : (y == 0) = false := by rw [beq_eq_false_iff_ne]; exact hz
  have HB1 := Lib.hid (mB34 y)
  have HB2 := Lib.hid (mB34 x)
  have HB3 := Lib.hid (mB20 y)
  have HB4 := Lib.hid (mB20 x)
  obtain ⟨K1, hK1⟩ : ∃ V, V = (⟨2, 0, told6 y (max p 68) (max q 1280) 0, ⟨#[]⟩⟩ : Mg).vals := ⟨_, rfl⟩
  have CH1 : Hid (∀ W, Below w.heap.size w W → Calls Tryd.prog 11 #[.agg (⟨3, 4, y, ⟨#[]⟩⟩ : Mg).vals.toArray, .int .i64 (max p 68), .int .i64 (max q 1280), .int .i64 0] W fun e w' => e = .returned (.tuple #[.agg K1.toArray, .bool true]) ∧ Below W.heap.size W w') := Lib.hid (fun (W : World) (hW : Below w.heap.size w W) => have hmW := HMB.out W hW; by
    have h := psix_any ⟨3, 4, y, ⟨#[]⟩⟩ (max p 68) (max q 1280) 0 W (by show 0 ≤ y ∧ y < 4294967296; omega)
    rw [six_told hb, ← hK1] at h
    exact h)
  have HI_K1 : Hid ((Tryd.prog.info? 24).map (·.size) = some K1.length) := Lib.hid (by rw [hK1]; exact Tryd.infoMg _)
  have HO_K1 : Hid (K1.toArray.all (·.oneCell') = true) := Lib.hid (by rw [hK1]; exact mg_one _)
  have HL_K1 : Hid (K1.length = 4) := Lib.hid (by rw [hK1]; rfl)
  have HV1 : Hid (K1[2]? = some (.int .u32 (told6 y (max p 68) (max q 1280) 0))) := Lib.hid (by rw [hK1]; rfl)
  obtain ⟨K2, hK2⟩ : ∃ V, V = (⟨2, 0, told6 x (max p 68) (max q 1280) 0, ⟨#[]⟩⟩ : Mg).vals := ⟨_, rfl⟩
  have CH2 : Hid (∀ W, Below w.heap.size w W → Calls Tryd.prog 11 #[.agg (⟨3, 4, x, ⟨#[]⟩⟩ : Mg).vals.toArray, .int .i64 (max p 68), .int .i64 (max q 1280), .int .i64 0] W fun e w' => e = .returned (.tuple #[.agg K2.toArray, .bool true]) ∧ Below W.heap.size W w') := Lib.hid (fun (W : World) (hW : Below w.heap.size w W) => have hmW := HMB.out W hW; by
    have h := psix_any ⟨3, 4, x, ⟨#[]⟩⟩ (max p 68) (max q 1280) 0 W (by show 0 ≤ x ∧ x < 4294967296; omega)
    rw [six_told hb, ← hK2] at h
    exact h)
  have HI_K2 : Hid ((Tryd.prog.info? 24).map (·.size) = some K2.length) := Lib.hid (by rw [hK2]; exact Tryd.infoMg _)
  have HO_K2 : Hid (K2.toArray.all (·.oneCell') = true) := Lib.hid (by rw [hK2]; exact mg_one _)
  have HL_K2 : Hid (K2.length = 4) := Lib.hid (by rw [hK2]; rfl)
  have HV2 : Hid (K2[2]? = some (.int .u32 (told6 x (max p 68) (max q 1280) 0))) := Lib.hid (by rw [hK2]; rfl)
  obtain ⟨K3, hK3⟩ : ∃ V, V = (⟨2, 0, told6 y (max p 68) (max o 1280) 0, ⟨#[]⟩⟩ : Mg).vals := ⟨_, rfl⟩
  have CH3 : Hid (∀ W, Below w.heap.size w W → Calls Tryd.prog 11 #[.agg (⟨3, 4, y, ⟨#[]⟩⟩ : Mg).vals.toArray, .int .i64 (max p 68), .int .i64 (max o 1280), .int .i64 0] W fun e w' => e = .returned (.tuple #[.agg K3.toArray, .bool true]) ∧ Below W.heap.size W w') := Lib.hid (fun (W : World) (hW : Below w.heap.size w W) => have hmW := HMB.out W hW; by
    have h := psix_any ⟨3, 4, y, ⟨#[]⟩⟩ (max p 68) (max o 1280) 0 W (by show 0 ≤ y ∧ y < 4294967296; omega)
    rw [six_told hc, ← hK3] at h
    exact h)
  have HI_K3 : Hid ((Tryd.prog.info? 24).map (·.size) = some K3.length) := Lib.hid (by rw [hK3]; exact Tryd.infoMg _)
  have HO_K3 : Hid (K3.toArray.all (·.oneCell') = true) := Lib.hid (by rw [hK3]; exact mg_one _)
  have HL_K3 : Hid (K3.length = 4) := Lib.hid (by rw [hK3]; rfl)
  have HV3 : Hid (K3[2]? = some (.int .u32 (told6 y (max p 68) (max o 1280) 0))) := Lib.hid (by rw [hK3]; rfl)
  obtain ⟨K4, hK4⟩ : ∃ V, V = (⟨3, 4, told4 y (max p 68) (max q 1280), ⟨#[]⟩⟩ : Mg).vals := ⟨_, rfl⟩
  have CH4 : Hid (∀ W, Calls Tryd.prog 12 #[.agg (⟨2, 0, y, ⟨#[]⟩⟩ : Mg).vals.toArray, .int .i64 (max p 68), .int .i64 (max q 1280)] W fun e w' => e = .returned (.tuple #[.agg K4.toArray, .bool true]) ∧ Below W.heap.size W w') := Lib.hid (fun W => by
    have h := pfour_any ⟨2, 0, y, ⟨#[]⟩⟩ (max p 68) (max q 1280) W (by show 0 ≤ y ∧ y < 4294967296; omega)
    rw [four_told hb, ← hK4] at h
    exact h)
  have HI_K4 : Hid ((Tryd.prog.info? 24).map (·.size) = some K4.length) := Lib.hid (by rw [hK4]; exact Tryd.infoMg _)
  have HO_K4 : Hid (K4.toArray.all (·.oneCell') = true) := Lib.hid (by rw [hK4]; exact mg_one _)
  have HL_K4 : Hid (K4.length = 4) := Lib.hid (by rw [hK4]; rfl)
  have HV4 : Hid (K4[2]? = some (.int .u32 (told4 y (max p 68) (max q 1280)))) := Lib.hid (by rw [hK4]; rfl)
  obtain ⟨K5, hK5⟩ : ∃ V, V = (⟨3, 4, told4 x (max p 68) (max q 1280), ⟨#[]⟩⟩ : Mg).vals := ⟨_, rfl⟩
  have CH5 : Hid (∀ W, Calls Tryd.prog 12 #[.agg (⟨2, 0, x, ⟨#[]⟩⟩ : Mg).vals.toArray, .int .i64 (max p 68), .int .i64 (max q 1280)] W fun e w' => e = .returned (.tuple #[.agg K5.toArray, .bool true]) ∧ Below W.heap.size W w') := Lib.hid (fun W => by
    have h := pfour_any ⟨2, 0, x, ⟨#[]⟩⟩ (max p 68) (max q 1280) W (by show 0 ≤ x ∧ x < 4294967296; omega)
    rw [four_told hb, ← hK5] at h
    exact h)
  have HI_K5 : Hid ((Tryd.prog.info? 24).map (·.size) = some K5.length) := Lib.hid (by rw [hK5]; exact Tryd.infoMg _)
  have HO_K5 : Hid (K5.toArray.all (·.oneCell') = true) := Lib.hid (by rw [hK5]; exact mg_one _)
  have HL_K5 : Hid (K5.length = 4) := Lib.hid (by rw [hK5]; rfl)
  have HV5 : Hid (K5[2]? = some (.int .u32 (told4 x (max p 68) (max q 1280)))) := Lib.hid (by rw [hK5]; rfl)
  obtain ⟨K6, hK6⟩ : ∃ V, V = (⟨3, 4, told4 (told6 y (max p 68) (max q 1280) 0) (max p 68) (max q 1280), ⟨#[]⟩⟩ : Mg).vals := ⟨_, rfl⟩
  have CH6 : Hid (∀ W, Calls Tryd.prog 12 #[.agg (⟨2, 0, (told6 y (max p 68) (max q 1280) 0), ⟨#[]⟩⟩ : Mg).vals.toArray, .int .i64 (max p 68), .int .i64 (max q 1280)] W fun e w' => e = .returned (.tuple #[.agg K6.toArray, .bool true]) ∧ Below W.heap.size W w') := Lib.hid (fun W => by
    have h := pfour_any ⟨2, 0, (told6 y (max p 68) (max q 1280) 0), ⟨#[]⟩⟩ (max p 68) (max q 1280) W (by show 0 ≤ (told6 y (max p 68) (max q 1280) 0) ∧ (told6 y (max p 68) (max q 1280) 0) < 4294967296; omega)
    rw [four_told hb, ← hK6] at h
    exact h)
  have HI_K6 : Hid ((Tryd.prog.info? 24).map (·.size) = some K6.length) := Lib.hid (by rw [hK6]; exact Tryd.infoMg _)
  have HO_K6 : Hid (K6.toArray.all (·.oneCell') = true) := Lib.hid (by rw [hK6]; exact mg_one _)
  have HL_K6 : Hid (K6.length = 4) := Lib.hid (by rw [hK6]; rfl)
  have HV6 : Hid (K6[2]? = some (.int .u32 (told4 (told6 y (max p 68) (max q 1280) 0) (max p 68) (max q 1280)))) := Lib.hid (by rw [hK6]; rfl)
  rw [← hK1] at CH6
  clear hb hc hK1 hK2 hK3 hK4 hK5 hK6
  have r6 : told4 (told6 y (max p 68) (max q 1280) 0) (max p 68) (max q 1280) ≤ 65535 ∧ 0 ≤ told4 (told6 y (max p 68) (max q 1280) 0) (max p 68) (max q 1280) := by unfold told4; omega
  generalize told4 (told6 y (max p 68) (max q 1280) 0) (max p 68) (max q 1280) = z6 at *
  generalize told6 y (max p 68) (max q 1280) 0 = z1 at *
  generalize told6 x (max p 68) (max q 1280) 0 = z2 at *
  generalize told6 y (max p 68) (max o 1280) 0 = z3 at *
  generalize told4 y (max p 68) (max q 1280) = z4 at *
  generalize told4 x (max p 68) (max q 1280) = z5 at *
  generalize (⟨3, 4, y, ⟨#[]⟩⟩ : Mg).vals = N1 at *
  generalize (⟨3, 4, x, ⟨#[]⟩⟩ : Mg).vals = N2 at *
  generalize (⟨2, 0, y, ⟨#[]⟩⟩ : Mg).vals = N3 at *
  generalize (⟨2, 0, x, ⟨#[]⟩⟩ : Mg).vals = N4 at *
  have kz6 : IntKind.i64.wrap z6 = z6 := IntWalk.i64_in _ (by omega)
  have u4b : z6 ≤ y ∨ z6 ≤ 1260 := by omega
  have HK1 := Lib.hid (Kp.start w)
  obtain ⟨w1, hw1⟩ : ∃ w1, w1 = w := ⟨_, rfl⟩
  subst hw1
  go_enter Tryd.func9, Tryd.ntmps9
  go_wp2_with (fail)
  refine (awake14_true _ (HMB.out _ HK1.out.2.1)).mono ?_
  rintro e w2 ⟨rfl, bb⟩
  have HK2 := Lib.hid (HK1.out.below bb (Nat.le_refl _))
  clear bb HK1
  go_upto_region 8 with (fail)
  generalize max p 68 = A at *
  generalize max q 1280 = B at *
  generalize max o 1280 = C at *
  clear kp kq ko
  go_upto_region 10 with (fail)
  go_wp2_with (((with_reducible (change wpList _ _ _ _ _ _)); ((refine Great.wpList_readTo rfl _ rfl (.agg N1.toArray) (run_execN (T := 24) rfl (by rw [List.map_toArray]; rfl) (HB1.out _)) ?_))))
  refine (CH1.out _ HK2.out.2.1).mono ?_
  rintro e w3 ⟨rfl, bb⟩
  have HK3 := Lib.hid (HK2.out.below bb (Nat.le_refl _))
  clear bb HK2
  have ht := (bk_new w3 24 ([.int .i64 0, .int .i64 0, .int .u32 0, .string ⟨#[]⟩] : List Value).toArray).there K1.toArray.size (by have := HL_K1.out; simp; omega)
  go_upto_region 11 with (((with_reducible (change wpList _ _ _ _ _ _)); ((refine wpList_store_mid rfl 24 _ _ rfl (w3.heap.size) 0 K1.toArray rfl rfl ht (by simpa using HI_K1.out) HO_K1.out ?_))))
  have HK4 := Lib.hid (HK3.out.put 24 ([.int .i64 0, .int .i64 0, .int .u32 0, .string ⟨#[]⟩] : List Value).toArray K1 (by have := HL_K1.out; simp; omega))
  clear ht HK3
  generalize (w3.alloc (.cells ([.int .i64 0, .int .i64 0, .int .u32 0, .string ⟨#[]⟩] : List Value).toArray 24)).setCells w3.heap.size 0 K1 = w4 at *
  generalize w3.heap.size = g1 at *
  go_wp2_with (((with_reducible (change wpList _ _ _ _ _ _)); ((refine Great.wpList_readTo rfl _ rfl (.agg N2.toArray) (run_execN (T := 24) rfl (by rw [List.map_toArray]; rfl) (HB2.out _)) ?_))))
  refine (CH2.out _ HK4.out.2.1).mono ?_
  rintro e w5 ⟨rfl, bb⟩
  have HK5 := Lib.hid (HK4.out.below bb (Nat.le_refl _))
  clear bb HK4
  have ht := (bk_new w5 24 ([.int .i64 0, .int .i64 0, .int .u32 0, .string ⟨#[]⟩] : List Value).toArray).there K2.toArray.size (by have := HL_K2.out; simp; omega)
  go_upto_region 12 with (((with_reducible (change wpList _ _ _ _ _ _)); ((refine wpList_store_mid rfl 24 _ _ rfl (w5.heap.size) 0 K2.toArray rfl rfl ht (by simpa using HI_K2.out) HO_K2.out ?_))))
  have HK6 := Lib.hid (HK5.out.put 24 ([.int .i64 0, .int .i64 0, .int .u32 0, .string ⟨#[]⟩] : List Value).toArray K2 (by have := HL_K2.out; simp; omega))
  clear ht HK5
  generalize (w5.alloc (.cells ([.int .i64 0, .int .i64 0, .int .u32 0, .string ⟨#[]⟩] : List Value).toArray 24)).setCells w5.heap.size 0 K2 = w6 at *
  generalize w5.heap.size = g2 at *
  go_wp2_with (((with_reducible (change wpList _ _ _ _ _ _)); ((refine Great.wpList_readTo rfl _ rfl (.agg N1.toArray) (run_execN (T := 24) rfl (by rw [List.map_toArray]; rfl) (HB1.out _)) ?_))))
  refine (CH3.out _ HK6.out.2.1).mono ?_
  rintro e w7 ⟨rfl, bb⟩
  have HK7 := Lib.hid (HK6.out.below bb (Nat.le_refl _))
  clear bb HK6
  have ht := (bk_new w7 24 ([.int .i64 0, .int .i64 0, .int .u32 0, .string ⟨#[]⟩] : List Value).toArray).there K3.toArray.size (by have := HL_K3.out; simp; omega)
  go_upto_region 13 with (((with_reducible (change wpList _ _ _ _ _ _)); ((refine wpList_store_mid rfl 24 _ _ rfl (w7.heap.size) 0 K3.toArray rfl rfl ht (by simpa using HI_K3.out) HO_K3.out ?_))))
  have HK8 := Lib.hid (HK7.out.put 24 ([.int .i64 0, .int .i64 0, .int .u32 0, .string ⟨#[]⟩] : List Value).toArray K3 (by have := HL_K3.out; simp; omega))
  clear ht HK7
  generalize (w7.alloc (.cells ([.int .i64 0, .int .i64 0, .int .u32 0, .string ⟨#[]⟩] : List Value).toArray 24)).setCells w7.heap.size 0 K3 = w8 at *
  generalize w7.heap.size = g3 at *
  go_wp2_with (((with_reducible (change wpList _ _ _ _ _ _)); ((refine Great.wpList_readTo rfl _ rfl (.agg N3.toArray) (run_execN (T := 24) rfl (by rw [List.map_toArray]; rfl) (HB3.out _)) ?_))))
  refine (CH4.out _).mono ?_
  rintro e w9 ⟨rfl, bb⟩
  have HK9 := Lib.hid (HK8.out.below bb (Nat.le_refl _))
  clear bb HK8
  have ht := (bk_new w9 24 ([.int .i64 0, .int .i64 0, .int .u32 0, .string ⟨#[]⟩] : List Value).toArray).there K4.toArray.size (by have := HL_K4.out; simp; omega)
  go_upto_region 14 with (((with_reducible (change wpList _ _ _ _ _ _)); ((refine wpList_store_mid rfl 24 _ _ rfl (w9.heap.size) 0 K4.toArray rfl rfl ht (by simpa using HI_K4.out) HO_K4.out ?_))))
  have HK10 := Lib.hid (HK9.out.put 24 ([.int .i64 0, .int .i64 0, .int .u32 0, .string ⟨#[]⟩] : List Value).toArray K4 (by have := HL_K4.out; simp; omega))
  clear ht HK9
  generalize (w9.alloc (.cells ([.int .i64 0, .int .i64 0, .int .u32 0, .string ⟨#[]⟩] : List Value).toArray 24)).setCells w9.heap.size 0 K4 = w10 at *
  generalize w9.heap.size = g4 at *
  go_wp2_with (((with_reducible (change wpList _ _ _ _ _ _)); ((refine Great.wpList_readTo rfl _ rfl (.agg N4.toArray) (run_execN (T := 24) rfl (by rw [List.map_toArray]; rfl) (HB4.out _)) ?_))))
  refine (CH5.out _).mono ?_
  rintro e w11 ⟨rfl, bb⟩
  have HK11 := Lib.hid (HK10.out.below bb (Nat.le_refl _))
  clear bb HK10
  have ht := (bk_new w11 24 ([.int .i64 0, .int .i64 0, .int .u32 0, .string ⟨#[]⟩] : List Value).toArray).there K5.toArray.size (by have := HL_K5.out; simp; omega)
  go_upto_region 15 with (((with_reducible (change wpList _ _ _ _ _ _)); ((refine wpList_store_mid rfl 24 _ _ rfl (w11.heap.size) 0 K5.toArray rfl rfl ht (by simpa using HI_K5.out) HO_K5.out ?_))))
  have HK12 := Lib.hid (HK11.out.put 24 ([.int .i64 0, .int .i64 0, .int .u32 0, .string ⟨#[]⟩] : List Value).toArray K5 (by have := HL_K5.out; simp; omega))
  clear ht HK11
  generalize (w11.alloc (.cells ([.int .i64 0, .int .i64 0, .int .u32 0, .string ⟨#[]⟩] : List Value).toArray 24)).setCells w11.heap.size 0 K5 = w12 at *
  generalize w11.heap.size = g5 at *
  have hr0 := HK12.out.tl.tl.tl.tl.hd.range
  go_wp2_with (((with_reducible (change wpList _ _ _ _ _ _)); ((refine wpList_load_mid rfl 24 _ rfl (g1) 0 rfl (K1) _ hr0 Tryd.underlying24 rfl HI_K1.out ?_))))
  clear hr0
  refine (CH6.out _).mono ?_
  rintro e w13 ⟨rfl, bb⟩
  have HK13 := Lib.hid (HK12.out.below bb (Nat.le_refl _))
  clear bb HK12
  have ht := (bk_new w13 24 ([.int .i64 0, .int .i64 0, .int .u32 0, .string ⟨#[]⟩] : List Value).toArray).there K6.toArray.size (by have := HL_K6.out; simp; omega)
  go_upto_region 16 with (((with_reducible (change wpList _ _ _ _ _ _)); ((refine wpList_store_mid rfl 24 _ _ rfl (w13.heap.size) 0 K6.toArray rfl rfl ht (by simpa using HI_K6.out) HO_K6.out ?_))))
  have HK14 := Lib.hid (HK13.out.put 24 ([.int .i64 0, .int .i64 0, .int .u32 0, .string ⟨#[]⟩] : List Value).toArray K6 (by have := HL_K6.out; simp; omega))
  clear ht HK13
  generalize (w13.alloc (.cells ([.int .i64 0, .int .i64 0, .int .u32 0, .string ⟨#[]⟩] : List Value).toArray 24)).setCells w13.heap.size 0 K6 = w14 at *
  generalize w13.heap.size = g6 at *
  go_upto_region 18 with (fail)
  have e1 : w14.cell? ⟨g1, 2, none⟩ = some (.int .u32 z1) := HK14.out.tl.tl.tl.tl.tl.hd.at HV1.out
  have e2 : w14.cell? ⟨g2, 2, none⟩ = some (.int .u32 z2) := HK14.out.tl.tl.tl.tl.hd.at HV2.out
  have e3 : w14.cell? ⟨g3, 2, none⟩ = some (.int .u32 z3) := HK14.out.tl.tl.tl.hd.at HV3.out
  have e4 : w14.cell? ⟨g4, 2, none⟩ = some (.int .u32 z4) := HK14.out.tl.tl.hd.at HV4.out
  have e5 : w14.cell? ⟨g5, 2, none⟩ = some (.int .u32 z5) := HK14.out.tl.hd.at HV5.out
  have e6 : w14.cell? ⟨g6, 2, none⟩ = some (.int .u32 z6) := HK14.out.hd.at HV6.out
  go_wp2_with (fail)
  go_ret
  refine ⟨?_, HK14.out.2.1⟩
  first | rfl | (simp; done) | (simp; omega)
set_option maxRecDepth 100000 in
set_option maxHeartbeats 4000000 in
theorem mtus_zn (x y p q o : Int) (w : World) (hm : Hm w) (hs : ¬ y < x) (hz : x = 0) : Calls Tryd.prog 9 #[.int .u16 x, .int .u16 y, .int .u16 p, .int .u16 q, .int .u16 o] w (fun e w' => e = .returned (.bool true) ∧ Below w.heap.size w w') := by
  have HMB : Hid (∀ W, Below w.heap.size w W → Hm W) := Lib.hid (fun W hW => hm.below hW)
  have HK1 := Lib.hid (Kp.start w)
  obtain ⟨w1, hw1⟩ : ∃ w1, w1 = w := ⟨_, rfl⟩
  subst hw1
  go_enter Tryd.func9, Tryd.ntmps9
  go_wp2_with (fail)
  refine (awake14_true _ (HMB.out _ HK1.out.2.1)).mono ?_
  rintro e w2 ⟨rfl, bb⟩
  have HK2 := Lib.hid (HK1.out.below bb (Nat.le_refl _))
  clear bb HK1
  go_wp2_with (fail)
  go_ret
  exact ⟨rfl, HK2.out.2.1⟩
set_option maxRecDepth 100000 in
set_option maxHeartbeats 4000000 in
theorem mtus_ns (x y p q o : Int) (w : World) (hm : Hm w) (ix : 0 ≤ x ∧ x ≤ 65535) (iy : 0 ≤ y ∧ y ≤ 65535) (ip : 0 ≤ p ∧ p ≤ 65535) (iq : 0 ≤ q ∧ q ≤ 65535) (io : 0 ≤ o ∧ o ≤ 65535) (hs : ¬ y < x) (hz : x ≠ 0) (h2 : max o 1280 < max q 1280) : Calls Tryd.prog 9 #[.int .u16 x, .int .u16 y, .int .u16 p, .int .u16 q, .int .u16 o] w (fun e w' => e = .returned (.bool true) ∧ Below w.heap.size w w') := by
  have HMB : Hid (∀ W, Below w.heap.size w W → Hm W) := Lib.hid (fun W hW => hm.below hW)
  have hb : mtus (max p 68) (max o 1280) = true := mtus_iff.2 (by omega)
  have hc : mtus (max p 68) (max q 1280) = true := mtus_iff.2 (by omega)
  obtain ⟨u1, u2, u3, u4⟩ := mtus_up (x := x) (y := y) (a := max p 68) (b := (max o 1280)) (c := (max q 1280)) (by omega) (by omega) (by omega) (by omega) (by omega) (by omega)
  have r1 := told6_in (rs := x) (a := max p 68) (b := (max o 1280)) (len := 0) (by omega)
  have hbb : (max o 1280) ≤ 65535 := by omega
  have kx : IntKind.i64.wrap x = x := IntWalk.i64_in _ (by omega)
  have kp : IntKind.i64.wrap p = p := IntWalk.i64_in _ (by omega)
  have kq : IntKind.i64.wrap q = q := IntWalk.i64_in _ (by omega)
  have ko : IntKind.i64.wrap o = o := IntWalk.i64_in _ (by omega)
  have kl : IntKind.u32.wrap x = x := by rw [IntKind.wrap_u32]; omega
  have kh : IntKind.u32.wrap y = y := by rw [IntKind.wrap_u32]; omega
  have kz : (x == 0) = false := by rw [beq_eq_false_iff_ne]; exact hz
  have HB1 := Lib.hid (mB34 x)
  have HB2 := Lib.hid (mB34 y)
  have HB3 := Lib.hid (mB20 x)
  have HB4 := Lib.hid (mB20 y)
  obtain ⟨K1, hK1⟩ : ∃ V, V = (⟨2, 0, told6 x (max p 68) (max o 1280) 0, ⟨#[]⟩⟩ : Mg).vals := ⟨_, rfl⟩
  have CH1 : Hid (∀ W, Below w.heap.size w W → Calls Tryd.prog 11 #[.agg (⟨3, 4, x, ⟨#[]⟩⟩ : Mg).vals.toArray, .int .i64 (max p 68), .int .i64 (max o 1280), .int .i64 0] W fun e w' => e = .returned (.tuple #[.agg K1.toArray, .bool true]) ∧ Below W.heap.size W w') := Lib.hid (fun (W : World) (hW : Below w.heap.size w W) => have hmW := HMB.out W hW; by
    have h := psix_any ⟨3, 4, x, ⟨#[]⟩⟩ (max p 68) (max o 1280) 0 W (by show 0 ≤ x ∧ x < 4294967296; omega)
    rw [six_told hb, ← hK1] at h
    exact h)
  have HI_K1 : Hid ((Tryd.prog.info? 24).map (·.size) = some K1.length) := Lib.hid (by rw [hK1]; exact Tryd.infoMg _)
  have HO_K1 : Hid (K1.toArray.all (·.oneCell') = true) := Lib.hid (by rw [hK1]; exact mg_one _)
  have HL_K1 : Hid (K1.length = 4) := Lib.hid (by rw [hK1]; rfl)
  have HV1 : Hid (K1[2]? = some (.int .u32 (told6 x (max p 68) (max o 1280) 0))) := Lib.hid (by rw [hK1]; rfl)
  obtain ⟨K2, hK2⟩ : ∃ V, V = (⟨2, 0, told6 y (max p 68) (max o 1280) 0, ⟨#[]⟩⟩ : Mg).vals := ⟨_, rfl⟩
  have CH2 : Hid (∀ W, Below w.heap.size w W → Calls Tryd.prog 11 #[.agg (⟨3, 4, y, ⟨#[]⟩⟩ : Mg).vals.toArray, .int .i64 (max p 68), .int .i64 (max o 1280), .int .i64 0] W fun e w' => e = .returned (.tuple #[.agg K2.toArray, .bool true]) ∧ Below W.heap.size W w') := Lib.hid (fun (W : World) (hW : Below w.heap.size w W) => have hmW := HMB.out W hW; by
    have h := psix_any ⟨3, 4, y, ⟨#[]⟩⟩ (max p 68) (max o 1280) 0 W (by show 0 ≤ y ∧ y < 4294967296; omega)
    rw [six_told hb, ← hK2] at h
    exact h)
  have HI_K2 : Hid ((Tryd.prog.info? 24).map (·.size) = some K2.length) := Lib.hid (by rw [hK2]; exact Tryd.infoMg _)
  have HO_K2 : Hid (K2.toArray.all (·.oneCell') = true) := Lib.hid (by rw [hK2]; exact mg_one _)
  have HL_K2 : Hid (K2.length = 4) := Lib.hid (by rw [hK2]; rfl)
  have HV2 : Hid (K2[2]? = some (.int .u32 (told6 y (max p 68) (max o 1280) 0))) := Lib.hid (by rw [hK2]; rfl)
  obtain ⟨K3, hK3⟩ : ∃ V, V = (⟨2, 0, told6 x (max p 68) (max q 1280) 0, ⟨#[]⟩⟩ : Mg).vals := ⟨_, rfl⟩
  have CH3 : Hid (∀ W, Below w.heap.size w W → Calls Tryd.prog 11 #[.agg (⟨3, 4, x, ⟨#[]⟩⟩ : Mg).vals.toArray, .int .i64 (max p 68), .int .i64 (max q 1280), .int .i64 0] W fun e w' => e = .returned (.tuple #[.agg K3.toArray, .bool true]) ∧ Below W.heap.size W w') := Lib.hid (fun (W : World) (hW : Below w.heap.size w W) => have hmW := HMB.out W hW; by
    have h := psix_any ⟨3, 4, x, ⟨#[]⟩⟩ (max p 68) (max q 1280) 0 W (by show 0 ≤ x ∧ x < 4294967296; omega)
    rw [six_told hc, ← hK3] at h
    exact h)
  have HI_K3 : Hid ((Tryd.prog.info? 24).map (·.size) = some K3.length) := Lib.hid (by rw [hK3]; exact Tryd.infoMg _)
  have HO_K3 : Hid (K3.toArray.all (·.oneCell') = true) := Lib.hid (by rw [hK3]; exact mg_one _)
  have HL_K3 : Hid (K3.length = 4) := Lib.hid (by rw [hK3]; rfl)
  have HV3 : Hid (K3[2]? = some (.int .u32 (told6 x (max p 68) (max q 1280) 0))) := Lib.hid (by rw [hK3]; rfl)
  obtain ⟨K4, hK4⟩ : ∃ V, V = (⟨3, 4, told4 x (max p 68) (max o 1280), ⟨#[]⟩⟩ : Mg).vals := ⟨_, rfl⟩
  have CH4 : Hid (∀ W, Calls Tryd.prog 12 #[.agg (⟨2, 0, x, ⟨#[]⟩⟩ : Mg).vals.toArray, .int .i64 (max p 68), .int .i64 (max o 1280)] W fun e w' => e = .returned (.tuple #[.agg K4.toArray, .bool true]) ∧ Below W.heap.size W w') := Lib.hid (fun W => by
    have h := pfour_any ⟨2, 0, x, ⟨#[]⟩⟩ (max p 68) (max o 1280) W (by show 0 ≤ x ∧ x < 4294967296; omega)
    rw [four_told hb, ← hK4] at h
    exact h)
  have HI_K4 : Hid ((Tryd.prog.info? 24).map (·.size) = some K4.length) := Lib.hid (by rw [hK4]; exact Tryd.infoMg _)
  have HO_K4 : Hid (K4.toArray.all (·.oneCell') = true) := Lib.hid (by rw [hK4]; exact mg_one _)
  have HL_K4 : Hid (K4.length = 4) := Lib.hid (by rw [hK4]; rfl)
  have HV4 : Hid (K4[2]? = some (.int .u32 (told4 x (max p 68) (max o 1280)))) := Lib.hid (by rw [hK4]; rfl)
  obtain ⟨K5, hK5⟩ : ∃ V, V = (⟨3, 4, told4 y (max p 68) (max o 1280), ⟨#[]⟩⟩ : Mg).vals := ⟨_, rfl⟩
  have CH5 : Hid (∀ W, Calls Tryd.prog 12 #[.agg (⟨2, 0, y, ⟨#[]⟩⟩ : Mg).vals.toArray, .int .i64 (max p 68), .int .i64 (max o 1280)] W fun e w' => e = .returned (.tuple #[.agg K5.toArray, .bool true]) ∧ Below W.heap.size W w') := Lib.hid (fun W => by
    have h := pfour_any ⟨2, 0, y, ⟨#[]⟩⟩ (max p 68) (max o 1280) W (by show 0 ≤ y ∧ y < 4294967296; omega)
    rw [four_told hb, ← hK5] at h
    exact h)
  have HI_K5 : Hid ((Tryd.prog.info? 24).map (·.size) = some K5.length) := Lib.hid (by rw [hK5]; exact Tryd.infoMg _)
  have HO_K5 : Hid (K5.toArray.all (·.oneCell') = true) := Lib.hid (by rw [hK5]; exact mg_one _)
  have HL_K5 : Hid (K5.length = 4) := Lib.hid (by rw [hK5]; rfl)
  have HV5 : Hid (K5[2]? = some (.int .u32 (told4 y (max p 68) (max o 1280)))) := Lib.hid (by rw [hK5]; rfl)
  obtain ⟨K6, hK6⟩ : ∃ V, V = (⟨3, 4, told4 (told6 x (max p 68) (max o 1280) 0) (max p 68) (max o 1280), ⟨#[]⟩⟩ : Mg).vals := ⟨_, rfl⟩
  have CH6 : Hid (∀ W, Calls Tryd.prog 12 #[.agg (⟨2, 0, (told6 x (max p 68) (max o 1280) 0), ⟨#[]⟩⟩ : Mg).vals.toArray, .int .i64 (max p 68), .int .i64 (max o 1280)] W fun e w' => e = .returned (.tuple #[.agg K6.toArray, .bool true]) ∧ Below W.heap.size W w') := Lib.hid (fun W => by
    have h := pfour_any ⟨2, 0, (told6 x (max p 68) (max o 1280) 0), ⟨#[]⟩⟩ (max p 68) (max o 1280) W (by show 0 ≤ (told6 x (max p 68) (max o 1280) 0) ∧ (told6 x (max p 68) (max o 1280) 0) < 4294967296; omega)
    rw [four_told hb, ← hK6] at h
    exact h)
  have HI_K6 : Hid ((Tryd.prog.info? 24).map (·.size) = some K6.length) := Lib.hid (by rw [hK6]; exact Tryd.infoMg _)
  have HO_K6 : Hid (K6.toArray.all (·.oneCell') = true) := Lib.hid (by rw [hK6]; exact mg_one _)
  have HL_K6 : Hid (K6.length = 4) := Lib.hid (by rw [hK6]; rfl)
  have HV6 : Hid (K6[2]? = some (.int .u32 (told4 (told6 x (max p 68) (max o 1280) 0) (max p 68) (max o 1280)))) := Lib.hid (by rw [hK6]; rfl)
  rw [← hK1] at CH6
  clear hb hc hK1 hK2 hK3 hK4 hK5 hK6
  have r6 : told4 (told6 x (max p 68) (max o 1280) 0) (max p 68) (max o 1280) ≤ 65535 ∧ 0 ≤ told4 (told6 x (max p 68) (max o 1280) 0) (max p 68) (max o 1280) := by unfold told4; omega
  generalize told4 (told6 x (max p 68) (max o 1280) 0) (max p 68) (max o 1280) = z6 at *
  generalize told6 x (max p 68) (max o 1280) 0 = z1 at *
  generalize told6 y (max p 68) (max o 1280) 0 = z2 at *
  generalize told6 x (max p 68) (max q 1280) 0 = z3 at *
  generalize told4 x (max p 68) (max o 1280) = z4 at *
  generalize told4 y (max p 68) (max o 1280) = z5 at *
  generalize (⟨3, 4, x, ⟨#[]⟩⟩ : Mg).vals = N1 at *
  generalize (⟨3, 4, y, ⟨#[]⟩⟩ : Mg).vals = N2 at *
  generalize (⟨2, 0, x, ⟨#[]⟩⟩ : Mg).vals = N3 at *
  generalize (⟨2, 0, y, ⟨#[]⟩⟩ : Mg).vals = N4 at *
  have kz6 : IntKind.i64.wrap z6 = z6 := IntWalk.i64_in _ (by omega)
  have u4b : z6 ≤ x ∨ z6 ≤ 1260 := by omega
  have HK1 := Lib.hid (Kp.start w)
  obtain ⟨w1, hw1⟩ : ∃ w1, w1 = w := ⟨_, rfl⟩
  subst hw1
  go_enter Tryd.func9, Tryd.ntmps9
  go_wp2_with (fail)
  refine (awake14_true _ (HMB.out _ HK1.out.2.1)).mono ?_
  rintro e w2 ⟨rfl, bb⟩
  have HK2 := Lib.hid (HK1.out.below bb (Nat.le_refl _))
  clear bb HK1
  go_upto_region 8 with (fail)
  generalize max p 68 = A at *
  generalize max q 1280 = B at *
  generalize max o 1280 = C at *
  clear kp kq ko
  go_upto_region 10 with (fail)
  go_wp2_with (((with_reducible (change wpList _ _ _ _ _ _)); ((refine Great.wpList_readTo rfl _ rfl (.agg N1.toArray) (run_execN (T := 24) rfl (by rw [List.map_toArray]; rfl) (HB1.out _)) ?_))))
  refine (CH1.out _ HK2.out.2.1).mono ?_
  rintro e w3 ⟨rfl, bb⟩
  have HK3 := Lib.hid (HK2.out.below bb (Nat.le_refl _))
  clear bb HK2
  have ht := (bk_new w3 24 ([.int .i64 0, .int .i64 0, .int .u32 0, .string ⟨#[]⟩] : List Value).toArray).there K1.toArray.size (by have := HL_K1.out; simp; omega)
  go_upto_region 11 with (((with_reducible (change wpList _ _ _ _ _ _)); ((refine wpList_store_mid rfl 24 _ _ rfl (w3.heap.size) 0 K1.toArray rfl rfl ht (by simpa using HI_K1.out) HO_K1.out ?_))))
  have HK4 := Lib.hid (HK3.out.put 24 ([.int .i64 0, .int .i64 0, .int .u32 0, .string ⟨#[]⟩] : List Value).toArray K1 (by have := HL_K1.out; simp; omega))
  clear ht HK3
  generalize (w3.alloc (.cells ([.int .i64 0, .int .i64 0, .int .u32 0, .string ⟨#[]⟩] : List Value).toArray 24)).setCells w3.heap.size 0 K1 = w4 at *
  generalize w3.heap.size = g1 at *
  go_wp2_with (((with_reducible (change wpList _ _ _ _ _ _)); ((refine Great.wpList_readTo rfl _ rfl (.agg N2.toArray) (run_execN (T := 24) rfl (by rw [List.map_toArray]; rfl) (HB2.out _)) ?_))))
  refine (CH2.out _ HK4.out.2.1).mono ?_
  rintro e w5 ⟨rfl, bb⟩
  have HK5 := Lib.hid (HK4.out.below bb (Nat.le_refl _))
  clear bb HK4
  have ht := (bk_new w5 24 ([.int .i64 0, .int .i64 0, .int .u32 0, .string ⟨#[]⟩] : List Value).toArray).there K2.toArray.size (by have := HL_K2.out; simp; omega)
  go_upto_region 12 with (((with_reducible (change wpList _ _ _ _ _ _)); ((refine wpList_store_mid rfl 24 _ _ rfl (w5.heap.size) 0 K2.toArray rfl rfl ht (by simpa using HI_K2.out) HO_K2.out ?_))))
  have HK6 := Lib.hid (HK5.out.put 24 ([.int .i64 0, .int .i64 0, .int .u32 0, .string ⟨#[]⟩] : List Value).toArray K2 (by have := HL_K2.out; simp; omega))
  clear ht HK5
  generalize (w5.alloc (.cells ([.int .i64 0, .int .i64 0, .int .u32 0, .string ⟨#[]⟩] : List Value).toArray 24)).setCells w5.heap.size 0 K2 = w6 at *
  generalize w5.heap.size = g2 at *
  go_wp2_with (((with_reducible (change wpList _ _ _ _ _ _)); ((refine Great.wpList_readTo rfl _ rfl (.agg N1.toArray) (run_execN (T := 24) rfl (by rw [List.map_toArray]; rfl) (HB1.out _)) ?_))))
  refine (CH3.out _ HK6.out.2.1).mono ?_
  rintro e w7 ⟨rfl, bb⟩
  have HK7 := Lib.hid (HK6.out.below bb (Nat.le_refl _))
  clear bb HK6
  have ht := (bk_new w7 24 ([.int .i64 0, .int .i64 0, .int .u32 0, .string ⟨#[]⟩] : List Value).toArray).there K3.toArray.size (by have := HL_K3.out; simp; omega)
  go_upto_region 13 with (((with_reducible (change wpList _ _ _ _ _ _)); ((refine wpList_store_mid rfl 24 _ _ rfl (w7.heap.size) 0 K3.toArray rfl rfl ht (by simpa using HI_K3.out) HO_K3.out ?_))))
  have HK8 := Lib.hid (HK7.out.put 24 ([.int .i64 0, .int .i64 0, .int .u32 0, .string ⟨#[]⟩] : List Value).toArray K3 (by have := HL_K3.out; simp; omega))
  clear ht HK7
  generalize (w7.alloc (.cells ([.int .i64 0, .int .i64 0, .int .u32 0, .string ⟨#[]⟩] : List Value).toArray 24)).setCells w7.heap.size 0 K3 = w8 at *
  generalize w7.heap.size = g3 at *
  go_wp2_with (((with_reducible (change wpList _ _ _ _ _ _)); ((refine Great.wpList_readTo rfl _ rfl (.agg N3.toArray) (run_execN (T := 24) rfl (by rw [List.map_toArray]; rfl) (HB3.out _)) ?_))))
  refine (CH4.out _).mono ?_
  rintro e w9 ⟨rfl, bb⟩
  have HK9 := Lib.hid (HK8.out.below bb (Nat.le_refl _))
  clear bb HK8
  have ht := (bk_new w9 24 ([.int .i64 0, .int .i64 0, .int .u32 0, .string ⟨#[]⟩] : List Value).toArray).there K4.toArray.size (by have := HL_K4.out; simp; omega)
  go_upto_region 14 with (((with_reducible (change wpList _ _ _ _ _ _)); ((refine wpList_store_mid rfl 24 _ _ rfl (w9.heap.size) 0 K4.toArray rfl rfl ht (by simpa using HI_K4.out) HO_K4.out ?_))))
  have HK10 := Lib.hid (HK9.out.put 24 ([.int .i64 0, .int .i64 0, .int .u32 0, .string ⟨#[]⟩] : List Value).toArray K4 (by have := HL_K4.out; simp; omega))
  clear ht HK9
  generalize (w9.alloc (.cells ([.int .i64 0, .int .i64 0, .int .u32 0, .string ⟨#[]⟩] : List Value).toArray 24)).setCells w9.heap.size 0 K4 = w10 at *
  generalize w9.heap.size = g4 at *
  go_wp2_with (((with_reducible (change wpList _ _ _ _ _ _)); ((refine Great.wpList_readTo rfl _ rfl (.agg N4.toArray) (run_execN (T := 24) rfl (by rw [List.map_toArray]; rfl) (HB4.out _)) ?_))))
  refine (CH5.out _).mono ?_
  rintro e w11 ⟨rfl, bb⟩
  have HK11 := Lib.hid (HK10.out.below bb (Nat.le_refl _))
  clear bb HK10
  have ht := (bk_new w11 24 ([.int .i64 0, .int .i64 0, .int .u32 0, .string ⟨#[]⟩] : List Value).toArray).there K5.toArray.size (by have := HL_K5.out; simp; omega)
  go_upto_region 15 with (((with_reducible (change wpList _ _ _ _ _ _)); ((refine wpList_store_mid rfl 24 _ _ rfl (w11.heap.size) 0 K5.toArray rfl rfl ht (by simpa using HI_K5.out) HO_K5.out ?_))))
  have HK12 := Lib.hid (HK11.out.put 24 ([.int .i64 0, .int .i64 0, .int .u32 0, .string ⟨#[]⟩] : List Value).toArray K5 (by have := HL_K5.out; simp; omega))
  clear ht HK11
  generalize (w11.alloc (.cells ([.int .i64 0, .int .i64 0, .int .u32 0, .string ⟨#[]⟩] : List Value).toArray 24)).setCells w11.heap.size 0 K5 = w12 at *
  generalize w11.heap.size = g5 at *
  have hr0 := HK12.out.tl.tl.tl.tl.hd.range
  go_wp2_with (((with_reducible (change wpList _ _ _ _ _ _)); ((refine wpList_load_mid rfl 24 _ rfl (g1) 0 rfl (K1) _ hr0 Tryd.underlying24 rfl HI_K1.out ?_))))
  clear hr0
  refine (CH6.out _).mono ?_
  rintro e w13 ⟨rfl, bb⟩
  have HK13 := Lib.hid (HK12.out.below bb (Nat.le_refl _))
  clear bb HK12
  have ht := (bk_new w13 24 ([.int .i64 0, .int .i64 0, .int .u32 0, .string ⟨#[]⟩] : List Value).toArray).there K6.toArray.size (by have := HL_K6.out; simp; omega)
  go_upto_region 16 with (((with_reducible (change wpList _ _ _ _ _ _)); ((refine wpList_store_mid rfl 24 _ _ rfl (w13.heap.size) 0 K6.toArray rfl rfl ht (by simpa using HI_K6.out) HO_K6.out ?_))))
  have HK14 := Lib.hid (HK13.out.put 24 ([.int .i64 0, .int .i64 0, .int .u32 0, .string ⟨#[]⟩] : List Value).toArray K6 (by have := HL_K6.out; simp; omega))
  clear ht HK13
  generalize (w13.alloc (.cells ([.int .i64 0, .int .i64 0, .int .u32 0, .string ⟨#[]⟩] : List Value).toArray 24)).setCells w13.heap.size 0 K6 = w14 at *
  generalize w13.heap.size = g6 at *
  go_upto_region 18 with (fail)
  have e1 : w14.cell? ⟨g1, 2, none⟩ = some (.int .u32 z1) := HK14.out.tl.tl.tl.tl.tl.hd.at HV1.out
  have e2 : w14.cell? ⟨g2, 2, none⟩ = some (.int .u32 z2) := HK14.out.tl.tl.tl.tl.hd.at HV2.out
  have e3 : w14.cell? ⟨g3, 2, none⟩ = some (.int .u32 z3) := HK14.out.tl.tl.tl.hd.at HV3.out
  have e4 : w14.cell? ⟨g4, 2, none⟩ = some (.int .u32 z4) := HK14.out.tl.tl.hd.at HV4.out
  have e5 : w14.cell? ⟨g5, 2, none⟩ = some (.int .u32 z5) := HK14.out.tl.hd.at HV5.out
  have e6 : w14.cell? ⟨g6, 2, none⟩ = some (.int .u32 z6) := HK14.out.hd.at HV6.out
  go_wp2_with (fail)
  go_ret
  refine ⟨?_, HK14.out.2.1⟩
  first | rfl | (simp; done) | (simp; omega)
set_option maxRecDepth 100000 in
set_option maxHeartbeats 4000000 in
theorem mtus_nn (x y p q o : Int) (w : World) (hm : Hm w) (ix : 0 ≤ x ∧ x ≤ 65535) (iy : 0 ≤ y ∧ y ≤ 65535) (ip : 0 ≤ p ∧ p ≤ 65535) (iq : 0 ≤ q ∧ q ≤ 65535) (io : 0 ≤ o ∧ o ≤ 65535) (hs : ¬ y < x) (hz : x ≠ 0) (h2 : ¬ max o 1280 < max q 1280) : Calls Tryd.prog 9 #[.int .u16 x, .int .u16 y, .int .u16 p, .int .u16 q, .int .u16 o] w (fun e w' => e = .returned (.bool true) ∧ Below w.heap.size w w') := by
  have HMB : Hid (∀ W, Below w.heap.size w W → Hm W) := Lib.hid (fun W hW => hm.below hW)
  have hb : mtus (max p 68) (max q 1280) = true := mtus_iff.2 (by omega)
  have hc : mtus (max p 68) (max o 1280) = true := mtus_iff.2 (by omega)
  obtain ⟨u1, u2, u3, u4⟩ := mtus_up (x := x) (y := y) (a := max p 68) (b := (max q 1280)) (c := (max o 1280)) (by omega) (by omega) (by omega) (by omega) (by omega) (by omega)
  have r1 := told6_in (rs := x) (a := max p 68) (b := (max q 1280)) (len := 0) (by omega)
  have hbb : (max q 1280) ≤ 65535 := by omega
  have kx : IntKind.i64.wrap x = x := IntWalk.i64_in _ (by omega)
  have kp : IntKind.i64.wrap p = p := IntWalk.i64_in _ (by omega)
  have kq : IntKind.i64.wrap q = q := IntWalk.i64_in _ (by omega)
  have ko : IntKind.i64.wrap o = o := IntWalk.i64_in _ (by omega)
  have kl : IntKind.u32.wrap x = x := by rw [IntKind.wrap_u32]; omega
  have kh : IntKind.u32.wrap y = y := by rw [IntKind.wrap_u32]; omega
  have kz : (x == 0) = false := by rw [beq_eq_false_iff_ne]; exact hz
  have HB1 := Lib.hid (mB34 x)
  have HB2 := Lib.hid (mB34 y)
  have HB3 := Lib.hid (mB20 x)
  have HB4 := Lib.hid (mB20 y)
  obtain ⟨K1, hK1⟩ : ∃ V, V = (⟨2, 0, told6 x (max p 68) (max q 1280) 0, ⟨#[]⟩⟩ : Mg).vals := ⟨_, rfl⟩
  have CH1 : Hid (∀ W, Below w.heap.size w W → Calls Tryd.prog 11 #[.agg (⟨3, 4, x, ⟨#[]⟩⟩ : Mg).vals.toArray, .int .i64 (max p 68), .int .i64 (max q 1280), .int .i64 0] W fun e w' => e = .returned (.tuple #[.agg K1.toArray, .bool true]) ∧ Below W.heap.size W w') := Lib.hid (fun (W : World) (hW : Below w.heap.size w W) => have hmW := HMB.out W hW; by
    have h := psix_any ⟨3, 4, x, ⟨#[]⟩⟩ (max p 68) (max q 1280) 0 W (by show 0 ≤ x ∧ x < 4294967296; omega)
    rw [six_told hb, ← hK1] at h
    exact h)
  have HI_K1 : Hid ((Tryd.prog.info? 24).map (·.size) = some K1.length) := Lib.hid (by rw [hK1]; exact Tryd.infoMg _)
  have HO_K1 : Hid (K1.toArray.all (·.oneCell') = true) := Lib.hid (by rw [hK1]; exact mg_one _)
  have HL_K1 : Hid (K1.length = 4) := Lib.hid (by rw [hK1]; rfl)
  have HV1 : Hid (K1[2]? = some (.int .u32 (told6 x (max p 68) (max q 1280) 0))) := Lib.hid (by rw [hK1]; rfl)
  obtain ⟨K2, hK2⟩ : ∃ V, V = (⟨2, 0, told6 y (max p 68) (max q 1280) 0, ⟨#[]⟩⟩ : Mg).vals := ⟨_, rfl⟩
  have CH2 : Hid (∀ W, Below w.heap.size w W → Calls Tryd.prog 11 #[.agg (⟨3, 4, y, ⟨#[]⟩⟩ : Mg).vals.toArray, .int .i64 (max p 68), .int .i64 (max q 1280), .int .i64 0] W fun e w' => e = .returned (.tuple #[.agg K2.toArray, .bool true]) ∧ Below W.heap.size W w') := Lib.hid (fun (W : World) (hW : Below w.heap.size w W) => have hmW := HMB.out W hW; by
    have h := psix_any ⟨3, 4, y, ⟨#[]⟩⟩ (max p 68) (max q 1280) 0 W (by show 0 ≤ y ∧ y < 4294967296; omega)
    rw [six_told hb, ← hK2] at h
    exact h)
  have HI_K2 : Hid ((Tryd.prog.info? 24).map (·.size) = some K2.length) := Lib.hid (by rw [hK2]; exact Tryd.infoMg _)
  have HO_K2 : Hid (K2.toArray.all (·.oneCell') = true) := Lib.hid (by rw [hK2]; exact mg_one _)
  have HL_K2 : Hid (K2.length = 4) := Lib.hid (by rw [hK2]; rfl)
  have HV2 : Hid (K2[2]? = some (.int .u32 (told6 y (max p 68) (max q 1280) 0))) := Lib.hid (by rw [hK2]; rfl)
  obtain ⟨K3, hK3⟩ : ∃ V, V = (⟨2, 0, told6 x (max p 68) (max o 1280) 0, ⟨#[]⟩⟩ : Mg).vals := ⟨_, rfl⟩
  have CH3 : Hid (∀ W, Below w.heap.size w W → Calls Tryd.prog 11 #[.agg (⟨3, 4, x, ⟨#[]⟩⟩ : Mg).vals.toArray, .int .i64 (max p 68), .int .i64 (max o 1280), .int .i64 0] W fun e w' => e = .returned (.tuple #[.agg K3.toArray, .bool true]) ∧ Below W.heap.size W w') := Lib.hid (fun (W : World) (hW : Below w.heap.size w W) => have hmW := HMB.out W hW; by
    have h := psix_any ⟨3, 4, x, ⟨#[]⟩⟩ (max p 68) (max o 1280) 0 W (by show 0 ≤ x ∧ x < 4294967296; omega)
    rw [six_told hc, ← hK3] at h
    exact h)
  have HI_K3 : Hid ((Tryd.prog.info? 24).map (·.size) = some K3.length) := Lib.hid (by rw [hK3]; exact Tryd.infoMg _)
  have HO_K3 : Hid (K3.toArray.all (·.oneCell') = true) := Lib.hid (by rw [hK3]; exact mg_one _)
  have HL_K3 : Hid (K3.length = 4) := Lib.hid (by rw [hK3]; rfl)
  have HV3 : Hid (K3[2]? = some (.int .u32 (told6 x (max p 68) (max o 1280) 0))) := Lib.hid (by rw [hK3]; rfl)
  obtain ⟨K4, hK4⟩ : ∃ V, V = (⟨3, 4, told4 x (max p 68) (max q 1280), ⟨#[]⟩⟩ : Mg).vals := ⟨_, rfl⟩
  have CH4 : Hid (∀ W, Calls Tryd.prog 12 #[.agg (⟨2, 0, x, ⟨#[]⟩⟩ : Mg).vals.toArray, .int .i64 (max p 68), .int .i64 (max q 1280)] W fun e w' => e = .returned (.tuple #[.agg K4.toArray, .bool true]) ∧ Below W.heap.size W w') := Lib.hid (fun W => by
    have h := pfour_any ⟨2, 0, x, ⟨#[]⟩⟩ (max p 68) (max q 1280) W (by show 0 ≤ x ∧ x < 4294967296; omega)
    rw [four_told hb, ← hK4] at h
    exact h)
  have HI_K4 : Hid ((Tryd.prog.info? 24).map (·.size) = some K4.length) := Lib.hid (by rw [hK4]; exact Tryd.infoMg _)
  have HO_K4 : Hid (K4.toArray.all (·.oneCell') = true) := Lib.hid (by rw [hK4]; exact mg_one _)
  have HL_K4 : Hid (K4.length = 4) := Lib.hid (by rw [hK4]; rfl)
  have HV4 : Hid (K4[2]? = some (.int .u32 (told4 x (max p 68) (max q 1280)))) := Lib.hid (by rw [hK4]; rfl)
  obtain ⟨K5, hK5⟩ : ∃ V, V = (⟨3, 4, told4 y (max p 68) (max q 1280), ⟨#[]⟩⟩ : Mg).vals := ⟨_, rfl⟩
  have CH5 : Hid (∀ W, Calls Tryd.prog 12 #[.agg (⟨2, 0, y, ⟨#[]⟩⟩ : Mg).vals.toArray, .int .i64 (max p 68), .int .i64 (max q 1280)] W fun e w' => e = .returned (.tuple #[.agg K5.toArray, .bool true]) ∧ Below W.heap.size W w') := Lib.hid (fun W => by
    have h := pfour_any ⟨2, 0, y, ⟨#[]⟩⟩ (max p 68) (max q 1280) W (by show 0 ≤ y ∧ y < 4294967296; omega)
    rw [four_told hb, ← hK5] at h
    exact h)
  have HI_K5 : Hid ((Tryd.prog.info? 24).map (·.size) = some K5.length) := Lib.hid (by rw [hK5]; exact Tryd.infoMg _)
  have HO_K5 : Hid (K5.toArray.all (·.oneCell') = true) := Lib.hid (by rw [hK5]; exact mg_one _)
  have HL_K5 : Hid (K5.length = 4) := Lib.hid (by rw [hK5]; rfl)
  have HV5 : Hid (K5[2]? = some (.int .u32 (told4 y (max p 68) (max q 1280)))) := Lib.hid (by rw [hK5]; rfl)
  obtain ⟨K6, hK6⟩ : ∃ V, V = (⟨3, 4, told4 (told6 x (max p 68) (max q 1280) 0) (max p 68) (max q 1280), ⟨#[]⟩⟩ : Mg).vals := ⟨_, rfl⟩
  have CH6 : Hid (∀ W, Calls Tryd.prog 12 #[.agg (⟨2, 0, (told6 x (max p 68) (max q 1280) 0), ⟨#[]⟩⟩ : Mg).vals.toArray, .int .i64 (max p 68), .int .i64 (max q 1280)] W fun e w' => e = .returned (.tuple #[.agg K6.toArray, .bool true]) ∧ Below W.heap.size W w') := Lib.hid (fun W => by
    have h := pfour_any ⟨2, 0, (told6 x (max p 68) (max q 1280) 0), ⟨#[]⟩⟩ (max p 68) (max q 1280) W (by show 0 ≤ (told6 x (max p 68) (max q 1280) 0) ∧ (told6 x (max p 68) (max q 1280) 0) < 4294967296; omega)
    rw [four_told hb, ← hK6] at h
    exact h)
  have HI_K6 : Hid ((Tryd.prog.info? 24).map (·.size) = some K6.length) := Lib.hid (by rw [hK6]; exact Tryd.infoMg _)
  have HO_K6 : Hid (K6.toArray.all (·.oneCell') = true) := Lib.hid (by rw [hK6]; exact mg_one _)
  have HL_K6 : Hid (K6.length = 4) := Lib.hid (by rw [hK6]; rfl)
  have HV6 : Hid (K6[2]? = some (.int .u32 (told4 (told6 x (max p 68) (max q 1280) 0) (max p 68) (max q 1280)))) := Lib.hid (by rw [hK6]; rfl)
  rw [← hK1] at CH6
  clear hb hc hK1 hK2 hK3 hK4 hK5 hK6
  have r6 : told4 (told6 x (max p 68) (max q 1280) 0) (max p 68) (max q 1280) ≤ 65535 ∧ 0 ≤ told4 (told6 x (max p 68) (max q 1280) 0) (max p 68) (max q 1280) := by unfold told4; omega
  generalize told4 (told6 x (max p 68) (max q 1280) 0) (max p 68) (max q 1280) = z6 at *
  generalize told6 x (max p 68) (max q 1280) 0 = z1 at *
  generalize told6 y (max p 68) (max q 1280) 0 = z2 at *
  generalize told6 x (max p 68) (max o 1280) 0 = z3 at *
  generalize told4 x (max p 68) (max q 1280) = z4 at *
  generalize told4 y (max p 68) (max q 1280) = z5 at *
  generalize (⟨3, 4, x, ⟨#[]⟩⟩ : Mg).vals = N1 at *
  generalize (⟨3, 4, y, ⟨#[]⟩⟩ : Mg).vals = N2 at *
  generalize (⟨2, 0, x, ⟨#[]⟩⟩ : Mg).vals = N3 at *
  generalize (⟨2, 0, y, ⟨#[]⟩⟩ : Mg).vals = N4 at *
  have kz6 : IntKind.i64.wrap z6 = z6 := IntWalk.i64_in _ (by omega)
  have u4b : z6 ≤ x ∨ z6 ≤ 1260 := by omega
  have HK1 := Lib.hid (Kp.start w)
  obtain ⟨w1, hw1⟩ : ∃ w1, w1 = w := ⟨_, rfl⟩
  subst hw1
  go_enter Tryd.func9, Tryd.ntmps9
  go_wp2_with (fail)
  refine (awake14_true _ (HMB.out _ HK1.out.2.1)).mono ?_
  rintro e w2 ⟨rfl, bb⟩
  have HK2 := Lib.hid (HK1.out.below bb (Nat.le_refl _))
  clear bb HK1
  go_upto_region 8 with (fail)
  generalize max p 68 = A at *
  generalize max q 1280 = B at *
  generalize max o 1280 = C at *
  clear kp kq ko
  go_upto_region 10 with (fail)
  go_wp2_with (((with_reducible (change wpList _ _ _ _ _ _)); ((refine Great.wpList_readTo rfl _ rfl (.agg N1.toArray) (run_execN (T := 24) rfl (by rw [List.map_toArray]; rfl) (HB1.out _)) ?_))))
  refine (CH1.out _ HK2.out.2.1).mono ?_
  rintro e w3 ⟨rfl, bb⟩
  have HK3 := Lib.hid (HK2.out.below bb (Nat.le_refl _))
  clear bb HK2
  have ht := (bk_new w3 24 ([.int .i64 0, .int .i64 0, .int .u32 0, .string ⟨#[]⟩] : List Value).toArray).there K1.toArray.size (by have := HL_K1.out; simp; omega)
  go_upto_region 11 with (((with_reducible (change wpList _ _ _ _ _ _)); ((refine wpList_store_mid rfl 24 _ _ rfl (w3.heap.size) 0 K1.toArray rfl rfl ht (by simpa using HI_K1.out) HO_K1.out ?_))))
  have HK4 := Lib.hid (HK3.out.put 24 ([.int .i64 0, .int .i64 0, .int .u32 0, .string ⟨#[]⟩] : List Value).toArray K1 (by have := HL_K1.out; simp; omega))
  clear ht HK3
  generalize (w3.alloc (.cells ([.int .i64 0, .int .i64 0, .int .u32 0, .string ⟨#[]⟩] : List Value).toArray 24)).setCells w3.heap.size 0 K1 = w4 at *
  generalize w3.heap.size = g1 at *
  go_wp2_with (((with_reducible (change wpList _ _ _ _ _ _)); ((refine Great.wpList_readTo rfl _ rfl (.agg N2.toArray) (run_execN (T := 24) rfl (by rw [List.map_toArray]; rfl) (HB2.out _)) ?_))))
  refine (CH2.out _ HK4.out.2.1).mono ?_
  rintro e w5 ⟨rfl, bb⟩
  have HK5 := Lib.hid (HK4.out.below bb (Nat.le_refl _))
  clear bb HK4
  have ht := (bk_new w5 24 ([.int .i64 0, .int .i64 0, .int .u32 0, .string ⟨#[]⟩] : List Value).toArray).there K2.toArray.size (by have := HL_K2.out; simp; omega)
  go_upto_region 12 with (((with_reducible (change wpList _ _ _ _ _ _)); ((refine wpList_store_mid rfl 24 _ _ rfl (w5.heap.size) 0 K2.toArray rfl rfl ht (by simpa using HI_K2.out) HO_K2.out ?_))))
  have HK6 := Lib.hid (HK5.out.put 24 ([.int .i64 0, .int .i64 0, .int .u32 0, .string ⟨#[]⟩] : List Value).toArray K2 (by have := HL_K2.out; simp; omega))
  clear ht HK5
  generalize (w5.alloc (.cells ([.int .i64 0, .int .i64 0, .int .u32 0, .string ⟨#[]⟩] : List Value).toArray 24)).setCells w5.heap.size 0 K2 = w6 at *
  generalize w5.heap.size = g2 at *
  go_wp2_with (((with_reducible (change wpList _ _ _ _ _ _)); ((refine Great.wpList_readTo rfl _ rfl (.agg N1.toArray) (run_execN (T := 24) rfl (by rw [List.map_toArray]; rfl) (HB1.out _)) ?_))))
  refine (CH3.out _ HK6.out.2.1).mono ?_
  rintro e w7 ⟨rfl, bb⟩
  have HK7 := Lib.hid (HK6.out.below bb (Nat.le_refl _))
  clear bb HK6
  have ht := (bk_new w7 24 ([.int .i64 0, .int .i64 0, .int .u32 0, .string ⟨#[]⟩] : List Value).toArray).there K3.toArray.size (by have := HL_K3.out; simp; omega)
  go_upto_region 13 with (((with_reducible (change wpList _ _ _ _ _ _)); ((refine wpList_store_mid rfl 24 _ _ rfl (w7.heap.size) 0 K3.toArray rfl rfl ht (by simpa using HI_K3.out) HO_K3.out ?_))))
  have HK8 := Lib.hid (HK7.out.put 24 ([.int .i64 0, .int .i64 0, .int .u32 0, .string ⟨#[]⟩] : List Value).toArray K3 (by have := HL_K3.out; simp; omega))
  clear ht HK7
  generalize (w7.alloc (.cells ([.int .i64 0, .int .i64 0, .int .u32 0, .string ⟨#[]⟩] : List Value).toArray 24)).setCells w7.heap.size 0 K3 = w8 at *
  generalize w7.heap.size = g3 at *
  go_wp2_with (((with_reducible (change wpList _ _ _ _ _ _)); ((refine Great.wpList_readTo rfl _ rfl (.agg N3.toArray) (run_execN (T := 24) rfl (by rw [List.map_toArray]; rfl) (HB3.out _)) ?_))))
  refine (CH4.out _).mono ?_
  rintro e w9 ⟨rfl, bb⟩
  have HK9 := Lib.hid (HK8.out.below bb (Nat.le_refl _))
  clear bb HK8
  have ht := (bk_new w9 24 ([.int .i64 0, .int .i64 0, .int .u32 0, .string ⟨#[]⟩] : List Value).toArray).there K4.toArray.size (by have := HL_K4.out; simp; omega)
  go_upto_region 14 with (((with_reducible (change wpList _ _ _ _ _ _)); ((refine wpList_store_mid rfl 24 _ _ rfl (w9.heap.size) 0 K4.toArray rfl rfl ht (by simpa using HI_K4.out) HO_K4.out ?_))))
  have HK10 := Lib.hid (HK9.out.put 24 ([.int .i64 0, .int .i64 0, .int .u32 0, .string ⟨#[]⟩] : List Value).toArray K4 (by have := HL_K4.out; simp; omega))
  clear ht HK9
  generalize (w9.alloc (.cells ([.int .i64 0, .int .i64 0, .int .u32 0, .string ⟨#[]⟩] : List Value).toArray 24)).setCells w9.heap.size 0 K4 = w10 at *
  generalize w9.heap.size = g4 at *
  go_wp2_with (((with_reducible (change wpList _ _ _ _ _ _)); ((refine Great.wpList_readTo rfl _ rfl (.agg N4.toArray) (run_execN (T := 24) rfl (by rw [List.map_toArray]; rfl) (HB4.out _)) ?_))))
  refine (CH5.out _).mono ?_
  rintro e w11 ⟨rfl, bb⟩
  have HK11 := Lib.hid (HK10.out.below bb (Nat.le_refl _))
  clear bb HK10
  have ht := (bk_new w11 24 ([.int .i64 0, .int .i64 0, .int .u32 0, .string ⟨#[]⟩] : List Value).toArray).there K5.toArray.size (by have := HL_K5.out; simp; omega)
  go_upto_region 15 with (((with_reducible (change wpList _ _ _ _ _ _)); ((refine wpList_store_mid rfl 24 _ _ rfl (w11.heap.size) 0 K5.toArray rfl rfl ht (by simpa using HI_K5.out) HO_K5.out ?_))))
  have HK12 := Lib.hid (HK11.out.put 24 ([.int .i64 0, .int .i64 0, .int .u32 0, .string ⟨#[]⟩] : List Value).toArray K5 (by have := HL_K5.out; simp; omega))
  clear ht HK11
  generalize (w11.alloc (.cells ([.int .i64 0, .int .i64 0, .int .u32 0, .string ⟨#[]⟩] : List Value).toArray 24)).setCells w11.heap.size 0 K5 = w12 at *
  generalize w11.heap.size = g5 at *
  have hr0 := HK12.out.tl.tl.tl.tl.hd.range
  go_wp2_with (((with_reducible (change wpList _ _ _ _ _ _)); ((refine wpList_load_mid rfl 24 _ rfl (g1) 0 rfl (K1) _ hr0 Tryd.underlying24 rfl HI_K1.out ?_))))
  clear hr0
  refine (CH6.out _).mono ?_
  rintro e w13 ⟨rfl, bb⟩
  have HK13 := Lib.hid (HK12.out.below bb (Nat.le_refl _))
  clear bb HK12
  have ht := (bk_new w13 24 ([.int .i64 0, .int .i64 0, .int .u32 0, .string ⟨#[]⟩] : List Value).toArray).there K6.toArray.size (by have := HL_K6.out; simp; omega)
  go_upto_region 16 with (((with_reducible (change wpList _ _ _ _ _ _)); ((refine wpList_store_mid rfl 24 _ _ rfl (w13.heap.size) 0 K6.toArray rfl rfl ht (by simpa using HI_K6.out) HO_K6.out ?_))))
  have HK14 := Lib.hid (HK13.out.put 24 ([.int .i64 0, .int .i64 0, .int .u32 0, .string ⟨#[]⟩] : List Value).toArray K6 (by have := HL_K6.out; simp; omega))
  clear ht HK13
  generalize (w13.alloc (.cells ([.int .i64 0, .int .i64 0, .int .u32 0, .string ⟨#[]⟩] : List Value).toArray 24)).setCells w13.heap.size 0 K6 = w14 at *
  generalize w13.heap.size = g6 at *
  go_upto_region 18 with (fail)
  have e1 : w14.cell? ⟨g1, 2, none⟩ = some (.int .u32 z1) := HK14.out.tl.tl.tl.tl.tl.hd.at HV1.out
  have e2 : w14.cell? ⟨g2, 2, none⟩ = some (.int .u32 z2) := HK14.out.tl.tl.tl.tl.hd.at HV2.out
  have e3 : w14.cell? ⟨g3, 2, none⟩ = some (.int .u32 z3) := HK14.out.tl.tl.tl.hd.at HV3.out
  have e4 : w14.cell? ⟨g4, 2, none⟩ = some (.int .u32 z4) := HK14.out.tl.tl.hd.at HV4.out
  have e5 : w14.cell? ⟨g5, 2, none⟩ = some (.int .u32 z5) := HK14.out.tl.hd.at HV5.out
  have e6 : w14.cell? ⟨g6, 2, none⟩ = some (.int .u32 z6) := HK14.out.hd.at HV6.out
  go_wp2_with (fail)
  go_ret
  refine ⟨?_, HK14.out.2.1⟩
  first | rfl | (simp; done) | (simp; omega)
theorem icmpmapMtus_any (x y p q o : Int) (w : World) (hm : Hm w) (ix : (Lit.int .u16 x).wf = true) (iy : (Lit.int .u16 y).wf = true) (ip : (Lit.int .u16 p).wf = true) (iq : (Lit.int .u16 q).wf = true) (io : (Lit.int .u16 o).wf = true) : Calls Tryd.prog 9 #[.int .u16 x, .int .u16 y, .int .u16 p, .int .u16 q, .int .u16 o] w (fun e w' => e = .returned (.bool true) ∧ Below w.heap.size w w') := by
  have ix : 0 ≤ x ∧ x ≤ 65535 := by simpa [Lit.wf, IntKind.min, IntKind.max, IntKind.signed, IntKind.bits] using ix
  have iy : 0 ≤ y ∧ y ≤ 65535 := by simpa [Lit.wf, IntKind.min, IntKind.max, IntKind.signed, IntKind.bits] using iy
  have ip : 0 ≤ p ∧ p ≤ 65535 := by simpa [Lit.wf, IntKind.min, IntKind.max, IntKind.signed, IntKind.bits] using ip
  have iq : 0 ≤ q ∧ q ≤ 65535 := by simpa [Lit.wf, IntKind.min, IntKind.max, IntKind.signed, IntKind.bits] using iq
  have io : 0 ≤ o ∧ o ≤ 65535 := by simpa [Lit.wf, IntKind.min, IntKind.max, IntKind.signed, IntKind.bits] using io
  by_cases hs : y < x
  · by_cases hz : y = 0
    · exact mtus_zs x y p q o w hm hs hz
    · by_cases h2 : max o 1280 < max q 1280
      · exact mtus_ss x y p q o w hm ix iy ip iq io hs hz h2
      · exact mtus_sn x y p q o w hm ix iy ip iq io hs hz h2
  · by_cases hz : x = 0
    · exact mtus_zn x y p q o w hm hs hz
    · by_cases h2 : max o 1280 < max q 1280
      · exact mtus_ns x y p q o w hm ix iy ip iq io hs hz h2
      · exact mtus_nn x y p q o w hm ix iy ip iq io hs hz h2
end Go.Proofs.YtnehabpdpkjaeaaDoor
