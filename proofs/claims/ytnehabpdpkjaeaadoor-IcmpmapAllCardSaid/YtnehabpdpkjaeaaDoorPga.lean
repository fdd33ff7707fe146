/-
  Proved here: what the program's To6 answers.
  Conditions: the program's list of plateaus stands.
-/
import Derived.Test.YtnehabpdpkjaeaaDoorPgp
namespace Go.Proofs.YtnehabpdpkjaeaaDoor
open Go.RowKit

theorem sd6_any (m : Mg) (w : World) (hr : 0 ≤ m.rs ∧ m.rs < 4294967296) : Calls Tryd.prog 18 #[.agg m.vals.toArray] w fun e w' => e = .returned (.tuple #[.agg (said6 m).1.vals.toArray, .bool (said6 m).2]) ∧ Below w.heap.size w w' := by
  by_cases k8 : m.kd = 8
  · by_cases c0 : m.cd = 0
    · exact sd6_k8_0 m w k8 c0
    exact sd6_k8_n m w k8 c0
  by_cases k0 : m.kd = 0
  · by_cases c0 : m.cd = 0
    · exact sd6_k0_0 m w k0 c0
    exact sd6_k0_n m w k0 c0
  by_cases k3 : m.kd = 3
  · exact sd6_k3 m w k3
  by_cases k11 : m.kd = 11
  · by_cases c0 : m.cd = 0
    · exact sd6_k11_0 m w k11 c0
    by_cases c1 : m.cd = 1
    · exact sd6_k11_1 m w k11 c1
    exact sd6_k11_n m w k11 c0 c1
  by_cases k12 : m.kd = 12
  · by_cases hp : ptr6 (m.rs / 16777216) < 0
    · exact sd6_px m w hr k12 hp
    by_cases c0 : m.cd = 0
    · exact sd6_p0 m w hr k12 hp c0
    by_cases c2 : m.cd = 2
    · exact sd6_p2 m w hr k12 hp c2
    exact sd6_pn m w hr k12 hp c0 c2
  exact sd6_no m w k8 k0 k3 k11 k12
set_option maxRecDepth 100000 in
set_option maxHeartbeats 4000000 in
theorem psix_no (m : Mg) (a b len : Int) (w : World) (hr : 0 ≤ m.rs ∧ m.rs < 4294967296) (hs : (said6 m).2 = false) : Calls Tryd.prog 11 #[.agg m.vals.toArray, .int .i64 a, .int .i64 b, .int .i64 len] w fun e w' => e = .returned (.tuple #[.agg (via6 m a b len).1.vals.toArray, .bool (via6 m a b len).2]) ∧ Below w.heap.size w w' := by
  have HS : Hid (via6 m a b len = (mg0, false)) := Lib.hid (by unfold via6; simp [hs])
  obtain ⟨VX, hVX⟩ : ∃ V, V = ((said6 m).1).vals := ⟨_, rfl⟩
  have HI_VX : Hid ((Tryd.prog.info? 24).map (·.size) = some VX.length) := Lib.hid (by rw [hVX]; exact Tryd.infoMg _)
  have HO_VX : Hid (VX.toArray.all (·.oneCell') = true) := Lib.hid (by rw [hVX]; exact mg_one _)
  have HL_VX : Hid (VX.length = 4) := Lib.hid (by rw [hVX]; rfl)
  have CA : Hid (∀ W, Calls Tryd.prog 18 #[.agg m.vals.toArray] W fun e w' => e = .returned (.tuple #[.agg VX.toArray, .bool false]) ∧ Below W.heap.size W w') := Lib.hid (fun W => by rw [hVX, ← hs]; exact sd6_any m W hr)
  clear hVX hs
  obtain ⟨V0, hV0⟩ : ∃ V, V = mg0.vals := ⟨_, rfl⟩
  have HB0 : Hid (∀ W, (Instr.build 24 #[]).run Tryd.prog W = .ok (.agg V0.toArray) W) := Lib.hid (fun W => by rw [hV0]; exact mgBuild W)
  have HI_V0 : Hid ((Tryd.prog.info? 24).map (·.size) = some V0.length) := Lib.hid (by rw [hV0]; exact Tryd.infoMg _)
  have HO_V0 : Hid (V0.toArray.all (·.oneCell') = true) := Lib.hid (by rw [hV0]; exact mg_one _)
  have HL_V0 : Hid (V0.length = 4) := Lib.hid (by rw [hV0]; rfl)
  have hz0 : V0.toArray = #[.int .i64 0, .int .i64 0, .int .u32 0, .string ⟨#[]⟩] := by rw [hV0]; rfl
  have HV0 := Lib.hid hV0
  clear hV0
  have HI_VM : Hid ((Tryd.prog.info? 24).map (·.size) = some m.vals.length) := Lib.hid (Tryd.infoMg _)
  have HM0 : Hid (m.vals[0]? = some (.int .i64 m.kd)) := Lib.hid (by exact rfl)
  have HM1 : Hid (m.vals[1]? = some (.int .i64 m.cd)) := Lib.hid (by exact rfl)
  have HM2 : Hid (m.vals[2]? = some (.int .u32 m.rs)) := Lib.hid (by exact rfl)
  have HM3 : Hid (m.vals[3]? = some (.string m.da)) := Lib.hid (by exact rfl)
  have HK1 : Hid (Kp w w.heap.size [(w.heap.size + 1, 24, V0), (w.heap.size, 24, m.vals)] ((w.alloc (.cells m.vals.toArray 24)).alloc (.cells V0.toArray 24))) := Lib.hid (by
    have h := (Kp.start w).new 24 m.vals
    have e1 : (w.alloc (.cells m.vals.toArray 24)).heap.size = w.heap.size + 1 := by simp
    have h2 := h.new 24 V0
    rwa [e1] at h2)
  generalize m.vals = VM at *
  generalize hw1 : (w.alloc (.cells VM.toArray 24)).alloc (.cells V0.toArray 24) = w1 at *
  rw [hz0] at hw1
  go_enter Tryd.func11, Tryd.ntmps11
  go_upto_region 1 with (fail)
  clear hw1 hz0
  have hr0 := HK1.out.tl.hd.range
  go_wp2_with (((with_reducible (change wpList _ _ _ _ _ _)); ((refine wpList_load_mid rfl 24 _ rfl (w.heap.size) 0 rfl (VM) _ hr0 Tryd.underlying24 rfl HI_VM.out ?_))))
  clear hr0
  refine (CA.out _).mono ?_
  rintro e w2 ⟨rfl, bb⟩
  have HK2 := Lib.hid (HK1.out.below bb (Nat.le_refl _))
  clear bb HK1
  have ht := (bk_new w2 24 ([.int .i64 0, .int .i64 0, .int .u32 0, .string ⟨#[]⟩] : List Value).toArray).there VX.toArray.size (by have := HL_VX.out; simp; omega)
  go_upto_region 2 with (((with_reducible (change wpList _ _ _ _ _ _)); ((refine wpList_store_mid rfl 24 _ _ rfl (w2.heap.size) 0 VX.toArray rfl rfl ht (by simpa using HI_VX.out) HO_VX.out ?_))))
  have HK3 := Lib.hid (HK2.out.put 24 ([.int .i64 0, .int .i64 0, .int .u32 0, .string ⟨#[]⟩] : List Value).toArray VX (by have := HL_VX.out; simp; omega))
  clear ht HK2
  generalize (w2.alloc (.cells ([.int .i64 0, .int .i64 0, .int .u32 0, .string ⟨#[]⟩] : List Value).toArray 24)).setCells w2.heap.size 0 VX = w3 at *
  generalize w2.heap.size = g1 at *
  go_upto_region 3 with (fail)
  have hkc := HK3.out.tl.hd
  have htf := hkc.there V0.toArray.size (Nat.le_refl _)
  go_wp2_with (((with_reducible (change wpList _ _ _ _ _ _)); (first | (refine Great.wpList_readTo rfl _ rfl (.agg V0.toArray) (run_execN (T := 24) (l := #[]) (m := #[]) rfl (by simp) (HB0.out _)) ?_) | (refine wpList_store_mid rfl 24 _ _ rfl (w.heap.size + 1) 0 V0.toArray rfl rfl htf (by simpa using HI_V0.out) HO_V0.out ?_))))
  have hk5 := Bk.sets V0 0 _ _ hkc
  rw [puts_whole V0.toArray V0 (by simp)] at hk5
  refine bodyPost_ret (v := .tuple #[.agg V0.toArray, .bool false]) ?_ rfl ?_
  · exact results_cell2 rfl rfl rfl (run_loadVar_mid _ (w.heap.size + 1) 0 24 V0 _ hk5.range Tryd.underlying24 rfl HI_V0.out)
  · rw [HS.out]
    exact ⟨by rw [HV0.out], below_sets _ (by omega) 0 _ HK3.out.2.1⟩
set_option maxRecDepth 100000 in
set_option maxHeartbeats 4000000 in
theorem psix_mtu (m : Mg) (a b len : Int) (w : World) (hr : 0 ≤ m.rs ∧ m.rs < 4294967296) (hs : (said6 m).2 = true) (hb : mtus a b = false) : Calls Tryd.prog 11 #[.agg m.vals.toArray, .int .i64 a, .int .i64 b, .int .i64 len] w fun e w' => e = .returned (.tuple #[.agg (via6 m a b len).1.vals.toArray, .bool (via6 m a b len).2]) ∧ Below w.heap.size w w' := by
  have HS : Hid (via6 m a b len = (mg0, false)) := Lib.hid (by unfold via6; simp [hb])
  obtain ⟨VX, hVX⟩ : ∃ V, V = ((said6 m).1).vals := ⟨_, rfl⟩
  have HI_VX : Hid ((Tryd.prog.info? 24).map (·.size) = some VX.length) := Lib.hid (by rw [hVX]; exact Tryd.infoMg _)
  have HO_VX : Hid (VX.toArray.all (·.oneCell') = true) := Lib.hid (by rw [hVX]; exact mg_one _)
  have HL_VX : Hid (VX.length = 4) := Lib.hid (by rw [hVX]; rfl)
  have CA : Hid (∀ W, Calls Tryd.prog 18 #[.agg m.vals.toArray] W fun e w' => e = .returned (.tuple #[.agg VX.toArray, .bool true]) ∧ Below W.heap.size W w') := Lib.hid (fun W => by rw [hVX, ← hs]; exact sd6_any m W hr)
  have CR : Hid (∀ W, Calls Tryd.prog 19 #[.int .i64 a, .int .i64 b] W fun e w' => e = .returned (.bool false) ∧ Below W.heap.size W w') := Lib.hid (fun W => (right_any a b W).mono (fun e w' ⟨x, y⟩ => ⟨by rw [x, hb], y ▸ Below.refl _ _⟩))
  clear hVX hs hb
  obtain ⟨V0, hV0⟩ : ∃ V, V = mg0.vals := ⟨_, rfl⟩
  have HB0 : Hid (∀ W, (Instr.build 24 #[]).run Tryd.prog W = .ok (.agg V0.toArray) W) := Lib.hid (fun W => by rw [hV0]; exact mgBuild W)
  have HI_V0 : Hid ((Tryd.prog.info? 24).map (·.size) = some V0.length) := Lib.hid (by rw [hV0]; exact Tryd.infoMg _)
  have HO_V0 : Hid (V0.toArray.all (·.oneCell') = true) := Lib.hid (by rw [hV0]; exact mg_one _)
  have HL_V0 : Hid (V0.length = 4) := Lib.hid (by rw [hV0]; rfl)
  have hz0 : V0.toArray = #[.int .i64 0, .int .i64 0, .int .u32 0, .string ⟨#[]⟩] := by rw [hV0]; rfl
  have HV0 := Lib.hid hV0
  clear hV0
  have HI_VM : Hid ((Tryd.prog.info? 24).map (·.size) = some m.vals.length) := Lib.hid (Tryd.infoMg _)
  have HM0 : Hid (m.vals[0]? = some (.int .i64 m.kd)) := Lib.hid (by exact rfl)
  have HM1 : Hid (m.vals[1]? = some (.int .i64 m.cd)) := Lib.hid (by exact rfl)
  have HM2 : Hid (m.vals[2]? = some (.int .u32 m.rs)) := Lib.hid (by exact rfl)
  have HM3 : Hid (m.vals[3]? = some (.string m.da)) := Lib.hid (by exact rfl)
  have HK1 : Hid (Kp w w.heap.size [(w.heap.size + 1, 24, V0), (w.heap.size, 24, m.vals)] ((w.alloc (.cells m.vals.toArray 24)).alloc (.cells V0.toArray 24))) := Lib.hid (by
    have h := (Kp.start w).new 24 m.vals
    have e1 : (w.alloc (.cells m.vals.toArray 24)).heap.size = w.heap.size + 1 := by simp
    have h2 := h.new 24 V0
    rwa [e1] at h2)
  generalize m.vals = VM at *
  generalize hw1 : (w.alloc (.cells VM.toArray 24)).alloc (.cells V0.toArray 24) = w1 at *
  rw [hz0] at hw1
  go_enter Tryd.func11, Tryd.ntmps11
  go_upto_region 1 with (fail)
  clear hw1 hz0
  have hr0 := HK1.out.tl.hd.range
  go_wp2_with (((with_reducible (change wpList _ _ _ _ _ _)); ((refine wpList_load_mid rfl 24 _ rfl (w.heap.size) 0 rfl (VM) _ hr0 Tryd.underlying24 rfl HI_VM.out ?_))))
  clear hr0
  refine (CA.out _).mono ?_
  rintro e w2 ⟨rfl, bb⟩
  have HK2 := Lib.hid (HK1.out.below bb (Nat.le_refl _))
  clear bb HK1
  have ht := (bk_new w2 24 ([.int .i64 0, .int .i64 0, .int .u32 0, .string ⟨#[]⟩] : List Value).toArray).there VX.toArray.size (by have := HL_VX.out; simp; omega)
  go_upto_region 2 with (((with_reducible (change wpList _ _ _ _ _ _)); ((refine wpList_store_mid rfl 24 _ _ rfl (w2.heap.size) 0 VX.toArray rfl rfl ht (by simpa using HI_VX.out) HO_VX.out ?_))))
  have HK3 := Lib.hid (HK2.out.put 24 ([.int .i64 0, .int .i64 0, .int .u32 0, .string ⟨#[]⟩] : List Value).toArray VX (by have := HL_VX.out; simp; omega))
  clear ht HK2
  generalize (w2.alloc (.cells ([.int .i64 0, .int .i64 0, .int .u32 0, .string ⟨#[]⟩] : List Value).toArray 24)).setCells w2.heap.size 0 VX = w3 at *
  generalize w2.heap.size = g1 at *
  go_wp2_with (fail)
  refine (CR.out _).mono ?_
  rintro e w4 ⟨rfl, bb⟩
  have HK4 := Lib.hid (HK3.out.below bb (Nat.le_refl _))
  clear bb HK3
  go_upto_region 3 with (fail)
  have hkc := HK4.out.tl.hd
  have htf := hkc.there V0.toArray.size (Nat.le_refl _)
  go_wp2_with (((with_reducible (change wpList _ _ _ _ _ _)); (first | (refine Great.wpList_readTo rfl _ rfl (.agg V0.toArray) (run_execN (T := 24) (l := #[]) (m := #[]) rfl (by simp) (HB0.out _)) ?_) | (refine wpList_store_mid rfl 24 _ _ rfl (w.heap.size + 1) 0 V0.toArray rfl rfl htf (by simpa using HI_V0.out) HO_V0.out ?_))))
  have hk5 := Bk.sets V0 0 _ _ hkc
  rw [puts_whole V0.toArray V0 (by simp)] at hk5
  refine bodyPost_ret (v := .tuple #[.agg V0.toArray, .bool false]) ?_ rfl ?_
  · exact results_cell2 rfl rfl rfl (run_loadVar_mid _ (w.heap.size + 1) 0 24 V0 _ hk5.range Tryd.underlying24 rfl HI_V0.out)
  · rw [HS.out]
    exact ⟨by rw [HV0.out], below_sets _ (by omega) 0 _ HK4.out.2.1⟩
set_option maxRecDepth 100000 in
set_option maxHeartbeats 4000000 in
theorem psix_told (m : Mg) (a b len : Int) (w : World) (hr : 0 ≤ m.rs ∧ m.rs < 4294967296) (hs : (said6 m).2 = true) (hb : mtus a b = true) (h2 : (said6 m).1.kd = 2) (hm : Hm w) : Calls Tryd.prog 11 #[.agg m.vals.toArray, .int .i64 a, .int .i64 b, .int .i64 len] w fun e w' => e = .returned (.tuple #[.agg (via6 m a b len).1.vals.toArray, .bool (via6 m a b len).2]) ∧ Below w.heap.size w w' := by
  have HS : Hid (via6 m a b len = ((⟨(said6 m).1.kd, (said6 m).1.cd, (told6 m.rs a b len), m.da⟩ : Mg), true)) := Lib.hid (by unfold via6; rw [hs, hb, if_pos ⟨rfl, rfl⟩, if_pos h2])
  obtain ⟨VX, hVX⟩ : ∃ V, V = ((said6 m).1).vals := ⟨_, rfl⟩
  have HI_VX : Hid ((Tryd.prog.info? 24).map (·.size) = some VX.length) := Lib.hid (by rw [hVX]; exact Tryd.infoMg _)
  have HO_VX : Hid (VX.toArray.all (·.oneCell') = true) := Lib.hid (by rw [hVX]; exact mg_one _)
  have HL_VX : Hid (VX.length = 4) := Lib.hid (by rw [hVX]; rfl)
  have CA : Hid (∀ W, Calls Tryd.prog 18 #[.agg m.vals.toArray] W fun e w' => e = .returned (.tuple #[.agg VX.toArray, .bool true]) ∧ Below W.heap.size W w') := Lib.hid (fun W => by rw [hVX, ← hs]; exact sd6_any m W hr)
  have CR : Hid (∀ W, Calls Tryd.prog 19 #[.int .i64 a, .int .i64 b] W fun e w' => e = .returned (.bool true) ∧ Below W.heap.size W w') := Lib.hid (fun W => (right_any a b W).mono (fun e w' ⟨x, y⟩ => ⟨by rw [x, hb], y ▸ Below.refl _ _⟩))
  obtain ⟨VR, hVR⟩ : ∃ V, V = ((⟨(said6 m).1.kd, (said6 m).1.cd, (told6 m.rs a b len), m.da⟩ : Mg)).vals := ⟨_, rfl⟩
  have HI_VR : Hid ((Tryd.prog.info? 24).map (·.size) = some VR.length) := Lib.hid (by rw [hVR]; exact Tryd.infoMg _)
  have HO_VR : Hid (VR.toArray.all (·.oneCell') = true) := Lib.hid (by rw [hVR]; exact mg_one _)
  have HL_VR : Hid (VR.length = 4) := Lib.hid (by rw [hVR]; rfl)
  obtain ⟨q0, q1, q2, q3⟩ := mtus_iff.1 hb
  have kq := told6_in (rs := m.rs) (a := a) (len := len) q2
  have kN : IntKind.u32.wrap (told6 m.rs a b len) = (told6 m.rs a b len) := by rw [IntKind.wrap_u32]; omega
  have CT : Hid (∀ W, Below w.heap.size w W → Calls Tryd.prog 20 #[.agg m.vals.toArray, .int .i64 a, .int .i64 b, .int .i64 len] W fun e w' => e = .returned (.int .i64 (told6 m.rs a b len)) ∧ Below W.heap.size W w') := Lib.hid (fun W hW => ptold6_any m a b len W hb (hm.below hW))
  have HE1 : Hid (VX.set 2 (.int .u32 (told6 m.rs a b len)) = [.int .i64 (said6 m).1.kd, .int .i64 (said6 m).1.cd, .int .u32 (told6 m.rs a b len), .string (said6 m).1.da]) := Lib.hid (by rw [hVX]; rfl)
  have HE2 : Hid (List.set [.int .i64 (said6 m).1.kd, .int .i64 (said6 m).1.cd, .int .u32 (told6 m.rs a b len), .string (said6 m).1.da] 3 (.string m.da) = VR) := Lib.hid (by rw [hVR]; rfl)
  generalize ([.int .i64 (said6 m).1.kd, .int .i64 (said6 m).1.cd, .int .u32 (told6 m.rs a b len), .string (said6 m).1.da] : List Value) = VQ at *
  have HL_VQ : Hid (VQ.length = 4) := Lib.hid (by rw [← HE1.out, List.length_set]; exact HL_VX.out)
  have HF0 : Hid (VX[0]? = some (.int .i64 2)) := Lib.hid (by rw [hVX, ← h2]; rfl)
  have HR := Lib.hid hVR
  clear hVX hs hb hVR q0 q1 q2 q3 kq
  generalize hT : (told6 m.rs a b len) = T at *
  obtain ⟨V0, hV0⟩ : ∃ V, V = mg0.vals := ⟨_, rfl⟩
  have HB0 : Hid (∀ W, (Instr.build 24 #[]).run Tryd.prog W = .ok (.agg V0.toArray) W) := Lib.hid (fun W => by rw [hV0]; exact mgBuild W)
  have HI_V0 : Hid ((Tryd.prog.info? 24).map (·.size) = some V0.length) := Lib.hid (by rw [hV0]; exact Tryd.infoMg _)
  have HO_V0 : Hid (V0.toArray.all (·.oneCell') = true) := Lib.hid (by rw [hV0]; exact mg_one _)
  have HL_V0 : Hid (V0.length = 4) := Lib.hid (by rw [hV0]; rfl)
  have hz0 : V0.toArray = #[.int .i64 0, .int .i64 0, .int .u32 0, .string ⟨#[]⟩] := by rw [hV0]; rfl
  have HV0 := Lib.hid hV0
  clear hV0
  have HI_VM : Hid ((Tryd.prog.info? 24).map (·.size) = some m.vals.length) := Lib.hid (Tryd.infoMg _)
  have HM0 : Hid (m.vals[0]? = some (.int .i64 m.kd)) := Lib.hid (by exact rfl)
  have HM1 : Hid (m.vals[1]? = some (.int .i64 m.cd)) := Lib.hid (by exact rfl)
  have HM2 : Hid (m.vals[2]? = some (.int .u32 m.rs)) := Lib.hid (by exact rfl)
  have HM3 : Hid (m.vals[3]? = some (.string m.da)) := Lib.hid (by exact rfl)
  have HK1 : Hid (Kp w w.heap.size [(w.heap.size + 1, 24, V0), (w.heap.size, 24, m.vals)] ((w.alloc (.cells m.vals.toArray 24)).alloc (.cells V0.toArray 24))) := Lib.hid (by
    have h := (Kp.start w).new 24 m.vals
    have e1 : (w.alloc (.cells m.vals.toArray 24)).heap.size = w.heap.size + 1 := by simp
    have h2 := h.new 24 V0
    rwa [e1] at h2)
  generalize m.vals = VM at *
  generalize hw1 : (w.alloc (.cells VM.toArray 24)).alloc (.cells V0.toArray 24) = w1 at *
  rw [hz0] at hw1
  go_enter Tryd.func11, Tryd.ntmps11
  go_upto_region 1 with (fail)
  clear hw1 hz0
  have hr0 := HK1.out.tl.hd.range
  go_wp2_with (((with_reducible (change wpList _ _ _ _ _ _)); ((refine wpList_load_mid rfl 24 _ rfl (w.heap.size) 0 rfl (VM) _ hr0 Tryd.underlying24 rfl HI_VM.out ?_))))
  clear hr0
  refine (CA.out _).mono ?_
  rintro e w2 ⟨rfl, bb⟩
  have HK2 := Lib.hid (HK1.out.below bb (Nat.le_refl _))
  clear bb HK1
  have HGs : Hid (w.heap.size + 1 < w2.heap.size) := Lib.hid HK2.out.hd.lt
  have ht := (bk_new w2 24 ([.int .i64 0, .int .i64 0, .int .u32 0, .string ⟨#[]⟩] : List Value).toArray).there VX.toArray.size (by have := HL_VX.out; simp; omega)
  go_upto_region 2 with (((with_reducible (change wpList _ _ _ _ _ _)); ((refine wpList_store_mid rfl 24 _ _ rfl (w2.heap.size) 0 VX.toArray rfl rfl ht (by simpa using HI_VX.out) HO_VX.out ?_))))
  have HK3 := Lib.hid (HK2.out.put 24 ([.int .i64 0, .int .i64 0, .int .u32 0, .string ⟨#[]⟩] : List Value).toArray VX (by have := HL_VX.out; simp; omega))
  clear ht HK2
  generalize (w2.alloc (.cells ([.int .i64 0, .int .i64 0, .int .u32 0, .string ⟨#[]⟩] : List Value).toArray 24)).setCells w2.heap.size 0 VX = w3 at *
  generalize w2.heap.size = g1 at *
  have HNE : Hid ((∀ x ∈ ([(w.heap.size + 1, 24, V0), (w.heap.size, 24, VM)] : List (Nat × TypeId × List Value)), x.1 ≠ g1) ∧ w.heap.size ≤ g1) := Lib.hid (by
    have hg := HGs.out
    refine ⟨fun x hx => ?_, by omega⟩
    simp only [List.mem_cons, List.not_mem_nil, or_false] at hx
    rcases hx with rfl | rfl <;> (show _ ≠ g1; omega))
  go_wp2_with (fail)
  refine (CR.out _).mono ?_
  rintro e w4 ⟨rfl, bb⟩
  have HK4 := Lib.hid (HK3.out.below bb (Nat.le_refl _))
  clear bb HK3
  have k0 : w4.cell? ⟨g1, 0, none⟩ = some (.int .i64 2) := HK4.out.hd.at HF0.out
  go_upto_region 5 with (fail)
  clear k0
  have hr0 := HK4.out.tl.tl.hd.range
  go_wp2_with (((with_reducible (change wpList _ _ _ _ _ _)); ((refine wpList_load_mid rfl 24 _ rfl (w.heap.size) 0 rfl (VM) _ hr0 Tryd.underlying24 rfl HI_VM.out ?_))))
  clear hr0
  refine (CT.out _ HK4.out.2.1).mono ?_
  rintro e w5 ⟨rfl, bb⟩
  have HK5 := Lib.hid (HK4.out.below bb (Nat.le_refl _))
  clear bb HK4
  obtain ⟨uu, hu, hz⟩ := HK5.out.some1 2 (by have := HL_VX.out; omega)
  go_upto_region 6 with (fail)
  have hk := HK5.out.set1 HNE.out.1 HNE.out.2 2 (.int .u32 T)
  rw [HE1.out] at hk
  have HK6 := Lib.hid hk
  clear hk hu hz HK5
  generalize w5.setCell ⟨g1, 2, none⟩ (.int .u32 T) = w6 at *
  obtain ⟨uu, hu, hz⟩ := HK6.out.some1 3 (by have := HL_VQ.out; omega)
  have c3 : w6.cell? ⟨w.heap.size, 3, none⟩ = some (.string m.da) := HK6.out.tl.tl.hd.at HM3.out
  go_upto_region 7 with (fail)
  have hk := HK6.out.set1 HNE.out.1 HNE.out.2 3 (.string m.da)
  rw [HE2.out] at hk
  have HK7 := Lib.hid hk
  clear hk hu hz HK6 c3
  generalize w6.setCell ⟨g1, 3, none⟩ (.string m.da) = w7 at *
  have hr0 := HK7.out.hd.range
  have hkc := HK7.out.tl.hd
  have htf := hkc.there VR.toArray.size (by have := HL_V0.out; have := HL_VR.out; simp; omega)
  go_wp2_with (((with_reducible (change wpList _ _ _ _ _ _)); (first | (refine wpList_load_mid rfl 24 _ rfl (g1) 0 rfl (VR) _ hr0 Tryd.underlying24 rfl HI_VR.out ?_) | (refine wpList_store_mid rfl 24 _ _ rfl (w.heap.size + 1) 0 VR.toArray rfl rfl htf (by simpa using HI_VR.out) HO_VR.out ?_))))
  have hk5 := Bk.sets VR 0 _ _ hkc
  rw [puts_whole V0.toArray VR (by have := HL_V0.out; have := HL_VR.out; simp; omega)] at hk5
  refine bodyPost_ret (v := .tuple #[.agg VR.toArray, .bool true]) ?_ rfl ?_
  · exact results_cell2 rfl rfl rfl (run_loadVar_mid _ (w.heap.size + 1) 0 24 VR _ hk5.range Tryd.underlying24 rfl HI_VR.out)
  · rw [HS.out, ← HR.out]
    exact ⟨rfl, below_sets _ (by omega) 0 _ HK7.out.2.1⟩
set_option maxRecDepth 100000 in
set_option maxHeartbeats 4000000 in
theorem psix_full (m : Mg) (a b len : Int) (w : World) (hr : 0 ≤ m.rs ∧ m.rs < 4294967296) (hs : (said6 m).2 = true) (hb : mtus a b = true) (h2 : (said6 m).1.kd ≠ 2) : Calls Tryd.prog 11 #[.agg m.vals.toArray, .int .i64 a, .int .i64 b, .int .i64 len] w fun e w' => e = .returned (.tuple #[.agg (via6 m a b len).1.vals.toArray, .bool (via6 m a b len).2]) ∧ Below w.heap.size w w' := by
  have HS : Hid (via6 m a b len = ((⟨(said6 m).1.kd, (said6 m).1.cd, (said6 m).1.rs, m.da⟩ : Mg), true)) := Lib.hid (by unfold via6; rw [hs, hb, if_pos ⟨rfl, rfl⟩, if_neg h2])
  obtain ⟨VX, hVX⟩ : ∃ V, V = ((said6 m).1).vals := ⟨_, rfl⟩
  have HI_VX : Hid ((Tryd.prog.info? 24).map (·.size) = some VX.length) := Lib.hid (by rw [hVX]; exact Tryd.infoMg _)
  have HO_VX : Hid (VX.toArray.all (·.oneCell') = true) := Lib.hid (by rw [hVX]; exact mg_one _)
  have HL_VX : Hid (VX.length = 4) := Lib.hid (by rw [hVX]; rfl)
  have CA : Hid (∀ W, Calls Tryd.prog 18 #[.agg m.vals.toArray] W fun e w' => e = .returned (.tuple #[.agg VX.toArray, .bool true]) ∧ Below W.heap.size W w') := Lib.hid (fun W => by rw [hVX, ← hs]; exact sd6_any m W hr)
  have CR : Hid (∀ W, Calls Tryd.prog 19 #[.int .i64 a, .int .i64 b] W fun e w' => e = .returned (.bool true) ∧ Below W.heap.size W w') := Lib.hid (fun W => (right_any a b W).mono (fun e w' ⟨x, y⟩ => ⟨by rw [x, hb], y ▸ Below.refl _ _⟩))
  obtain ⟨VR, hVR⟩ : ∃ V, V = ((⟨(said6 m).1.kd, (said6 m).1.cd, (said6 m).1.rs, m.da⟩ : Mg)).vals := ⟨_, rfl⟩
  have HI_VR : Hid ((Tryd.prog.info? 24).map (·.size) = some VR.length) := Lib.hid (by rw [hVR]; exact Tryd.infoMg _)
  have HO_VR : Hid (VR.toArray.all (·.oneCell') = true) := Lib.hid (by rw [hVR]; exact mg_one _)
  have HL_VR : Hid (VR.length = 4) := Lib.hid (by rw [hVR]; rfl)
  have HE2 : Hid (VX.set 3 (.string m.da) = VR) := Lib.hid (by rw [hVX, hVR]; rfl)
  have HL_VQ := HL_VX
  have HF0 : Hid (VX[0]? = some (.int .i64 (said6 m).1.kd)) := Lib.hid (by rw [hVX]; rfl)
  have e2 : ((said6 m).1.kd == 2) = false := by rw [beq_eq_false_iff_ne]; exact h2
  have HR := Lib.hid hVR
  clear hVX hs hb hVR
  obtain ⟨V0, hV0⟩ : ∃ V, V = mg0.vals := ⟨_, rfl⟩
  have HB0 : Hid (∀ W, (Instr.build 24 #[]).run Tryd.prog W = .ok (.agg V0.toArray) W) := Lib.hid (fun W => by rw [hV0]; exact mgBuild W)
  have HI_V0 : Hid ((Tryd.prog.info? 24).map (·.size) = some V0.length) := Lib.hid (by rw [hV0]; exact Tryd.infoMg _)
  have HO_V0 : Hid (V0.toArray.all (·.oneCell') = true) := Lib.hid (by rw [hV0]; exact mg_one _)
  have HL_V0 : Hid (V0.length = 4) := Lib.hid (by rw [hV0]; rfl)
  have hz0 : V0.toArray = #[.int .i64 0, .int .i64 0, .int .u32 0, .string ⟨#[]⟩] := by rw [hV0]; rfl
  have HV0 := Lib.hid hV0
  clear hV0
  have HI_VM : Hid ((Tryd.prog.info? 24).map (·.size) = some m.vals.length) := Lib.hid (Tryd.infoMg _)
  have HM0 : Hid (m.vals[0]? = some (.int .i64 m.kd)) := Lib.hid (by exact rfl)
  have HM1 : Hid (m.vals[1]? = some (.int .i64 m.cd)) := Lib.hid (by exact rfl)
  have HM2 : Hid (m.vals[2]? = some (.int .u32 m.rs)) := Lib.hid (by exact rfl)
  have HM3 : Hid (m.vals[3]? = some (.string m.da)) := Lib.hid (by exact rfl)
  have HK1 : Hid (Kp w w.heap.size [(w.heap.size + 1, 24, V0), (w.heap.size, 24, m.vals)] ((w.alloc (.cells m.vals.toArray 24)).alloc (.cells V0.toArray 24))) := Lib.hid (by
    have h := (Kp.start w).new 24 m.vals
    have e1 : (w.alloc (.cells m.vals.toArray 24)).heap.size = w.heap.size + 1 := by simp
    have h2 := h.new 24 V0
    rwa [e1] at h2)
  generalize m.vals = VM at *
  generalize hw1 : (w.alloc (.cells VM.toArray 24)).alloc (.cells V0.toArray 24) = w1 at *
  rw [hz0] at hw1
  go_enter Tryd.func11, Tryd.ntmps11
  go_upto_region 1 with (fail)
  clear hw1 hz0
  have hr0 := HK1.out.tl.hd.range
  go_wp2_with (((with_reducible (change wpList _ _ _ _ _ _)); ((refine wpList_load_mid rfl 24 _ rfl (w.heap.size) 0 rfl (VM) _ hr0 Tryd.underlying24 rfl HI_VM.out ?_))))
  clear hr0
  refine (CA.out _).mono ?_
  rintro e w2 ⟨rfl, bb⟩
  have HK2 := Lib.hid (HK1.out.below bb (Nat.le_refl _))
  clear bb HK1
  have HGs : Hid (w.heap.size + 1 < w2.heap.size) := Lib.hid HK2.out.hd.lt
  have ht := (bk_new w2 24 ([.int .i64 0, .int .i64 0, .int .u32 0, .string ⟨#[]⟩] : List Value).toArray).there VX.toArray.size (by have := HL_VX.out; simp; omega)
  go_upto_region 2 with (((with_reducible (change wpList _ _ _ _ _ _)); ((refine wpList_store_mid rfl 24 _ _ rfl (w2.heap.size) 0 VX.toArray rfl rfl ht (by simpa using HI_VX.out) HO_VX.out ?_))))
  have HK3 := Lib.hid (HK2.out.put 24 ([.int .i64 0, .int .i64 0, .int .u32 0, .string ⟨#[]⟩] : List Value).toArray VX (by have := HL_VX.out; simp; omega))
  clear ht HK2
  generalize (w2.alloc (.cells ([.int .i64 0, .int .i64 0, .int .u32 0, .string ⟨#[]⟩] : List Value).toArray 24)).setCells w2.heap.size 0 VX = w3 at *
  generalize w2.heap.size = g1 at *
  have HNE : Hid ((∀ x ∈ ([(w.heap.size + 1, 24, V0), (w.heap.size, 24, VM)] : List (Nat × TypeId × List Value)), x.1 ≠ g1) ∧ w.heap.size ≤ g1) := Lib.hid (by
    have hg := HGs.out
    refine ⟨fun x hx => ?_, by omega⟩
    simp only [List.mem_cons, List.not_mem_nil, or_false] at hx
    rcases hx with rfl | rfl <;> (show _ ≠ g1; omega))
  go_wp2_with (fail)
  refine (CR.out _).mono ?_
  rintro e w4 ⟨rfl, bb⟩
  have HK4 := Lib.hid (HK3.out.below bb (Nat.le_refl _))
  clear bb HK3
  have k0 : w4.cell? ⟨g1, 0, none⟩ = some (.int .i64 (said6 m).1.kd) := HK4.out.hd.at HF0.out
  go_upto_region 6 with (fail)
  clear k0
  obtain ⟨uu, hu, hz⟩ := HK4.out.some1 3 (by have := HL_VQ.out; omega)
  have c3 : w4.cell? ⟨w.heap.size, 3, none⟩ = some (.string m.da) := HK4.out.tl.tl.hd.at HM3.out
  go_upto_region 7 with (fail)
  have hk := HK4.out.set1 HNE.out.1 HNE.out.2 3 (.string m.da)
  rw [HE2.out] at hk
  have HK5 := Lib.hid hk
  clear hk hu hz HK4 c3
  generalize w4.setCell ⟨g1, 3, none⟩ (.string m.da) = w5 at *
  have hr0 := HK5.out.hd.range
  have hkc := HK5.out.tl.hd
  have htf := hkc.there VR.toArray.size (by have := HL_V0.out; have := HL_VR.out; simp; omega)
  go_wp2_with (((with_reducible (change wpList _ _ _ _ _ _)); (first | (refine wpList_load_mid rfl 24 _ rfl (g1) 0 rfl (VR) _ hr0 Tryd.underlying24 rfl HI_VR.out ?_) | (refine wpList_store_mid rfl 24 _ _ rfl (w.heap.size + 1) 0 VR.toArray rfl rfl htf (by simpa using HI_VR.out) HO_VR.out ?_))))
  have hk5 := Bk.sets VR 0 _ _ hkc
  rw [puts_whole V0.toArray VR (by have := HL_V0.out; have := HL_VR.out; simp; omega)] at hk5
  refine bodyPost_ret (v := .tuple #[.agg VR.toArray, .bool true]) ?_ rfl ?_
  · exact results_cell2 rfl rfl rfl (run_loadVar_mid _ (w.heap.size + 1) 0 24 VR _ hk5.range Tryd.underlying24 rfl HI_VR.out)
  · rw [HS.out, ← HR.out]
    exact ⟨rfl, below_sets _ (by omega) 0 _ HK5.out.2.1⟩
theorem psix_any (m : Mg) (a b len : Int) (w : World) (hr : 0 ≤ m.rs ∧ m.rs < 4294967296) (hm : Hm w := by assumption) : Calls Tryd.prog 11 #[.agg m.vals.toArray, .int .i64 a, .int .i64 b, .int .i64 len] w fun e w' => e = .returned (.tuple #[.agg (six m a b len).1.vals.toArray, .bool (six m a b len).2]) ∧ Below w.heap.size w w' := by
  rw [six_via]
  cases hs : (said6 m).2
  · exact psix_no m a b len w hr hs
  cases hb : mtus a b
  · exact psix_mtu m a b len w hr hs hb
  by_cases h2 : (said6 m).1.kd = 2
  · exact psix_told m a b len w hr hs hb h2 hm
  · exact psix_full m a b len w hr hs hb h2
end Go.Proofs.YtnehabpdpkjaeaaDoor
