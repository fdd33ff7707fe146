/-
  Proved here: what the program's parameters4 and said4 answer, in one.
  Conditions: none.
-/
import Derived.Test.YtnehabpdpkjaeaaDoorPc
namespace Go.Proofs.YtnehabpdpkjaeaaDoor
open Go.RowKit

theorem pp_fst (x : Int) : (pp x).1 = if x < 0 then 0 else x := by unfold pp; split <;> rfl
theorem pp_snd (x : Int) : (pp x).2 = decide (0 ≤ x) := by unfold pp; split <;> simp <;> omega
set_option maxRecDepth 100000 in
set_option maxHeartbeats 4000000 in
theorem par4_c0 (m : Mg) (w : World) (hr : 0 ≤ m.rs ∧ m.rs < 4294967296) (h2 : m.cd = 0) : Calls Tryd.prog 29 #[.agg m.vals.toArray] w fun e w' => e = .returned (.tuple #[.agg (par4 m).1.vals.toArray, .bool (par4 m).2]) ∧ Below w.heap.size w w' := by
  have HS : Hid (par4 m = (⟨12, 0, (pp (ptr4 m.rs)).1 * 16777216, ⟨#[]⟩⟩, (pp (ptr4 m.rs)).2)) := Lib.hid (by unfold par4; rw [if_pos h2])
  have CA : Hid (∀ W, Calls Tryd.prog 30 #[.int .u32 m.rs] W fun e w' => e = .returned (.tuple #[.int .u32 (pp (ptr4 m.rs)).1, .bool (pp (ptr4 m.rs)).2]) ∧ Below W.heap.size W w') := Lib.hid (fun W => (pt4_any m.rs W hr.1).mono (fun e w' ⟨a, b⟩ => ⟨a, b ▸ Below.refl _ _⟩))
  have kX : 0 ≤ (pp (ptr4 m.rs)).1 ∧ (pp (ptr4 m.rs)).1 ≤ 16 := by rw [pp_fst]; unfold ptr4; omega
  generalize (pp (ptr4 m.rs)).1 = X at *
  generalize (pp (ptr4 m.rs)).2 = ok at *
  have kN : IntKind.u32.wrap (X * 16777216) = X * 16777216 := by rw [IntKind.wrap_u32]; omega
  obtain ⟨V0, hV0⟩ : ∃ V, V = mg0.vals := ⟨_, rfl⟩
  have HB0 : Hid (∀ W, (Instr.build 24 #[]).run Tryd.prog W = .ok (.agg V0.toArray) W) := Lib.hid (fun W => by rw [hV0]; exact mgBuild W)
  have HI_V0 : Hid ((Tryd.prog.info? 24).map (·.size) = some V0.length) := Lib.hid (by rw [hV0]; exact Tryd.infoMg _)
  have HO_V0 : Hid (V0.toArray.all (·.oneCell') = true) := Lib.hid (by rw [hV0]; exact mg_one _)
  have HL_V0 : Hid (V0.length = 4) := Lib.hid (by rw [hV0]; rfl)
  have hz0 : V0.toArray = #[.int .i64 0, .int .i64 0, .int .u32 0, .string ⟨#[]⟩] := by rw [hV0]; rfl
  have HV0 := Lib.hid hV0
  clear hV0
  have HI_VM : Hid ((Tryd.prog.info? 24).map (·.size) = some m.vals.length) := Lib.hid (Tryd.infoMg _)
  have HM0 : Hid (m.vals[0]? = some (.int .i64 m.kd)) := Lib.hid (by exact rfl)
  have HM1 : Hid (m.vals[1]? = some (.int .i64 0)) := Lib.hid (by rw [← h2]; rfl)
  have HM2 : Hid (m.vals[2]? = some (.int .u32 m.rs)) := Lib.hid (by exact rfl)
  have HM3 : Hid (m.vals[3]? = some (.string m.da)) := Lib.hid (by exact rfl)
  have HK1 : Hid (Kp w w.heap.size [(w.heap.size + 1, 24, V0), (w.heap.size, 24, m.vals)] ((w.alloc (.cells m.vals.toArray 24)).alloc (.cells V0.toArray 24))) := Lib.hid (by
    have h := (Kp.start w).new 24 m.vals
    have e1 : (w.alloc (.cells m.vals.toArray 24)).heap.size = w.heap.size + 1 := by simp
    have h2 := h.new 24 V0
    rwa [e1] at h2)
  generalize m.vals = VM at *
  generalize hw1 : (w.alloc (.cells VM.toArray 24)).alloc (.cells V0.toArray 24) = w1 at *
  rw [hz0] at hw1
  go_enter Tryd.func29, Tryd.ntmps29
  go_upto_region 1 with (fail)
  clear hw1 hz0
  have c1 : w1.cell? ⟨w.heap.size, 1, none⟩ = some (.int .i64 0) := HK1.out.tl.hd.at HM1.out
  have c2 : w1.cell? ⟨w.heap.size, 2, none⟩ = some (.int .u32 m.rs) := HK1.out.tl.hd.at HM2.out
  go_wp2_with (fail)
  refine (CA.out _).mono ?_
  rintro e w2 ⟨rfl, bb⟩
  have HK2 := Lib.hid (HK1.out.below bb (Nat.le_refl _))
  clear bb HK1
  have hkc := HK2.out.hd
  have htf := hkc.there 4 (by have := HL_V0.out; simp; omega)
  have HIN : Hid ((Tryd.prog.info? 24).map (·.size) = some ([.int .i64 12, .int .i64 0, .int .u32 (X * 16777216), .string ⟨#[]⟩] : List Value).length) := Lib.hid (Tryd.infoMg (⟨12, 0, (X * 16777216), ⟨#[]⟩⟩ : Mg))
  go_wp2_with (((with_reducible (change wpList _ _ _ _ _ _)); ((refine wpList_store_mid rfl 24 _ _ rfl (w.heap.size + 1) 0 ([.int .i64 12, .int .i64 0, .int .u32 (X * 16777216), .string ⟨#[]⟩] : List Value).toArray rfl rfl htf (by simpa using HIN.out) (by simp [Value.oneCell']) ?_))))
  have hk5 := Bk.sets [.int .i64 12, .int .i64 0, .int .u32 (X * 16777216), .string ⟨#[]⟩] 0 _ _ hkc
  rw [puts_whole V0.toArray [.int .i64 12, .int .i64 0, .int .u32 (X * 16777216), .string ⟨#[]⟩] (by have := HL_V0.out; simp; omega)] at hk5
  refine bodyPost_ret (v := .tuple #[.agg ([.int .i64 12, .int .i64 0, .int .u32 (X * 16777216), .string ⟨#[]⟩] : List Value).toArray, .bool ok]) ?_ rfl ?_
  · exact results_cell2 rfl rfl rfl (run_loadVar_mid _ (w.heap.size + 1) 0 24 [.int .i64 12, .int .i64 0, .int .u32 (X * 16777216), .string ⟨#[]⟩] _ hk5.range Tryd.underlying24 rfl HIN.out)
  · rw [HS.out]
    exact ⟨rfl, below_sets _ (by omega) 0 _ HK2.out.2.1⟩
set_option maxRecDepth 100000 in
set_option maxHeartbeats 4000000 in
theorem par4_c1 (m : Mg) (w : World) (h2 : m.cd = 1) : Calls Tryd.prog 29 #[.agg m.vals.toArray] w fun e w' => e = .returned (.tuple #[.agg (par4 m).1.vals.toArray, .bool (par4 m).2]) ∧ Below w.heap.size w w' := by
  have HS : Hid (par4 m = (⟨3, 2, 0, ⟨#[]⟩⟩, true)) := Lib.hid (by unfold par4; simp [h2])
  obtain ⟨V0, hV0⟩ : ∃ V, V = mg0.vals := ⟨_, rfl⟩
  have HB0 : Hid (∀ W, (Instr.build 24 #[]).run Tryd.prog W = .ok (.agg V0.toArray) W) := Lib.hid (fun W => by rw [hV0]; exact mgBuild W)
  have HI_V0 : Hid ((Tryd.prog.info? 24).map (·.size) = some V0.length) := Lib.hid (by rw [hV0]; exact Tryd.infoMg _)
  have HO_V0 : Hid (V0.toArray.all (·.oneCell') = true) := Lib.hid (by rw [hV0]; exact mg_one _)
  have HL_V0 : Hid (V0.length = 4) := Lib.hid (by rw [hV0]; rfl)
  have hz0 : V0.toArray = #[.int .i64 0, .int .i64 0, .int .u32 0, .string ⟨#[]⟩] := by rw [hV0]; rfl
  have HV0 := Lib.hid hV0
  clear hV0
  have HI_VM : Hid ((Tryd.prog.info? 24).map (·.size) = some m.vals.length) := Lib.hid (Tryd.infoMg _)
  have HM0 : Hid (m.vals[0]? = some (.int .i64 m.kd)) := Lib.hid (by exact rfl)
  have HM1 : Hid (m.vals[1]? = some (.int .i64 1)) := Lib.hid (by rw [← h2]; rfl)
  have HM2 : Hid (m.vals[2]? = some (.int .u32 m.rs)) := Lib.hid (by exact rfl)
  have HM3 : Hid (m.vals[3]? = some (.string m.da)) := Lib.hid (by exact rfl)
  have HK1 : Hid (Kp w w.heap.size [(w.heap.size + 1, 24, V0), (w.heap.size, 24, m.vals)] ((w.alloc (.cells m.vals.toArray 24)).alloc (.cells V0.toArray 24))) := Lib.hid (by
    have h := (Kp.start w).new 24 m.vals
    have e1 : (w.alloc (.cells m.vals.toArray 24)).heap.size = w.heap.size + 1 := by simp
    have h2 := h.new 24 V0
    rwa [e1] at h2)
  generalize m.vals = VM at *
  generalize hw1 : (w.alloc (.cells VM.toArray 24)).alloc (.cells V0.toArray 24) = w1 at *
  rw [hz0] at hw1
  go_enter Tryd.func29, Tryd.ntmps29
  go_upto_region 1 with (fail)
  clear hw1 hz0
  have c1 : w1.cell? ⟨w.heap.size, 1, none⟩ = some (.int .i64 1) := HK1.out.tl.hd.at HM1.out
  have c2 : w1.cell? ⟨w.heap.size, 2, none⟩ = some (.int .u32 m.rs) := HK1.out.tl.hd.at HM2.out
  have hkc := HK1.out.hd
  have htf := hkc.there 4 (by have := HL_V0.out; simp; omega)
  have HIN : Hid ((Tryd.prog.info? 24).map (·.size) = some ([.int .i64 3, .int .i64 2, .int .u32 0, .string ⟨#[]⟩] : List Value).length) := Lib.hid (Tryd.infoMg (⟨3, 2, 0, ⟨#[]⟩⟩ : Mg))
  go_wp2_with (((with_reducible (change wpList _ _ _ _ _ _)); ((refine wpList_store_mid rfl 24 _ _ rfl (w.heap.size + 1) 0 ([.int .i64 3, .int .i64 2, .int .u32 0, .string ⟨#[]⟩] : List Value).toArray rfl rfl htf (by simpa using HIN.out) (by simp [Value.oneCell']) ?_))))
  have hk5 := Bk.sets [.int .i64 3, .int .i64 2, .int .u32 0, .string ⟨#[]⟩] 0 _ _ hkc
  rw [puts_whole V0.toArray [.int .i64 3, .int .i64 2, .int .u32 0, .string ⟨#[]⟩] (by have := HL_V0.out; simp; omega)] at hk5
  refine bodyPost_ret (v := .tuple #[.agg ([.int .i64 3, .int .i64 2, .int .u32 0, .string ⟨#[]⟩] : List Value).toArray, .bool true]) ?_ rfl ?_
  · exact results_cell2 rfl rfl rfl (run_loadVar_mid _ (w.heap.size + 1) 0 24 [.int .i64 3, .int .i64 2, .int .u32 0, .string ⟨#[]⟩] _ hk5.range Tryd.underlying24 rfl HIN.out)
  · rw [HS.out]
    exact ⟨rfl, below_sets _ (by omega) 0 _ HK1.out.2.1⟩
set_option maxRecDepth 100000 in
set_option maxHeartbeats 4000000 in
theorem par4_cn (m : Mg) (w : World) (g0 : m.cd ≠ 0) (g1 : m.cd ≠ 1) : Calls Tryd.prog 29 #[.agg m.vals.toArray] w fun e w' => e = .returned (.tuple #[.agg (par4 m).1.vals.toArray, .bool (par4 m).2]) ∧ Below w.heap.size w w' := by
  have HS : Hid (par4 m = (mg0, false)) := Lib.hid (by unfold par4; simp [g0, g1])
  have e0 : (m.cd == 0) = false := by rw [beq_eq_false_iff_ne]; exact g0
  have e1 : (m.cd == 1) = false := by rw [beq_eq_false_iff_ne]; exact g1
  obtain ⟨V0, hV0⟩ : ∃ V, V = mg0.vals := ⟨_, rfl⟩
  have HB0 : Hid (∀ W, (Instr.build 24 #[]).run Tryd.prog W = .ok (.agg V0.toArray) W) := Lib.hid (fun W => by rw [hV0]; exact mgBuild W)
  have HI_V0 : Hid ((Tryd.prog.info? 24).map (·.size) = some V0.length) := Lib.hid (by rw [hV0]; exact Tryd.infoMg _)
  have HO_V0 : Hid (V0.toArray.all (·.oneCell') = true) := Lib.hid (by rw [hV0]; exact mg_one _)
  have HL_V0 : Hid (V0.length = 4) := Lib.hid (by rw [hV0]; rfl)
  have hz0 : V0.toArray = #[.int .i64 0, .int .i64 0, .int .u32 0, .string ⟨#[]⟩] := by rw [hV0]; rfl
  have HV0 := Lib.hid hV0
  clear hV0
  have HI_VM : Hid ((Tryd.prog.info? 24).map (·.size) = some m.vals.length) := Lib.hid (Tryd.infoMg _)
  have HM0 : Hid (m.vals[0]? = some (.int .i64 m.kd)) := Lib.hid (by exact rfl)
  have HM1 : Hid (m.vals[1]? = some (.int .i64 m.cd)) := Lib.hid (by exact rfl)
  have HM2 : Hid (m.vals[2]? = some (.int .u32 m.rs)) := Lib.hid (by exact rfl)
  have HM3 : Hid (m.vals[3]? = some (.string m.da)) := Lib.hid (by exact rfl)
  have HK1 : Hid (Kp w w.heap.size [(w.heap.size + 1, 24, V0), (w.heap.size, 24, m.vals)] ((w.alloc (.cells m.vals.toArray 24)).alloc (.cells V0.toArray 24))) := Lib.hid (by
    have h := (Kp.start w).new 24 m.vals
    have e1 : (w.alloc (.cells m.vals.toArray 24)).heap.size = w.heap.size + 1 := by simp
    have h2 := h.new 24 V0
    rwa [e1] at h2)
  generalize m.vals = VM at *
  generalize hw1 : (w.alloc (.cells VM.toArray 24)).alloc (.cells V0.toArray 24) = w1 at *
  rw [hz0] at hw1
  go_enter Tryd.func29, Tryd.ntmps29
  go_upto_region 1 with (fail)
  clear hw1 hz0
  have c1 : w1.cell? ⟨w.heap.size, 1, none⟩ = some (.int .i64 m.cd) := HK1.out.tl.hd.at HM1.out
  have c2 : w1.cell? ⟨w.heap.size, 2, none⟩ = some (.int .u32 m.rs) := HK1.out.tl.hd.at HM2.out
  have hkc := HK1.out.hd
  have htf := hkc.there V0.toArray.size (Nat.le_refl _)
  go_wp2_with (((with_reducible (change wpList _ _ _ _ _ _)); (first | (refine Great.wpList_readTo rfl _ rfl (.agg V0.toArray) (run_execN (T := 24) (l := #[]) (m := #[]) rfl (by simp) (HB0.out _)) ?_) | (refine wpList_store_mid rfl 24 _ _ rfl (w.heap.size + 1) 0 V0.toArray rfl rfl htf (by simpa using HI_V0.out) HO_V0.out ?_))))
  have hk5 := Bk.sets V0 0 _ _ hkc
  rw [puts_whole V0.toArray V0 (by simp)] at hk5
  refine bodyPost_ret (v := .tuple #[.agg V0.toArray, .bool false]) ?_ rfl ?_
  · exact results_cell2 rfl rfl rfl (run_loadVar_mid _ (w.heap.size + 1) 0 24 V0 _ hk5.range Tryd.underlying24 rfl HI_V0.out)
  · rw [HS.out]
    exact ⟨by rw [HV0.out], below_sets _ (by omega) 0 _ HK1.out.2.1⟩
theorem par4_any (m : Mg) (w : World) (hr : 0 ≤ m.rs ∧ m.rs < 4294967296) : Calls Tryd.prog 29 #[.agg m.vals.toArray] w fun e w' => e = .returned (.tuple #[.agg (par4 m).1.vals.toArray, .bool (par4 m).2]) ∧ Below w.heap.size w w' := by
  by_cases h0 : m.cd = 0
  · exact par4_c0 m w hr h0
  by_cases h1 : m.cd = 1
  · exact par4_c1 m w h1
  exact par4_cn m w h0 h1
set_option maxRecDepth 100000 in
set_option maxHeartbeats 4000000 in
theorem sd4_k1 (m : Mg) (w : World) (h1 : m.kd = 1) : Calls Tryd.prog 21 #[.agg m.vals.toArray] w fun e w' => e = .returned (.tuple #[.agg (said4 m).1.vals.toArray, .bool (said4 m).2]) ∧ Below w.heap.size w w' := by
  have HS : Hid (said4 m = ((unr4 m.cd).1, (unr4 m.cd).2)) := Lib.hid (by unfold said4; simp [h1])
  obtain ⟨VX, hVX⟩ : ∃ V, V = ((unr4 m.cd).1).vals := ⟨_, rfl⟩
  have HI_VX : Hid ((Tryd.prog.info? 24).map (·.size) = some VX.length) := Lib.hid (by rw [hVX]; exact Tryd.infoMg _)
  have HO_VX : Hid (VX.toArray.all (·.oneCell') = true) := Lib.hid (by rw [hVX]; exact mg_one _)
  have HL_VX : Hid (VX.length = 4) := Lib.hid (by rw [hVX]; rfl)
  have CA : Hid (∀ W, Calls Tryd.prog 28 #[.int .i64 m.cd] W fun e w' => e = .returned (.tuple #[.agg VX.toArray, .bool (unr4 m.cd).2]) ∧ Below W.heap.size W w') := Lib.hid (fun W => by rw [hVX]; exact un4_any m.cd W)
  have HX := Lib.hid hVX
  clear hVX
  obtain ⟨V0, hV0⟩ : ∃ V, V = mg0.vals := ⟨_, rfl⟩
  have HB0 : Hid (∀ W, (Instr.build 24 #[]).run Tryd.prog W = .ok (.agg V0.toArray) W) := Lib.hid (fun W => by rw [hV0]; exact mgBuild W)
  have HI_V0 : Hid ((Tryd.prog.info? 24).map (·.size) = some V0.length) := Lib.hid (by rw [hV0]; exact Tryd.infoMg _)
  have HO_V0 : Hid (V0.toArray.all (·.oneCell') = true) := Lib.hid (by rw [hV0]; exact mg_one _)
  have HL_V0 : Hid (V0.length = 4) := Lib.hid (by rw [hV0]; rfl)
  have hz0 : V0.toArray = #[.int .i64 0, .int .i64 0, .int .u32 0, .string ⟨#[]⟩] := by rw [hV0]; rfl
  have HV0 := Lib.hid hV0
  clear hV0
  have HI_VM : Hid ((Tryd.prog.info? 24).map (·.size) = some m.vals.length) := Lib.hid (Tryd.infoMg _)
  have HM0 : Hid (m.vals[0]? = some (.int .i64 1)) := Lib.hid (by rw [← h1]; rfl)
  have HM1 : Hid (m.vals[1]? = some (.int .i64 m.cd)) := Lib.hid (by exact rfl)
  have HM2 : Hid (m.vals[2]? = some (.int .u32 m.rs)) := Lib.hid (by exact rfl)
  have HM3 : Hid (m.vals[3]? = some (.string m.da)) := Lib.hid (by exact rfl)
  have HK1 : Hid (Kp w w.heap.size [(w.heap.size + 1, 24, V0), (w.heap.size, 24, m.vals)] ((w.alloc (.cells m.vals.toArray 24)).alloc (.cells V0.toArray 24))) := Lib.hid (by
    have h := (Kp.start w).new 24 m.vals
    have e1 : (w.alloc (.cells m.vals.toArray 24)).heap.size = w.heap.size + 1 := by simp
    have h2 := h.new 24 V0
    rwa [e1] at h2)
  generalize m.vals = VM at *
  generalize hw1 : (w.alloc (.cells VM.toArray 24)).alloc (.cells V0.toArray 24) = w1 at *
  rw [hz0] at hw1
  go_enter Tryd.func21, Tryd.ntmps21
  go_upto_region 1 with (fail)
  clear hw1 hz0
  have c0 : w1.cell? ⟨w.heap.size, 0, none⟩ = some (.int .i64 1) := HK1.out.tl.hd.at HM0.out
  have c1 : w1.cell? ⟨w.heap.size, 1, none⟩ = some (.int .i64 m.cd) := HK1.out.tl.hd.at HM1.out
  go_wp2_with (fail)
  refine (CA.out _).mono ?_
  rintro e w2 ⟨rfl, bb⟩
  have HK2 := Lib.hid (HK1.out.below bb (Nat.le_refl _))
  clear bb HK1
  have hkc := HK2.out.hd
  have htf := hkc.there VX.toArray.size (by have := HL_V0.out; have := HL_VX.out; simp; omega)
  go_wp2_with (((with_reducible (change wpList _ _ _ _ _ _)); ((refine wpList_store_mid rfl 24 _ _ rfl (w.heap.size + 1) 0 VX.toArray rfl rfl htf (by simpa using HI_VX.out) HO_VX.out ?_))))
  have hk5 := Bk.sets VX 0 _ _ hkc
  rw [puts_whole V0.toArray VX (by have := HL_V0.out; have := HL_VX.out; simp; omega)] at hk5
  refine bodyPost_ret (v := .tuple #[.agg VX.toArray, .bool (unr4 m.cd).2]) ?_ rfl ?_
  · exact results_cell2 rfl rfl rfl (run_loadVar_mid _ (w.heap.size + 1) 0 24 VX _ hk5.range Tryd.underlying24 rfl HI_VX.out)
  · rw [HS.out, ← HX.out]
    exact ⟨rfl, below_sets _ (by omega) 0 _ HK2.out.2.1⟩
set_option maxRecDepth 100000 in
set_option maxHeartbeats 4000000 in
theorem sd4_k4 (m : Mg) (w : World) (hr : 0 ≤ m.rs ∧ m.rs < 4294967296) (h1 : m.kd = 4) : Calls Tryd.prog 21 #[.agg m.vals.toArray] w fun e w' => e = .returned (.tuple #[.agg (said4 m).1.vals.toArray, .bool (said4 m).2]) ∧ Below w.heap.size w w' := by
  have HS : Hid (said4 m = ((par4 m).1, (par4 m).2)) := Lib.hid (by unfold said4; simp [h1])
  obtain ⟨VX, hVX⟩ : ∃ V, V = ((par4 m).1).vals := ⟨_, rfl⟩
  have HI_VX : Hid ((Tryd.prog.info? 24).map (·.size) = some VX.length) := Lib.hid (by rw [hVX]; exact Tryd.infoMg _)
  have HO_VX : Hid (VX.toArray.all (·.oneCell') = true) := Lib.hid (by rw [hVX]; exact mg_one _)
  have HL_VX : Hid (VX.length = 4) := Lib.hid (by rw [hVX]; rfl)
  have CA : Hid (∀ W, Calls Tryd.prog 29 #[.agg m.vals.toArray] W fun e w' => e = .returned (.tuple #[.agg VX.toArray, .bool (par4 m).2]) ∧ Below W.heap.size W w') := Lib.hid (fun W => by rw [hVX]; exact par4_any m W hr)
  have HX := Lib.hid hVX
  clear hVX
  obtain ⟨V0, hV0⟩ : ∃ V, V = mg0.vals := ⟨_, rfl⟩
  have HB0 : Hid (∀ W, (Instr.build 24 #[]).run Tryd.prog W = .ok (.agg V0.toArray) W) := Lib.hid (fun W => by rw [hV0]; exact mgBuild W)
  have HI_V0 : Hid ((Tryd.prog.info? 24).map (·.size) = some V0.length) := Lib.hid (by rw [hV0]; exact Tryd.infoMg _)
  have HO_V0 : Hid (V0.toArray.all (·.oneCell') = true) := Lib.hid (by rw [hV0]; exact mg_one _)
  have HL_V0 : Hid (V0.length = 4) := Lib.hid (by rw [hV0]; rfl)
  have hz0 : V0.toArray = #[.int .i64 0, .int .i64 0, .int .u32 0, .string ⟨#[]⟩] := by rw [hV0]; rfl
  have HV0 := Lib.hid hV0
  clear hV0
  have HI_VM : Hid ((Tryd.prog.info? 24).map (·.size) = some m.vals.length) := Lib.hid (Tryd.infoMg _)
  have HM0 : Hid (m.vals[0]? = some (.int .i64 4)) := Lib.hid (by rw [← h1]; rfl)
  have HM1 : Hid (m.vals[1]? = some (.int .i64 m.cd)) := Lib.hid (by exact rfl)
  have HM2 : Hid (m.vals[2]? = some (.int .u32 m.rs)) := Lib.hid (by exact rfl)
  have HM3 : Hid (m.vals[3]? = some (.string m.da)) := Lib.hid (by exact rfl)
  have HK1 : Hid (Kp w w.heap.size [(w.heap.size + 1, 24, V0), (w.heap.size, 24, m.vals)] ((w.alloc (.cells m.vals.toArray 24)).alloc (.cells V0.toArray 24))) := Lib.hid (by
    have h := (Kp.start w).new 24 m.vals
    have e1 : (w.alloc (.cells m.vals.toArray 24)).heap.size = w.heap.size + 1 := by simp
    have h2 := h.new 24 V0
    rwa [e1] at h2)
  generalize m.vals = VM at *
  generalize hw1 : (w.alloc (.cells VM.toArray 24)).alloc (.cells V0.toArray 24) = w1 at *
  rw [hz0] at hw1
  go_enter Tryd.func21, Tryd.ntmps21
  go_upto_region 1 with (fail)
  clear hw1 hz0
  have c0 : w1.cell? ⟨w.heap.size, 0, none⟩ = some (.int .i64 4) := HK1.out.tl.hd.at HM0.out
  have hr0 := HK1.out.tl.hd.range
  go_wp2_with (((with_reducible (change wpList _ _ _ _ _ _)); ((refine wpList_load_mid rfl 24 _ rfl (w.heap.size) 0 rfl (VM) _ hr0 Tryd.underlying24 rfl HI_VM.out ?_))))
  clear hr0
  refine (CA.out _).mono ?_
  rintro e w2 ⟨rfl, bb⟩
  have HK2 := Lib.hid (HK1.out.below bb (Nat.le_refl _))
  clear bb HK1
  have hkc := HK2.out.hd
  have htf := hkc.there VX.toArray.size (by have := HL_V0.out; have := HL_VX.out; simp; omega)
  go_wp2_with (((with_reducible (change wpList _ _ _ _ _ _)); ((refine wpList_store_mid rfl 24 _ _ rfl (w.heap.size + 1) 0 VX.toArray rfl rfl htf (by simpa using HI_VX.out) HO_VX.out ?_))))
  have hk5 := Bk.sets VX 0 _ _ hkc
  rw [puts_whole V0.toArray VX (by have := HL_V0.out; have := HL_VX.out; simp; omega)] at hk5
  refine bodyPost_ret (v := .tuple #[.agg VX.toArray, .bool (par4 m).2]) ?_ rfl ?_
  · exact results_cell2 rfl rfl rfl (run_loadVar_mid _ (w.heap.size + 1) 0 24 VX _ hk5.range Tryd.underlying24 rfl HI_VX.out)
  · rw [HS.out, ← HX.out]
    exact ⟨rfl, below_sets _ (by omega) 0 _ HK2.out.2.1⟩
set_option maxRecDepth 100000 in
set_option maxHeartbeats 4000000 in
theorem sd4_no (m : Mg) (w : World) (g128 : m.kd ≠ 128) (g129 : m.kd ≠ 129) (g1 : m.kd ≠ 1) (g2 : m.kd ≠ 2) (g3 : m.kd ≠ 3) (g4 : m.kd ≠ 4) : Calls Tryd.prog 21 #[.agg m.vals.toArray] w fun e w' => e = .returned (.tuple #[.agg (said4 m).1.vals.toArray, .bool (said4 m).2]) ∧ Below w.heap.size w w' := by
  have HS : Hid (said4 m = (mg0, false)) := Lib.hid (by unfold said4; simp only [g128, g129, g1, g2, g3, g4, if_false])
  have e128 : (m.kd == 128) = false := by rw [beq_eq_false_iff_ne]; exact g128
  have e129 : (m.kd == 129) = false := by rw [beq_eq_false_iff_ne]; exact g129
  have e1 : (m.kd == 1) = false := by rw [beq_eq_false_iff_ne]; exact g1
  have e2 : (m.kd == 2) = false := by rw [beq_eq_false_iff_ne]; exact g2
  have e3 : (m.kd == 3) = false := by rw [beq_eq_false_iff_ne]; exact g3
  have e4 : (m.kd == 4) = false := by rw [beq_eq_false_iff_ne]; exact g4
  obtain ⟨V0, hV0⟩ : ∃ V, V = mg0.vals := ⟨_, rfl⟩
  have HB0 : Hid (∀ W, (Instr.build 24 #[]).run Tryd.prog W = .ok (.agg V0.toArray) W) := Lib.hid (fun W => by rw [hV0]; exact mgBuild W)
  have HI_V0 : Hid ((Tryd.prog.info? 24).map (·.size) = some V0.length) := Lib.hid (by rw [hV0]; exact Tryd.infoMg _)
  have HO_V0 : Hid (V0.toArray.all (·.oneCell') = true) := Lib.hid (by rw [hV0]; exact mg_one _)
  have HL_V0 : Hid (V0.length = 4) := Lib.hid (by rw [hV0]; rfl)
  have hz0 : V0.toArray = #[.int .i64 0, .int .i64 0, .int .u32 0, .string ⟨#[]⟩] := by rw [hV0]; rfl
  have HV0 := Lib.hid hV0
  clear hV0
  have HI_VM : Hid ((Tryd.prog.info? 24).map (·.size) = some m.vals.length) := Lib.hid (Tryd.infoMg _)
  have HM0 : Hid (m.vals[0]? = some (.int .i64 m.kd)) := Lib.hid (by exact rfl)
  have HM1 : Hid (m.vals[1]? = some (.int .i64 m.cd)) := Lib.hid (by exact rfl)
  have HM2 : Hid (m.vals[2]? = some (.int .u32 m.rs)) := Lib.hid (by exact rfl)
  have HM3 : Hid (m.vals[3]? = some (.string m.da)) := Lib.hid (by exact rfl)
  have HK1 : Hid (Kp w w.heap.size [(w.heap.size + 1, 24, V0), (w.heap.size, 24, m.vals)] ((w.alloc (.cells m.vals.toArray 24)).alloc (.cells V0.toArray 24))) := Lib.hid (by
    have h := (Kp.start w).new 24 m.vals
    have e1 : (w.alloc (.cells m.vals.toArray 24)).heap.size = w.heap.size + 1 := by simp
    have h2 := h.new 24 V0
    rwa [e1] at h2)
  generalize m.vals = VM at *
  generalize hw1 : (w.alloc (.cells VM.toArray 24)).alloc (.cells V0.toArray 24) = w1 at *
  rw [hz0] at hw1
  go_enter Tryd.func21, Tryd.ntmps21
  go_upto_region 1 with (fail)
  clear hw1 hz0
  have c0 : w1.cell? ⟨w.heap.size, 0, none⟩ = some (.int .i64 m.kd) := HK1.out.tl.hd.at HM0.out
  have hkc := HK1.out.hd
  have htf := hkc.there V0.toArray.size (Nat.le_refl _)
  go_wp2_with (((with_reducible (change wpList _ _ _ _ _ _)); (first | (refine Great.wpList_readTo rfl _ rfl (.agg V0.toArray) (run_execN (T := 24) (l := #[]) (m := #[]) rfl (by simp) (HB0.out _)) ?_) | (refine wpList_store_mid rfl 24 _ _ rfl (w.heap.size + 1) 0 V0.toArray rfl rfl htf (by simpa using HI_V0.out) HO_V0.out ?_))))
  have hk5 := Bk.sets V0 0 _ _ hkc
  rw [puts_whole V0.toArray V0 (by simp)] at hk5
  refine bodyPost_ret (v := .tuple #[.agg V0.toArray, .bool false]) ?_ rfl ?_
  · exact results_cell2 rfl rfl rfl (run_loadVar_mid _ (w.heap.size + 1) 0 24 V0 _ hk5.range Tryd.underlying24 rfl HI_V0.out)
  · rw [HS.out]
    exact ⟨by rw [HV0.out], below_sets _ (by omega) 0 _ HK1.out.2.1⟩
end Go.Proofs.YtnehabpdpkjaeaaDoor
