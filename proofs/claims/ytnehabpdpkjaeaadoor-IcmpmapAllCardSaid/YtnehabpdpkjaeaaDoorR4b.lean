/-
  Proved here: what the document's To4 answers of pointers.
  Conditions: none.
-/
import Derived.Test.YtnehabpdpkjaeaaDoorR4a
namespace Go.Proofs.YtnehabpdpkjaeaaDoor
open Go.RowKit

set_option maxRecDepth 100000 in
set_option maxHeartbeats 4000000 in
theorem rfour_ptr_le (m : Mg) (a b : Int) (w : World) (hr : 0 ≤ m.rs ∧ m.rs < 4294967296) (hb : mtus a b = true) (h1 : m.kd = 4) (h2 : m.cd = 0) (hv : m.rs ≤ 1) : Calls Tryd.prog 16 #[.agg m.vals.toArray, .int .i64 a, .int .i64 b] w (fun e w' => e = .returned (.tuple #[.agg (four m a b).1.vals.toArray, .bool (four m a b).2]) ∧ Below w.heap.size w w') := by
  have hp : ptr4 m.rs = m.rs := by unfold ptr4; omega
  have HS : Hid (four m a b = (⟨12, 0, (m.rs * 16777216), m.da⟩, true)) := Lib.hid (by unfold four; rw [hb, if_neg (by simp), if_neg (by omega), if_pos ⟨h1, h2⟩, hp, if_neg (by omega)])
  have HBn : Hid (∀ W, Calls Tryd.prog 23 #[.int .i64 a, .int .i64 b] W fun e w' => e = .returned (.bool true) ∧ W = w') := Lib.hid (fun W => by rw [← hb]; exact rbounds_any a b W)
  clear hb
  have kN : IntKind.u32.wrap (m.rs * 16777216) = m.rs * 16777216 := by rw [IntKind.wrap_u32]; omega
  have kid : IntKind.i64.wrap m.rs = m.rs := IntWalk.i64_in _ (by omega)
  have kid2 : IntKind.u32.wrap m.rs = m.rs := by rw [IntKind.wrap_u32]; omega
  have kp : ¬ m.rs < 0 := by omega
  obtain ⟨V0, hV0⟩ : ∃ V, V = mg0.vals := ⟨_, rfl⟩
  have HB0 : Hid (∀ W, (Instr.build 24 #[]).run Tryd.prog W = .ok (.agg V0.toArray) W) := Lib.hid (fun W => by rw [hV0]; exact mgBuild W)
  have HI_V0 : Hid ((Tryd.prog.info? 24).map (·.size) = some V0.length) := Lib.hid (by rw [hV0]; exact Tryd.infoMg _)
  have HO_V0 : Hid (V0.toArray.all (·.oneCell') = true) := Lib.hid (by rw [hV0]; exact mg_one _)
  have HL_V0 : Hid (V0.length = 4) := Lib.hid (by rw [hV0]; rfl)
  have hz0 : V0.toArray = #[.int .i64 0, .int .i64 0, .int .u32 0, .string ⟨#[]⟩] := by rw [hV0]; rfl
  have HV0 := Lib.hid hV0
  clear hV0
  have HI_VM : Hid ((Tryd.prog.info? 24).map (·.size) = some m.vals.length) := Lib.hid (Tryd.infoMg _)
  have HM0 : Hid (m.vals[0]? = some (.int .i64 4)) := Lib.hid (by rw [← h1]; rfl)
  have HM1 : Hid (m.vals[1]? = some (.int .i64 0)) := Lib.hid (by rw [← h2]; rfl)
  have HM2 : Hid (m.vals[2]? = some (.int .u32 m.rs)) := Lib.hid (by exact rfl)
  have HM3 : Hid (m.vals[3]? = some (.string m.da)) := Lib.hid (by exact rfl)
  have HK1 : Hid (Kp w w.heap.size [(w.heap.size + 1, 24, V0), (w.heap.size, 24, m.vals)] ((w.alloc (.cells m.vals.toArray 24)).alloc (.cells V0.toArray 24))) := Lib.hid (by
    have h := (Kp.start w).new 24 m.vals
    have e1 : (w.alloc (.cells m.vals.toArray 24)).heap.size = w.heap.size + 1 := by simp
    have h2 := h.new 24 V0
    rwa [e1] at h2)
  generalize m.vals = VM at *
  generalize hw1 : (w.alloc (.cells VM.toArray 24)).alloc (.cells V0.toArray 24) = w1 at *
  rw [hz0] at hw1
  go_enter Tryd.func16, Tryd.ntmps16
  go_upto_region 1 with (fail)
  clear hw1 hz0
  go_wp2_with (fail)
  refine (HBn.out _).mono ?_
  rintro e w99 ⟨rfl, rfl⟩
  have c0 : w1.cell? ⟨w.heap.size, 0, none⟩ = some (.int .i64 4) := HK1.out.tl.hd.at HM0.out
  have c1 : w1.cell? ⟨w.heap.size, 1, none⟩ = some (.int .i64 0) := HK1.out.tl.hd.at HM1.out
  go_upto_region 15 with (fail)
  clear c0 c1
  have c2 : w1.cell? ⟨w.heap.size, 2, none⟩ = some (.int .u32 m.rs) := HK1.out.tl.hd.at HM2.out
  go_upto_region 28 with (fail)
  clear c2
  go_upto_region 30 with (fail)
  have c3 : w1.cell? ⟨w.heap.size, 3, none⟩ = some (.string m.da) := HK1.out.tl.hd.at HM3.out
  have hkc := HK1.out.hd
  have htf := hkc.there 4 (by have := HL_V0.out; simp; omega)
  have HIN : Hid ((Tryd.prog.info? 24).map (·.size) = some ([.int .i64 12, .int .i64 0, .int .u32 (m.rs * 16777216), .string m.da] : List Value).length) := Lib.hid (Tryd.infoMg (⟨12, 0, (m.rs * 16777216), m.da⟩ : Mg))
  go_wp2_with (((with_reducible (change wpList _ _ _ _ _ _)); ((refine wpList_store_mid rfl 24 _ _ rfl (w.heap.size + 1) 0 ([.int .i64 12, .int .i64 0, .int .u32 (m.rs * 16777216), .string m.da] : List Value).toArray rfl rfl htf (by simpa using HIN.out) (by simp [Value.oneCell']) ?_))))
  have hk5 := Bk.sets [.int .i64 12, .int .i64 0, .int .u32 (m.rs * 16777216), .string m.da] 0 _ _ hkc
  rw [puts_whole V0.toArray [.int .i64 12, .int .i64 0, .int .u32 (m.rs * 16777216), .string m.da] (by have := HL_V0.out; simp; omega)] at hk5
  refine bodyPost_ret (v := .tuple #[.agg ([.int .i64 12, .int .i64 0, .int .u32 (m.rs * 16777216), .string m.da] : List Value).toArray, .bool true]) ?_ rfl ?_
  · exact results_cell2 rfl rfl rfl (run_loadVar_mid _ (w.heap.size + 1) 0 24 [.int .i64 12, .int .i64 0, .int .u32 (m.rs * 16777216), .string m.da] _ hk5.range Tryd.underlying24 rfl HIN.out)
  · rw [HS.out]
    exact ⟨rfl, below_sets _ (by omega) 0 _ HK1.out.2.1⟩
set_option maxRecDepth 100000 in
set_option maxHeartbeats 4000000 in
theorem rfour_ptr_r2 (m : Mg) (a b : Int) (w : World) (hb : mtus a b = true) (h1 : m.kd = 4) (h2 : m.cd = 0) (hv : m.rs = 2) : Calls Tryd.prog 16 #[.agg m.vals.toArray, .int .i64 a, .int .i64 b] w (fun e w' => e = .returned (.tuple #[.agg (four m a b).1.vals.toArray, .bool (four m a b).2]) ∧ Below w.heap.size w w') := by
  have hp : ptr4 m.rs = -1 := by unfold ptr4; omega
  have HS : Hid (four m a b = (mg0, false)) := Lib.hid (by unfold four; rw [hb, if_neg (by simp), if_neg (by omega), if_pos ⟨h1, h2⟩, hp, if_pos (by omega)])
  have HBn : Hid (∀ W, Calls Tryd.prog 23 #[.int .i64 a, .int .i64 b] W fun e w' => e = .returned (.bool true) ∧ W = w') := Lib.hid (fun W => by rw [← hb]; exact rbounds_any a b W)
  clear hb
  obtain ⟨V0, hV0⟩ : ∃ V, V = mg0.vals := ⟨_, rfl⟩
  have HB0 : Hid (∀ W, (Instr.build 24 #[]).run Tryd.prog W = .ok (.agg V0.toArray) W) := Lib.hid (fun W => by rw [hV0]; exact mgBuild W)
  have HI_V0 : Hid ((Tryd.prog.info? 24).map (·.size) = some V0.length) := Lib.hid (by rw [hV0]; exact Tryd.infoMg _)
  have HO_V0 : Hid (V0.toArray.all (·.oneCell') = true) := Lib.hid (by rw [hV0]; exact mg_one _)
  have HL_V0 : Hid (V0.length = 4) := Lib.hid (by rw [hV0]; rfl)
  have hz0 : V0.toArray = #[.int .i64 0, .int .i64 0, .int .u32 0, .string ⟨#[]⟩] := by rw [hV0]; rfl
  have HV0 := Lib.hid hV0
  clear hV0
  have HI_VM : Hid ((Tryd.prog.info? 24).map (·.size) = some m.vals.length) := Lib.hid (Tryd.infoMg _)
  have HM0 : Hid (m.vals[0]? = some (.int .i64 4)) := Lib.hid (by rw [← h1]; rfl)
  have HM1 : Hid (m.vals[1]? = some (.int .i64 0)) := Lib.hid (by rw [← h2]; rfl)
  have HM2 : Hid (m.vals[2]? = some (.int .u32 2)) := Lib.hid (by rw [← hv]; rfl)
  have HM3 : Hid (m.vals[3]? = some (.string m.da)) := Lib.hid (by exact rfl)
  have HK1 : Hid (Kp w w.heap.size [(w.heap.size + 1, 24, V0), (w.heap.size, 24, m.vals)] ((w.alloc (.cells m.vals.toArray 24)).alloc (.cells V0.toArray 24))) := Lib.hid (by
    have h := (Kp.start w).new 24 m.vals
    have e1 : (w.alloc (.cells m.vals.toArray 24)).heap.size = w.heap.size + 1 := by simp
    have h2 := h.new 24 V0
    rwa [e1] at h2)
  generalize m.vals = VM at *
  generalize hw1 : (w.alloc (.cells VM.toArray 24)).alloc (.cells V0.toArray 24) = w1 at *
  rw [hz0] at hw1
  go_enter Tryd.func16, Tryd.ntmps16
  go_upto_region 1 with (fail)
  clear hw1 hz0
  go_wp2_with (fail)
  refine (HBn.out _).mono ?_
  rintro e w99 ⟨rfl, rfl⟩
  have c0 : w1.cell? ⟨w.heap.size, 0, none⟩ = some (.int .i64 4) := HK1.out.tl.hd.at HM0.out
  have c1 : w1.cell? ⟨w.heap.size, 1, none⟩ = some (.int .i64 0) := HK1.out.tl.hd.at HM1.out
  go_upto_region 15 with (fail)
  clear c0 c1
  have c2 : w1.cell? ⟨w.heap.size, 2, none⟩ = some (.int .u32 2) := HK1.out.tl.hd.at HM2.out
  go_upto_region 28 with (fail)
  clear c2
  go_upto_region 29 with (fail)
  have hkc := HK1.out.hd
  have htf := hkc.there V0.toArray.size (Nat.le_refl _)
  go_wp2_with (((with_reducible (change wpList _ _ _ _ _ _)); (first | (refine Great.wpList_readTo rfl _ rfl (.agg V0.toArray) (run_execN (T := 24) (l := #[]) (m := #[]) rfl (by simp) (HB0.out _)) ?_) | (refine wpList_store_mid rfl 24 _ _ rfl (w.heap.size + 1) 0 V0.toArray rfl rfl htf (by simpa using HI_V0.out) HO_V0.out ?_))))
  have hk5 := Bk.sets V0 0 _ _ hkc
  rw [puts_whole V0.toArray V0 (by simp)] at hk5
  refine bodyPost_ret (v := .tuple #[.agg V0.toArray, .bool false]) ?_ rfl ?_
  · exact results_cell2 rfl rfl rfl (run_loadVar_mid _ (w.heap.size + 1) 0 24 V0 _ hk5.range Tryd.underlying24 rfl HI_V0.out)
  · rw [HS.out]
    exact ⟨by rw [HV0.out], below_sets _ (by omega) 0 _ HK1.out.2.1⟩
set_option maxRecDepth 100000 in
set_option maxHeartbeats 4000000 in
theorem rfour_ptr_r3 (m : Mg) (a b : Int) (w : World) (hb : mtus a b = true) (h1 : m.kd = 4) (h2 : m.cd = 0) (hv : m.rs = 3) : Calls Tryd.prog 16 #[.agg m.vals.toArray, .int .i64 a, .int .i64 b] w (fun e w' => e = .returned (.tuple #[.agg (four m a b).1.vals.toArray, .bool (four m a b).2]) ∧ Below w.heap.size w w') := by
  have hp : ptr4 m.rs = -1 := by unfold ptr4; omega
  have HS : Hid (four m a b = (mg0, false)) := Lib.hid (by unfold four; rw [hb, if_neg (by simp), if_neg (by omega), if_pos ⟨h1, h2⟩, hp, if_pos (by omega)])
  have HBn : Hid (∀ W, Calls Tryd.prog 23 #[.int .i64 a, .int .i64 b] W fun e w' => e = .returned (.bool true) ∧ W = w') := Lib.hid (fun W => by rw [← hb]; exact rbounds_any a b W)
  clear hb
  obtain ⟨V0, hV0⟩ : ∃ V, V = mg0.vals := ⟨_, rfl⟩
  have HB0 : Hid (∀ W, (Instr.build 24 #[]).run Tryd.prog W = .ok (.agg V0.toArray) W) := Lib.hid (fun W => by rw [hV0]; exact mgBuild W)
  have HI_V0 : Hid ((Tryd.prog.info? 24).map (·.size) = some V0.length) := Lib.hid (by rw [hV0]; exact Tryd.infoMg _)
  have HO_V0 : Hid (V0.toArray.all (·.oneCell') = true) := Lib.hid (by rw [hV0]; exact mg_one _)
  have HL_V0 : Hid (V0.length = 4) := Lib.hid (by rw [hV0]; rfl)
  have hz0 : V0.toArray = #[.int .i64 0, .int .i64 0, .int .u32 0, .string ⟨#[]⟩] := by rw [hV0]; rfl
  have HV0 := Lib.hid hV0
  clear hV0
  have HI_VM : Hid ((Tryd.prog.info? 24).map (·.size) = some m.vals.length) := Lib.hid (Tryd.infoMg _)
  have HM0 : Hid (m.vals[0]? = some (.int .i64 4)) := Lib.hid (by rw [← h1]; rfl)
  have HM1 : Hid (m.vals[1]? = some (.int .i64 0)) := Lib.hid (by rw [← h2]; rfl)
  have HM2 : Hid (m.vals[2]? = some (.int .u32 3)) := Lib.hid (by rw [← hv]; rfl)
  have HM3 : Hid (m.vals[3]? = some (.string m.da)) := Lib.hid (by exact rfl)
  have HK1 : Hid (Kp w w.heap.size [(w.heap.size + 1, 24, V0), (w.heap.size, 24, m.vals)] ((w.alloc (.cells m.vals.toArray 24)).alloc (.cells V0.toArray 24))) := Lib.hid (by
    have h := (Kp.start w).new 24 m.vals
    have e1 : (w.alloc (.cells m.vals.toArray 24)).heap.size = w.heap.size + 1 := by simp
    have h2 := h.new 24 V0
    rwa [e1] at h2)
  generalize m.vals = VM at *
  generalize hw1 : (w.alloc (.cells VM.toArray 24)).alloc (.cells V0.toArray 24) = w1 at *
  rw [hz0] at hw1
  go_enter Tryd.func16, Tryd.ntmps16
  go_upto_region 1 with (fail)
  clear hw1 hz0
  go_wp2_with (fail)
  refine (HBn.out _).mono ?_
  rintro e w99 ⟨rfl, rfl⟩
  have c0 : w1.cell? ⟨w.heap.size, 0, none⟩ = some (.int .i64 4) := HK1.out.tl.hd.at HM0.out
  have c1 : w1.cell? ⟨w.heap.size, 1, none⟩ = some (.int .i64 0) := HK1.out.tl.hd.at HM1.out
  go_upto_region 15 with (fail)
  clear c0 c1
  have c2 : w1.cell? ⟨w.heap.size, 2, none⟩ = some (.int .u32 3) := HK1.out.tl.hd.at HM2.out
  go_upto_region 28 with (fail)
  clear c2
  go_upto_region 29 with (fail)
  have hkc := HK1.out.hd
  have htf := hkc.there V0.toArray.size (Nat.le_refl _)
  go_wp2_with (((with_reducible (change wpList _ _ _ _ _ _)); (first | (refine Great.wpList_readTo rfl _ rfl (.agg V0.toArray) (run_execN (T := 24) (l := #[]) (m := #[]) rfl (by simp) (HB0.out _)) ?_) | (refine wpList_store_mid rfl 24 _ _ rfl (w.heap.size + 1) 0 V0.toArray rfl rfl htf (by simpa using HI_V0.out) HO_V0.out ?_))))
  have hk5 := Bk.sets V0 0 _ _ hkc
  rw [puts_whole V0.toArray V0 (by simp)] at hk5
  refine bodyPost_ret (v := .tuple #[.agg V0.toArray, .bool false]) ?_ rfl ?_
  · exact results_cell2 rfl rfl rfl (run_loadVar_mid _ (w.heap.size + 1) 0 24 V0 _ hk5.range Tryd.underlying24 rfl HI_V0.out)
  · rw [HS.out]
    exact ⟨by rw [HV0.out], below_sets _ (by omega) 0 _ HK1.out.2.1⟩
set_option maxRecDepth 100000 in
set_option maxHeartbeats 4000000 in
theorem rfour_ptr_r4 (m : Mg) (a b : Int) (w : World) (hb : mtus a b = true) (h1 : m.kd = 4) (h2 : m.cd = 0) (hv : m.rs = 4) : Calls Tryd.prog 16 #[.agg m.vals.toArray, .int .i64 a, .int .i64 b] w (fun e w' => e = .returned (.tuple #[.agg (four m a b).1.vals.toArray, .bool (four m a b).2]) ∧ Below w.heap.size w w') := by
  have hp : ptr4 m.rs = 2 := by unfold ptr4; omega
  have HS : Hid (four m a b = (⟨12, 0, 33554432, m.da⟩, true)) := Lib.hid (by unfold four; rw [hb, if_neg (by simp), if_neg (by omega), if_pos ⟨h1, h2⟩, hp, if_neg (by omega)]; rfl)
  have HBn : Hid (∀ W, Calls Tryd.prog 23 #[.int .i64 a, .int .i64 b] W fun e w' => e = .returned (.bool true) ∧ W = w') := Lib.hid (fun W => by rw [← hb]; exact rbounds_any a b W)
  clear hb
  obtain ⟨V0, hV0⟩ : ∃ V, V = mg0.vals := ⟨_, rfl⟩
  have HB0 : Hid (∀ W, (Instr.build 24 #[]).run Tryd.prog W = .ok (.agg V0.toArray) W) := Lib.hid (fun W => by rw [hV0]; exact mgBuild W)
  have HI_V0 : Hid ((Tryd.prog.info? 24).map (·.size) = some V0.length) := Lib.hid (by rw [hV0]; exact Tryd.infoMg _)
  have HO_V0 : Hid (V0.toArray.all (·.oneCell') = true) := Lib.hid (by rw [hV0]; exact mg_one _)
  have HL_V0 : Hid (V0.length = 4) := Lib.hid (by rw [hV0]; rfl)
  have hz0 : V0.toArray = #[.int .i64 0, .int .i64 0, .int .u32 0, .string ⟨#[]⟩] := by rw [hV0]; rfl
  have HV0 := Lib.hid hV0
  clear hV0
  have HI_VM : Hid ((Tryd.prog.info? 24).map (·.size) = some m.vals.length) := Lib.hid (Tryd.infoMg _)
  have HM0 : Hid (m.vals[0]? = some (.int .i64 4)) := Lib.hid (by rw [← h1]; rfl)
  have HM1 : Hid (m.vals[1]? = some (.int .i64 0)) := Lib.hid (by rw [← h2]; rfl)
  have HM2 : Hid (m.vals[2]? = some (.int .u32 4)) := Lib.hid (by rw [← hv]; rfl)
  have HM3 : Hid (m.vals[3]? = some (.string m.da)) := Lib.hid (by exact rfl)
  have HK1 : Hid (Kp w w.heap.size [(w.heap.size + 1, 24, V0), (w.heap.size, 24, m.vals)] ((w.alloc (.cells m.vals.toArray 24)).alloc (.cells V0.toArray 24))) := Lib.hid (by
    have h := (Kp.start w).new 24 m.vals
    have e1 : (w.alloc (.cells m.vals.toArray 24)).heap.size = w.heap.size + 1 := by simp
    have h2 := h.new 24 V0
    rwa [e1] at h2)
  generalize m.vals = VM at *
  generalize hw1 : (w.alloc (.cells VM.toArray 24)).alloc (.cells V0.toArray 24) = w1 at *
  rw [hz0] at hw1
  go_enter Tryd.func16, Tryd.ntmps16
  go_upto_region 1 with (fail)
  clear hw1 hz0
  go_wp2_with (fail)
  refine (HBn.out _).mono ?_
  rintro e w99 ⟨rfl, rfl⟩
  have c0 : w1.cell? ⟨w.heap.size, 0, none⟩ = some (.int .i64 4) := HK1.out.tl.hd.at HM0.out
  have c1 : w1.cell? ⟨w.heap.size, 1, none⟩ = some (.int .i64 0) := HK1.out.tl.hd.at HM1.out
  go_upto_region 15 with (fail)
  clear c0 c1
  have c2 : w1.cell? ⟨w.heap.size, 2, none⟩ = some (.int .u32 4) := HK1.out.tl.hd.at HM2.out
  go_upto_region 28 with (fail)
  clear c2
  go_upto_region 30 with (fail)
  have c3 : w1.cell? ⟨w.heap.size, 3, none⟩ = some (.string m.da) := HK1.out.tl.hd.at HM3.out
  have hkc := HK1.out.hd
  have htf := hkc.there 4 (by have := HL_V0.out; simp; omega)
  have HIN : Hid ((Tryd.prog.info? 24).map (·.size) = some ([.int .i64 12, .int .i64 0, .int .u32 33554432, .string m.da] : List Value).length) := Lib.hid (Tryd.infoMg (⟨12, 0, 33554432, m.da⟩ : Mg))
  go_wp2_with (((with_reducible (change wpList _ _ _ _ _ _)); ((refine wpList_store_mid rfl 24 _ _ rfl (w.heap.size + 1) 0 ([.int .i64 12, .int .i64 0, .int .u32 33554432, .string m.da] : List Value).toArray rfl rfl htf (by simpa using HIN.out) (by simp [Value.oneCell']) ?_))))
  have hk5 := Bk.sets [.int .i64 12, .int .i64 0, .int .u32 33554432, .string m.da] 0 _ _ hkc
  rw [puts_whole V0.toArray [.int .i64 12, .int .i64 0, .int .u32 33554432, .string m.da] (by have := HL_V0.out; simp; omega)] at hk5
  refine bodyPost_ret (v := .tuple #[.agg ([.int .i64 12, .int .i64 0, .int .u32 33554432, .string m.da] : List Value).toArray, .bool true]) ?_ rfl ?_
  · exact results_cell2 rfl rfl rfl (run_loadVar_mid _ (w.heap.size + 1) 0 24 [.int .i64 12, .int .i64 0, .int .u32 33554432, .string m.da] _ hk5.range Tryd.underlying24 rfl HIN.out)
  · rw [HS.out]
    exact ⟨rfl, below_sets _ (by omega) 0 _ HK1.out.2.1⟩
set_option maxRecDepth 100000 in
set_option maxHeartbeats 4000000 in
theorem rfour_ptr_r5 (m : Mg) (a b : Int) (w : World) (hb : mtus a b = true) (h1 : m.kd = 4) (h2 : m.cd = 0) (hv : m.rs = 5) : Calls Tryd.prog 16 #[.agg m.vals.toArray, .int .i64 a, .int .i64 b] w (fun e w' => e = .returned (.tuple #[.agg (four m a b).1.vals.toArray, .bool (four m a b).2]) ∧ Below w.heap.size w w') := by
  have hp : ptr4 m.rs = 2 := by unfold ptr4; omega
  have HS : Hid (four m a b = (⟨12, 0, 33554432, m.da⟩, true)) := Lib.hid (by unfold four; rw [hb, if_neg (by simp), if_neg (by omega), if_pos ⟨h1, h2⟩, hp, if_neg (by omega)]; rfl)
  have HBn : Hid (∀ W, Calls Tryd.prog 23 #[.int .i64 a, .int .i64 b] W fun e w' => e = .returned (.bool true) ∧ W = w') := Lib.hid (fun W => by rw [← hb]; exact rbounds_any a b W)
  clear hb
  obtain ⟨V0, hV0⟩ : ∃ V, V = mg0.vals := ⟨_, rfl⟩
  have HB0 : Hid (∀ W, (Instr.build 24 #[]).run Tryd.prog W = .ok (.agg V0.toArray) W) := Lib.hid (fun W => by rw [hV0]; exact mgBuild W)
  have HI_V0 : Hid ((Tryd.prog.info? 24).map (·.size) = some V0.length) := Lib.hid (by rw [hV0]; exact Tryd.infoMg _)
  have HO_V0 : Hid (V0.toArray.all (·.oneCell') = true) := Lib.hid (by rw [hV0]; exact mg_one _)
  have HL_V0 : Hid (V0.length = 4) := Lib.hid (by rw [hV0]; rfl)
  have hz0 : V0.toArray = #[.int .i64 0, .int .i64 0, .int .u32 0, .string ⟨#[]⟩] := by rw [hV0]; rfl
  have HV0 := Lib.hid hV0
  clear hV0
  have HI_VM : Hid ((Tryd.prog.info? 24).map (·.size) = some m.vals.length) := Lib.hid (Tryd.infoMg _)
  have HM0 : Hid (m.vals[0]? = some (.int .i64 4)) := Lib.hid (by rw [← h1]; rfl)
  have HM1 : Hid (m.vals[1]? = some (.int .i64 0)) := Lib.hid (by rw [← h2]; rfl)
  have HM2 : Hid (m.vals[2]? = some (.int .u32 5)) := Lib.hid (by rw [← hv]; rfl)
  have HM3 : Hid (m.vals[3]? = some (.string m.da)) := Lib.hid (by exact rfl)
  have HK1 : Hid (Kp w w.heap.size [(w.heap.size + 1, 24, V0), (w.heap.size, 24, m.vals)] ((w.alloc (.cells m.vals.toArray 24)).alloc (.cells V0.toArray 24))) := Lib.hid (by
    have h := (Kp.start w).new 24 m.vals
    have e1 : (w.alloc (.cells m.vals.toArray 24)).heap.size = w.heap.size + 1 := by simp
    have h2 := h.new 24 V0
    rwa [e1] at h2)
  generalize m.vals = VM at *
  generalize hw1 : (w.alloc (.cells VM.toArray 24)).alloc (.cells V0.toArray 24) = w1 at *
  rw [hz0] at hw1
  go_enter Tryd.func16, Tryd.ntmps16
  go_upto_region 1 with (fail)
  clear hw1 hz0
  go_wp2_with (fail)
  refine (HBn.out _).mono ?_
  rintro e w99 ⟨rfl, rfl⟩
  have c0 : w1.cell? ⟨w.heap.size, 0, none⟩ = some (.int .i64 4) := HK1.out.tl.hd.at HM0.out
  have c1 : w1.cell? ⟨w.heap.size, 1, none⟩ = some (.int .i64 0) := HK1.out.tl.hd.at HM1.out
  go_upto_region 15 with (fail)
  clear c0 c1
  have c2 : w1.cell? ⟨w.heap.size, 2, none⟩ = some (.int .u32 5) := HK1.out.tl.hd.at HM2.out
  go_upto_region 28 with (fail)
  clear c2
  go_upto_region 30 with (fail)
  have c3 : w1.cell? ⟨w.heap.size, 3, none⟩ = some (.string m.da) := HK1.out.tl.hd.at HM3.out
  have hkc := HK1.out.hd
  have htf := hkc.there 4 (by have := HL_V0.out; simp; omega)
  have HIN : Hid ((Tryd.prog.info? 24).map (·.size) = some ([.int .i64 12, .int .i64 0, .int .u32 33554432, .string m.da] : List Value).length) := Lib.hid (Tryd.infoMg (⟨12, 0, 33554432, m.da⟩ : Mg))
  go_wp2_with (((with_reducible (change wpList _ _ _ _ _ _)); ((refine wpList_store_mid rfl 24 _ _ rfl (w.heap.size + 1) 0 ([.int .i64 12, .int .i64 0, .int .u32 33554432, .string m.da] : List Value).toArray rfl rfl htf (by simpa using HIN.out) (by simp [Value.oneCell']) ?_))))
  have hk5 := Bk.sets [.int .i64 12, .int .i64 0, .int .u32 33554432, .string m.da] 0 _ _ hkc
  rw [puts_whole V0.toArray [.int .i64 12, .int .i64 0, .int .u32 33554432, .string m.da] (by have := HL_V0.out; simp; omega)] at hk5
  refine bodyPost_ret (v := .tuple #[.agg ([.int .i64 12, .int .i64 0, .int .u32 33554432, .string m.da] : List Value).toArray, .bool true]) ?_ rfl ?_
  · exact results_cell2 rfl rfl rfl (run_loadVar_mid _ (w.heap.size + 1) 0 24 [.int .i64 12, .int .i64 0, .int .u32 33554432, .string m.da] _ hk5.range Tryd.underlying24 rfl HIN.out)
  · rw [HS.out]
    exact ⟨rfl, below_sets _ (by omega) 0 _ HK1.out.2.1⟩
set_option maxRecDepth 100000 in
set_option maxHeartbeats 4000000 in
theorem rfour_ptr_r6 (m : Mg) (a b : Int) (w : World) (hb : mtus a b = true) (h1 : m.kd = 4) (h2 : m.cd = 0) (hv : m.rs = 6) : Calls Tryd.prog 16 #[.agg m.vals.toArray, .int .i64 a, .int .i64 b] w (fun e w' => e = .returned (.tuple #[.agg (four m a b).1.vals.toArray, .bool (four m a b).2]) ∧ Below w.heap.size w w') := by
  have hp : ptr4 m.rs = 9 := by unfold ptr4; omega
  have HS : Hid (four m a b = (⟨12, 0, 150994944, m.da⟩, true)) := Lib.hid (by unfold four; rw [hb, if_neg (by simp), if_neg (by omega), if_pos ⟨h1, h2⟩, hp, if_neg (by omega)]; rfl)
  have HBn : Hid (∀ W, Calls Tryd.prog 23 #[.int .i64 a, .int .i64 b] W fun e w' => e = .returned (.bool true) ∧ W = w') := Lib.hid (fun W => by rw [← hb]; exact rbounds_any a b W)
  clear hb
  obtain ⟨V0, hV0⟩ : ∃ V, V = mg0.vals := ⟨_, rfl⟩
  have HB0 : Hid (∀ W, (Instr.build 24 #[]).run Tryd.prog W = .ok (.agg V0.toArray) W) := Lib.hid (fun W => by rw [hV0]; exact mgBuild W)
  have HI_V0 : Hid ((Tryd.prog.info? 24).map (·.size) = some V0.length) := Lib.hid (by rw [hV0]; exact Tryd.infoMg _)
  have HO_V0 : Hid (V0.toArray.all (·.oneCell') = true) := Lib.hid (by rw [hV0]; exact mg_one _)
  have HL_V0 : Hid (V0.length = 4) := Lib.hid (by rw [hV0]; rfl)
  have hz0 : V0.toArray = #[.int .i64 0, .int .i64 0, .int .u32 0, .string ⟨#[]⟩] := by rw [hV0]; rfl
  have HV0 := Lib.hid hV0
  clear hV0
  have HI_VM : Hid ((Tryd.prog.info? 24).map (·.size) = some m.vals.length) := Lib.hid (Tryd.infoMg _)
  have HM0 : Hid (m.vals[0]? = some (.int .i64 4)) := Lib.hid (by rw [← h1]; rfl)
  have HM1 : Hid (m.vals[1]? = some (.int .i64 0)) := Lib.hid (by rw [← h2]; rfl)
  have HM2 : Hid (m.vals[2]? = some (.int .u32 6)) := Lib.hid (by rw [← hv]; rfl)
  have HM3 : Hid (m.vals[3]? = some (.string m.da)) := Lib.hid (by exact rfl)
  have HK1 : Hid (Kp w w.heap.size [(w.heap.size + 1, 24, V0), (w.heap.size, 24, m.vals)] ((w.alloc (.cells m.vals.toArray 24)).alloc (.cells V0.toArray 24))) := Lib.hid (by
    have h := (Kp.start w).new 24 m.vals
    have e1 : (w.alloc (.cells m.vals.toArray 24)).heap.size = w.heap.size + 1 := by simp
    have h2 := h.new 24 V0
    rwa [e1] at h2)
  generalize m.vals = VM at *
  generalize hw1 : (w.alloc (.cells VM.toArray 24)).alloc (.cells V0.toArray 24) = w1 at *
  rw [hz0] at hw1
  go_enter Tryd.func16, Tryd.ntmps16
  go_upto_region 1 with (fail)
  clear hw1 hz0
  go_wp2_with (fail)
  refine (HBn.out _).mono ?_
  rintro e w99 ⟨rfl, rfl⟩
  have c0 : w1.cell? ⟨w.heap.size, 0, none⟩ = some (.int .i64 4) := HK1.out.tl.hd.at HM0.out
  have c1 : w1.cell? ⟨w.heap.size, 1, none⟩ = some (.int .i64 0) := HK1.out.tl.hd.at HM1.out
  go_upto_region 15 with (fail)
  clear c0 c1
  have c2 : w1.cell? ⟨w.heap.size, 2, none⟩ = some (.int .u32 6) := HK1.out.tl.hd.at HM2.out
  go_upto_region 28 with (fail)
  clear c2
  go_upto_region 30 with (fail)
  have c3 : w1.cell? ⟨w.heap.size, 3, none⟩ = some (.string m.da) := HK1.out.tl.hd.at HM3.out
  have hkc := HK1.out.hd
  have htf := hkc.there 4 (by have := HL_V0.out; simp; omega)
  have HIN : Hid ((Tryd.prog.info? 24).map (·.size) = some ([.int .i64 12, .int .i64 0, .int .u32 150994944, .string m.da] : List Value).length) := Lib.hid (Tryd.infoMg (⟨12, 0, 150994944, m.da⟩ : Mg))
  go_wp2_with (((with_reducible (change wpList _ _ _ _ _ _)); ((refine wpList_store_mid rfl 24 _ _ rfl (w.heap.size + 1) 0 ([.int .i64 12, .int .i64 0, .int .u32 150994944, .string m.da] : List Value).toArray rfl rfl htf (by simpa using HIN.out) (by simp [Value.oneCell']) ?_))))
  have hk5 := Bk.sets [.int .i64 12, .int .i64 0, .int .u32 150994944, .string m.da] 0 _ _ hkc
  rw [puts_whole V0.toArray [.int .i64 12, .int .i64 0, .int .u32 150994944, .string m.da] (by have := HL_V0.out; simp; omega)] at hk5
  refine bodyPost_ret (v := .tuple #[.agg ([.int .i64 12, .int .i64 0, .int .u32 150994944, .string m.da] : List Value).toArray, .bool true]) ?_ rfl ?_
  · exact results_cell2 rfl rfl rfl (run_loadVar_mid _ (w.heap.size + 1) 0 24 [.int .i64 12, .int .i64 0, .int .u32 150994944, .string m.da] _ hk5.range Tryd.underlying24 rfl HIN.out)
  · rw [HS.out]
    exact ⟨rfl, below_sets _ (by omega) 0 _ HK1.out.2.1⟩
set_option maxRecDepth 100000 in
set_option maxHeartbeats 4000000 in
theorem rfour_ptr_r7 (m : Mg) (a b : Int) (w : World) (hb : mtus a b = true) (h1 : m.kd = 4) (h2 : m.cd = 0) (hv : m.rs = 7) : Calls Tryd.prog 16 #[.agg m.vals.toArray, .int .i64 a, .int .i64 b] w (fun e w' => e = .returned (.tuple #[.agg (four m a b).1.vals.toArray, .bool (four m a b).2]) ∧ Below w.heap.size w w') := by
  have hp : ptr4 m.rs = 8 := by unfold ptr4; omega
  have HS : Hid (four m a b = (⟨12, 0, 134217728, m.da⟩, true)) := Lib.hid (by unfold four; rw [hb, if_neg (by simp), if_neg (by omega), if_pos ⟨h1, h2⟩, hp, if_neg (by omega)]; rfl)
  have HBn : Hid (∀ W, Calls Tryd.prog 23 #[.int .i64 a, .int .i64 b] W fun e w' => e = .returned (.bool true) ∧ W = w') := Lib.hid (fun W => by rw [← hb]; exact rbounds_any a b W)
  clear hb
  obtain ⟨V0, hV0⟩ : ∃ V, V = mg0.vals := ⟨_, rfl⟩
  have HB0 : Hid (∀ W, (Instr.build 24 #[]).run Tryd.prog W = .ok (.agg V0.toArray) W) := Lib.hid (fun W => by rw [hV0]; exact mgBuild W)
  have HI_V0 : Hid ((Tryd.prog.info? 24).map (·.size) = some V0.length) := Lib.hid (by rw [hV0]; exact Tryd.infoMg _)
  have HO_V0 : Hid (V0.toArray.all (·.oneCell') = true) := Lib.hid (by rw [hV0]; exact mg_one _)
  have HL_V0 : Hid (V0.length = 4) := Lib.hid (by rw [hV0]; rfl)
  have hz0 : V0.toArray = #[.int .i64 0, .int .i64 0, .int .u32 0, .string ⟨#[]⟩] := by rw [hV0]; rfl
  have HV0 := Lib.hid hV0
  clear hV0
  have HI_VM : Hid ((Tryd.prog.info? 24).map (·.size) = some m.vals.length) := Lib.hid (Tryd.infoMg _)
  have HM0 : Hid (m.vals[0]? = some (.int .i64 4)) := Lib.hid (by rw [← h1]; rfl)
  have HM1 : Hid (m.vals[1]? = some (.int .i64 0)) := Lib.hid (by rw [← h2]; rfl)
  have HM2 : Hid (m.vals[2]? = some (.int .u32 7)) := Lib.hid (by rw [← hv]; rfl)
  have HM3 : Hid (m.vals[3]? = some (.string m.da)) := Lib.hid (by exact rfl)
  have HK1 : Hid (Kp w w.heap.size [(w.heap.size + 1, 24, V0), (w.heap.size, 24, m.vals)] ((w.alloc (.cells m.vals.toArray 24)).alloc (.cells V0.toArray 24))) := Lib.hid (by
    have h := (Kp.start w).new 24 m.vals
    have e1 : (w.alloc (.cells m.vals.toArray 24)).heap.size = w.heap.size + 1 := by simp
    have h2 := h.new 24 V0
    rwa [e1] at h2)
  generalize m.vals = VM at *
  generalize hw1 : (w.alloc (.cells VM.toArray 24)).alloc (.cells V0.toArray 24) = w1 at *
  rw [hz0] at hw1
  go_enter Tryd.func16, Tryd.ntmps16
  go_upto_region 1 with (fail)
  clear hw1 hz0
  go_wp2_with (fail)
  refine (HBn.out _).mono ?_
  rintro e w99 ⟨rfl, rfl⟩
  have c0 : w1.cell? ⟨w.heap.size, 0, none⟩ = some (.int .i64 4) := HK1.out.tl.hd.at HM0.out
  have c1 : w1.cell? ⟨w.heap.size, 1, none⟩ = some (.int .i64 0) := HK1.out.tl.hd.at HM1.out
  go_upto_region 15 with (fail)
  clear c0 c1
  have c2 : w1.cell? ⟨w.heap.size, 2, none⟩ = some (.int .u32 7) := HK1.out.tl.hd.at HM2.out
  go_upto_region 28 with (fail)
  clear c2
  go_upto_region 30 with (fail)
  have c3 : w1.cell? ⟨w.heap.size, 3, none⟩ = some (.string m.da) := HK1.out.tl.hd.at HM3.out
  have hkc := HK1.out.hd
  have htf := hkc.there 4 (by have := HL_V0.out; simp; omega)
  have HIN : Hid ((Tryd.prog.info? 24).map (·.size) = some ([.int .i64 12, .int .i64 0, .int .u32 134217728, .string m.da] : List Value).length) := Lib.hid (Tryd.infoMg (⟨12, 0, 134217728, m.da⟩ : Mg))
  go_wp2_with (((with_reducible (change wpList _ _ _ _ _ _)); ((refine wpList_store_mid rfl 24 _ _ rfl (w.heap.size + 1) 0 ([.int .i64 12, .int .i64 0, .int .u32 134217728, .string m.da] : List Value).toArray rfl rfl htf (by simpa using HIN.out) (by simp [Value.oneCell']) ?_))))
  have hk5 := Bk.sets [.int .i64 12, .int .i64 0, .int .u32 134217728, .string m.da] 0 _ _ hkc
  rw [puts_whole V0.toArray [.int .i64 12, .int .i64 0, .int .u32 134217728, .string m.da] (by have := HL_V0.out; simp; omega)] at hk5
  refine bodyPost_ret (v := .tuple #[.agg ([.int .i64 12, .int .i64 0, .int .u32 134217728, .string m.da] : List Value).toArray, .bool true]) ?_ rfl ?_
  · exact results_cell2 rfl rfl rfl (run_loadVar_mid _ (w.heap.size + 1) 0 24 [.int .i64 12, .int .i64 0, .int .u32 134217728, .string m.da] _ hk5.range Tryd.underlying24 rfl HIN.out)
  · rw [HS.out]
    exact ⟨rfl, below_sets _ (by omega) 0 _ HK1.out.2.1⟩
set_option maxRecDepth 100000 in
set_option maxHeartbeats 4000000 in
theorem rfour_ptr_r8 (m : Mg) (a b : Int) (w : World) (hr : 0 ≤ m.rs ∧ m.rs < 4294967296) (hb : mtus a b = true) (h1 : m.kd = 4) (h2 : m.cd = 0) (hv : 8 ≤ m.rs) (hw : m.rs < 24) : Calls Tryd.prog 16 #[.agg m.vals.toArray, .int .i64 a, .int .i64 b] w (fun e w' => e = .returned (.tuple #[.agg (four m a b).1.vals.toArray, .bool (four m a b).2]) ∧ Below w.heap.size w w') := by
  have hp : ptr4 m.rs = 12 := by unfold ptr4; omega
  have HS : Hid (four m a b = (⟨12, 0, 201326592, m.da⟩, true)) := Lib.hid (by unfold four; rw [hb, if_neg (by simp), if_neg (by omega), if_pos ⟨h1, h2⟩, hp, if_neg (by omega)]; rfl)
  have HBn : Hid (∀ W, Calls Tryd.prog 23 #[.int .i64 a, .int .i64 b] W fun e w' => e = .returned (.bool true) ∧ W = w') := Lib.hid (fun W => by rw [← hb]; exact rbounds_any a b W)
  clear hb
  have kle : ¬ m.rs ≤ 1 := by omega
  have k4 : (m.rs == 4) = false := by rw [beq_eq_false_iff_ne]; omega
  have k5 : (m.rs == 5) = false := by rw [beq_eq_false_iff_ne]; omega
  have k6 : (m.rs == 6) = false := by rw [beq_eq_false_iff_ne]; omega
  have k7 : (m.rs == 7) = false := by rw [beq_eq_false_iff_ne]; omega
  have k8 : 8 ≤ m.rs := by omega
  obtain ⟨V0, hV0⟩ : ∃ V, V = mg0.vals := ⟨_, rfl⟩
  have HB0 : Hid (∀ W, (Instr.build 24 #[]).run Tryd.prog W = .ok (.agg V0.toArray) W) := Lib.hid (fun W => by rw [hV0]; exact mgBuild W)
  have HI_V0 : Hid ((Tryd.prog.info? 24).map (·.size) = some V0.length) := Lib.hid (by rw [hV0]; exact Tryd.infoMg _)
  have HO_V0 : Hid (V0.toArray.all (·.oneCell') = true) := Lib.hid (by rw [hV0]; exact mg_one _)
  have HL_V0 : Hid (V0.length = 4) := Lib.hid (by rw [hV0]; rfl)
  have hz0 : V0.toArray = #[.int .i64 0, .int .i64 0, .int .u32 0, .string ⟨#[]⟩] := by rw [hV0]; rfl
  have HV0 := Lib.hid hV0
  clear hV0
  have HI_VM : Hid ((Tryd.prog.info? 24).map (·.size) = some m.vals.length) := Lib.hid (Tryd.infoMg _)
  have HM0 : Hid (m.vals[0]? = some (.int .i64 4)) := Lib.hid (by rw [← h1]; rfl)
  have HM1 : Hid (m.vals[1]? = some (.int .i64 0)) := Lib.hid (by rw [← h2]; rfl)
  have HM2 : Hid (m.vals[2]? = some (.int .u32 m.rs)) := Lib.hid (by exact rfl)
  have HM3 : Hid (m.vals[3]? = some (.string m.da)) := Lib.hid (by exact rfl)
  have HK1 : Hid (Kp w w.heap.size [(w.heap.size + 1, 24, V0), (w.heap.size, 24, m.vals)] ((w.alloc (.cells m.vals.toArray 24)).alloc (.cells V0.toArray 24))) := Lib.hid (by
    have h := (Kp.start w).new 24 m.vals
    have e1 : (w.alloc (.cells m.vals.toArray 24)).heap.size = w.heap.size + 1 := by simp
    have h2 := h.new 24 V0
    rwa [e1] at h2)
  generalize m.vals = VM at *
  generalize hw1 : (w.alloc (.cells VM.toArray 24)).alloc (.cells V0.toArray 24) = w1 at *
  rw [hz0] at hw1
  go_enter Tryd.func16, Tryd.ntmps16
  go_upto_region 1 with (fail)
  clear hw1 hz0
  go_wp2_with (fail)
  refine (HBn.out _).mono ?_
  rintro e w99 ⟨rfl, rfl⟩
  have c0 : w1.cell? ⟨w.heap.size, 0, none⟩ = some (.int .i64 4) := HK1.out.tl.hd.at HM0.out
  have c1 : w1.cell? ⟨w.heap.size, 1, none⟩ = some (.int .i64 0) := HK1.out.tl.hd.at HM1.out
  go_upto_region 15 with (fail)
  clear c0 c1
  have c2 : w1.cell? ⟨w.heap.size, 2, none⟩ = some (.int .u32 m.rs) := HK1.out.tl.hd.at HM2.out
  go_upto_region 28 with (fail)
  clear c2
  go_upto_region 30 with (fail)
  have c3 : w1.cell? ⟨w.heap.size, 3, none⟩ = some (.string m.da) := HK1.out.tl.hd.at HM3.out
  have hkc := HK1.out.hd
  have htf := hkc.there 4 (by have := HL_V0.out; simp; omega)
  have HIN : Hid ((Tryd.prog.info? 24).map (·.size) = some ([.int .i64 12, .int .i64 0, .int .u32 201326592, .string m.da] : List Value).length) := Lib.hid (Tryd.infoMg (⟨12, 0, 201326592, m.da⟩ : Mg))
  go_wp2_with (((with_reducible (change wpList _ _ _ _ _ _)); ((refine wpList_store_mid rfl 24 _ _ rfl (w.heap.size + 1) 0 ([.int .i64 12, .int .i64 0, .int .u32 201326592, .string m.da] : List Value).toArray rfl rfl htf (by simpa using HIN.out) (by simp [Value.oneCell']) ?_))))
  have hk5 := Bk.sets [.int .i64 12, .int .i64 0, .int .u32 201326592, .string m.da] 0 _ _ hkc
  rw [puts_whole V0.toArray [.int .i64 12, .int .i64 0, .int .u32 201326592, .string m.da] (by have := HL_V0.out; simp; omega)] at hk5
  refine bodyPost_ret (v := .tuple #[.agg ([.int .i64 12, .int .i64 0, .int .u32 201326592, .string m.da] : List Value).toArray, .bool true]) ?_ rfl ?_
  · exact results_cell2 rfl rfl rfl (run_loadVar_mid _ (w.heap.size + 1) 0 24 [.int .i64 12, .int .i64 0, .int .u32 201326592, .string m.da] _ hk5.range Tryd.underlying24 rfl HIN.out)
  · rw [HS.out]
    exact ⟨rfl, below_sets _ (by omega) 0 _ HK1.out.2.1⟩
set_option maxRecDepth 100000 in
set_option maxHeartbeats 4000000 in
theorem rfour_ptr_r24 (m : Mg) (a b : Int) (w : World) (hr : 0 ≤ m.rs ∧ m.rs < 4294967296) (hb : mtus a b = true) (h1 : m.kd = 4) (h2 : m.cd = 0) (hv : 24 ≤ m.rs) (hw : m.rs < 40) : Calls Tryd.prog 16 #[.agg m.vals.toArray, .int .i64 a, .int .i64 b] w (fun e w' => e = .returned (.tuple #[.agg (four m a b).1.vals.toArray, .bool (four m a b).2]) ∧ Below w.heap.size w w') := by
  have hp : ptr4 m.rs = 16 := by unfold ptr4; omega
  have HS : Hid (four m a b = (⟨12, 0, 268435456, m.da⟩, true)) := Lib.hid (by unfold four; rw [hb, if_neg (by simp), if_neg (by omega), if_pos ⟨h1, h2⟩, hp, if_neg (by omega)]; rfl)
  have HBn : Hid (∀ W, Calls Tryd.prog 23 #[.int .i64 a, .int .i64 b] W fun e w' => e = .returned (.bool true) ∧ W = w') := Lib.hid (fun W => by rw [← hb]; exact rbounds_any a b W)
  clear hb
  have kle : ¬ m.rs ≤ 1 := by omega
  have k4 : (m.rs == 4) = false := by rw [beq_eq_false_iff_ne]; omega
  have k5 : (m.rs == 5) = false := by rw [beq_eq_false_iff_ne]; omega
  have k6 : (m.rs == 6) = false := by rw [beq_eq_false_iff_ne]; omega
  have k7 : (m.rs == 7) = false := by rw [beq_eq_false_iff_ne]; omega
  have k8 : 8 ≤ m.rs := by omega
  have kn24 : ¬ m.rs < 24 := by omega
  have k24 : 24 ≤ m.rs := by omega
  obtain ⟨V0, hV0⟩ : ∃ V, V = mg0.vals := ⟨_, rfl⟩
  have HB0 : Hid (∀ W, (Instr.build 24 #[]).run Tryd.prog W = .ok (.agg V0.toArray) W) := Lib.hid (fun W => by rw [hV0]; exact mgBuild W)
  have HI_V0 : Hid ((Tryd.prog.info? 24).map (·.size) = some V0.length) := Lib.hid (by rw [hV0]; exact Tryd.infoMg _)
  have HO_V0 : Hid (V0.toArray.all (·.oneCell') = true) := Lib.hid (by rw [hV0]; exact mg_one _)
  have HL_V0 : Hid (V0.length = 4) := Lib.hid (by rw [hV0]; rfl)
  have hz0 : V0.toArray = #[.int .i64 0, .int .i64 0, .int .u32 0, .string ⟨#[]⟩] := by rw [hV0]; rfl
  have HV0 := Lib.hid hV0
  clear hV0
  have HI_VM : Hid ((Tryd.prog.info? 24).map (·.size) = some m.vals.length) := Lib.hid (Tryd.infoMg _)
  have HM0 : Hid (m.vals[0]? = some (.int .i64 4)) := Lib.hid (by rw [← h1]; rfl)
  have HM1 : Hid (m.vals[1]? = some (.int .i64 0)) := Lib.hid (by rw [← h2]; rfl)
  have HM2 : Hid (m.vals[2]? = some (.int .u32 m.rs)) := Lib.hid (by exact rfl)
  have HM3 : Hid (m.vals[3]? = some (.string m.da)) := Lib.hid (by exact rfl)
  have HK1 : Hid (Kp w w.heap.size [(w.heap.size + 1, 24, V0), (w.heap.size, 24, m.vals)] ((w.alloc (.cells m.vals.toArray 24)).alloc (.cells V0.toArray 24))) := Lib.hid (by
    have h := (Kp.start w).new 24 m.vals
    have e1 : (w.alloc (.cells m.vals.toArray 24)).heap.size = w.heap.size + 1 := by simp
    have h2 := h.new 24 V0
    rwa [e1] at h2)
  generalize m.vals = VM at *
  generalize hw1 : (w.alloc (.cells VM.toArray 24)).alloc (.cells V0.toArray 24) = w1 at *
  rw [hz0] at hw1
  go_enter Tryd.func16, Tryd.ntmps16
  go_upto_region 1 with (fail)
  clear hw1 hz0
  go_wp2_with (fail)
  refine (HBn.out _).mono ?_
  rintro e w99 ⟨rfl, rfl⟩
  have c0 : w1.cell? ⟨w.heap.size, 0, none⟩ = some (.int .i64 4) := HK1.out.tl.hd.at HM0.out
  have c1 : w1.cell? ⟨w.heap.size, 1, none⟩ = some (.int .i64 0) := HK1.out.tl.hd.at HM1.out
  go_upto_region 15 with (fail)
  clear c0 c1
  have c2 : w1.cell? ⟨w.heap.size, 2, none⟩ = some (.int .u32 m.rs) := HK1.out.tl.hd.at HM2.out
  go_upto_region 28 with (fail)
  clear c2
  go_upto_region 30 with (fail)
  have c3 : w1.cell? ⟨w.heap.size, 3, none⟩ = some (.string m.da) := HK1.out.tl.hd.at HM3.out
  have hkc := HK1.out.hd
  have htf := hkc.there 4 (by have := HL_V0.out; simp; omega)
  have HIN : Hid ((Tryd.prog.info? 24).map (·.size) = some ([.int .i64 12, .int .i64 0, .int .u32 268435456, .string m.da] : List Value).length) := Lib.hid (Tryd.infoMg (⟨12, 0, 268435456, m.da⟩ : Mg))
  go_wp2_with (((with_reducible (change wpList _ _ _ _ _ _)); ((refine wpList_store_mid rfl 24 _ _ rfl (w.heap.size + 1) 0 ([.int .i64 12, .int .i64 0, .int .u32 268435456, .string m.da] : List Value).toArray rfl rfl htf (by simpa using HIN.out) (by simp [Value.oneCell']) ?_))))
  have hk5 := Bk.sets [.int .i64 12, .int .i64 0, .int .u32 268435456, .string m.da] 0 _ _ hkc
  rw [puts_whole V0.toArray [.int .i64 12, .int .i64 0, .int .u32 268435456, .string m.da] (by have := HL_V0.out; simp; omega)] at hk5
  refine bodyPost_ret (v := .tuple #[.agg ([.int .i64 12, .int .i64 0, .int .u32 268435456, .string m.da] : List Value).toArray, .bool true]) ?_ rfl ?_
  · exact results_cell2 rfl rfl rfl (run_loadVar_mid _ (w.heap.size + 1) 0 24 [.int .i64 12, .int .i64 0, .int .u32 268435456, .string m.da] _ hk5.range Tryd.underlying24 rfl HIN.out)
  · rw [HS.out]
    exact ⟨rfl, below_sets _ (by omega) 0 _ HK1.out.2.1⟩
set_option maxRecDepth 100000 in
set_option maxHeartbeats 4000000 in
theorem rfour_ptr_far (m : Mg) (a b : Int) (w : World) (hr : 0 ≤ m.rs ∧ m.rs < 4294967296) (hb : mtus a b = true) (h1 : m.kd = 4) (h2 : m.cd = 0) (hv : 40 ≤ m.rs) : Calls Tryd.prog 16 #[.agg m.vals.toArray, .int .i64 a, .int .i64 b] w (fun e w' => e = .returned (.tuple #[.agg (four m a b).1.vals.toArray, .bool (four m a b).2]) ∧ Below w.heap.size w w') := by
  have hp : ptr4 m.rs = -1 := by unfold ptr4; omega
  have HS : Hid (four m a b = (mg0, false)) := Lib.hid (by unfold four; rw [hb, if_neg (by simp), if_neg (by omega), if_pos ⟨h1, h2⟩, hp, if_pos (by omega)])
  have HBn : Hid (∀ W, Calls Tryd.prog 23 #[.int .i64 a, .int .i64 b] W fun e w' => e = .returned (.bool true) ∧ W = w') := Lib.hid (fun W => by rw [← hb]; exact rbounds_any a b W)
  clear hb
  have kle : ¬ m.rs ≤ 1 := by omega
  have k4 : (m.rs == 4) = false := by rw [beq_eq_false_iff_ne]; omega
  have k5 : (m.rs == 5) = false := by rw [beq_eq_false_iff_ne]; omega
  have k6 : (m.rs == 6) = false := by rw [beq_eq_false_iff_ne]; omega
  have k7 : (m.rs == 7) = false := by rw [beq_eq_false_iff_ne]; omega
  have k8 : 8 ≤ m.rs := by omega
  have kn24 : ¬ m.rs < 24 := by omega
  have k24 : 24 ≤ m.rs := by omega
  have kn40 : ¬ m.rs < 40 := by omega
  obtain ⟨V0, hV0⟩ : ∃ V, V = mg0.vals := ⟨_, rfl⟩
  have HB0 : Hid (∀ W, (Instr.build 24 #[]).run Tryd.prog W = .ok (.agg V0.toArray) W) := Lib.hid (fun W => by rw [hV0]; exact mgBuild W)
  have HI_V0 : Hid ((Tryd.prog.info? 24).map (·.size) = some V0.length) := Lib.hid (by rw [hV0]; exact Tryd.infoMg _)
  have HO_V0 : Hid (V0.toArray.all (·.oneCell') = true) := Lib.hid (by rw [hV0]; exact mg_one _)
  have HL_V0 : Hid (V0.length = 4) := Lib.hid (by rw [hV0]; rfl)
  have hz0 : V0.toArray = #[.int .i64 0, .int .i64 0, .int .u32 0, .string ⟨#[]⟩] := by rw [hV0]; rfl
  have HV0 := Lib.hid hV0
  clear hV0
  have HI_VM : Hid ((Tryd.prog.info? 24).map (·.size) = some m.vals.length) := Lib.hid (Tryd.infoMg _)
  have HM0 : Hid (m.vals[0]? = some (.int .i64 4)) := Lib.hid (by rw [← h1]; rfl)
  have HM1 : Hid (m.vals[1]? = some (.int .i64 0)) := Lib.hid (by rw [← h2]; rfl)
  have HM2 : Hid (m.vals[2]? = some (.int .u32 m.rs)) := Lib.hid (by exact rfl)
  have HM3 : Hid (m.vals[3]? = some (.string m.da)) := Lib.hid (by exact rfl)
  have HK1 : Hid (Kp w w.heap.size [(w.heap.size + 1, 24, V0), (w.heap.size, 24, m.vals)] ((w.alloc (.cells m.vals.toArray 24)).alloc (.cells V0.toArray 24))) := Lib.hid (by
    have h := (Kp.start w).new 24 m.vals
    have e1 : (w.alloc (.cells m.vals.toArray 24)).heap.size = w.heap.size + 1 := by simp
    have h2 := h.new 24 V0
    rwa [e1] at h2)
  generalize m.vals = VM at *
  generalize hw1 : (w.alloc (.cells VM.toArray 24)).alloc (.cells V0.toArray 24) = w1 at *
  rw [hz0] at hw1
  go_enter Tryd.func16, Tryd.ntmps16
  go_upto_region 1 with (fail)
  clear hw1 hz0
  go_wp2_with (fail)
  refine (HBn.out _).mono ?_
  rintro e w99 ⟨rfl, rfl⟩
  have c0 : w1.cell? ⟨w.heap.size, 0, none⟩ = some (.int .i64 4) := HK1.out.tl.hd.at HM0.out
  have c1 : w1.cell? ⟨w.heap.size, 1, none⟩ = some (.int .i64 0) := HK1.out.tl.hd.at HM1.out
  go_upto_region 15 with (fail)
  clear c0 c1
  have c2 : w1.cell? ⟨w.heap.size, 2, none⟩ = some (.int .u32 m.rs) := HK1.out.tl.hd.at HM2.out
  go_upto_region 28 with (fail)
  clear c2
  go_upto_region 29 with (fail)
  have hkc := HK1.out.hd
  have htf := hkc.there V0.toArray.size (Nat.le_refl _)
  go_wp2_with (((with_reducible (change wpList _ _ _ _ _ _)); (first | (refine Great.wpList_readTo rfl _ rfl (.agg V0.toArray) (run_execN (T := 24) (l := #[]) (m := #[]) rfl (by simp) (HB0.out _)) ?_) | (refine wpList_store_mid rfl 24 _ _ rfl (w.heap.size + 1) 0 V0.toArray rfl rfl htf (by simpa using HI_V0.out) HO_V0.out ?_))))
  have hk5 := Bk.sets V0 0 _ _ hkc
  rw [puts_whole V0.toArray V0 (by simp)] at hk5
  refine bodyPost_ret (v := .tuple #[.agg V0.toArray, .bool false]) ?_ rfl ?_
  · exact results_cell2 rfl rfl rfl (run_loadVar_mid _ (w.heap.size + 1) 0 24 V0 _ hk5.range Tryd.underlying24 rfl HI_V0.out)
  · rw [HS.out]
    exact ⟨by rw [HV0.out], below_sets _ (by omega) 0 _ HK1.out.2.1⟩
end Go.Proofs.YtnehabpdpkjaeaaDoor
