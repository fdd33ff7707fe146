/-
  Proved here: what the document's To4 answers off its table; To4 in one.
  Conditions: none.
-/
import Derived.Test.YtnehabpdpkjaeaaDoorR4b
namespace Go.Proofs.YtnehabpdpkjaeaaDoor
open Go.RowKit

theorem ln4_mem {r : Int} {kd cd : Int} {x : Ln} (h : findL (ln4 r) kd cd = some x) : x.2.2.2.2 = r ∨ x.2.2.2.2 = 0 := by
  obtain ⟨hm, _⟩ := findL_mem h
  unfold ln4 at hm
  simp only [List.mem_cons, List.not_mem_nil, or_false] at hm
  rcases hm with rfl | rfl | rfl | rfl | rfl | rfl | rfl | rfl | rfl | rfl
  all_goals first | exact .inl rfl | exact .inr rfl
set_option maxRecDepth 100000 in
set_option maxHeartbeats 4000000 in
theorem rfour_tabA_none (m : Mg) (a b : Int) (w : World) (hr : 0 ≤ m.rs ∧ m.rs < 4294967296) (hb : mtus a b = true) (g1 : m.kd ≠ 2) (g2 : m.kd ≠ 4) (hf : findL (ln4 m.rs) m.kd m.cd = none) : Calls Tryd.prog 16 #[.agg m.vals.toArray, .int .i64 a, .int .i64 b] w (fun e w' => e = .returned (.tuple #[.agg (four m a b).1.vals.toArray, .bool (four m a b).2]) ∧ Below w.heap.size w w') := by
  have HS : Hid (four m a b = (mg0, false)) := Lib.hid (by unfold four; rw [hb, if_neg (by simp), if_neg (by omega), if_neg (by omega), hf]; rfl)
  have HBn : Hid (∀ W, Calls Tryd.prog 23 #[.int .i64 a, .int .i64 b] W fun e w' => e = .returned (.bool true) ∧ W = w') := Lib.hid (fun W => by rw [← hb]; exact rbounds_any a b W)
  clear hb
  obtain ⟨VF, hVF⟩ : ∃ V, V = lnv ln0 := ⟨_, rfl⟩
  have CF : Hid (∀ (W : World) (v : Value), Lns W v (ln4 m.rs) → Calls Tryd.prog 24 #[v, .agg m.vals.toArray] W fun e w' => e = .returned (.tuple #[.agg VF.toArray, .bool false]) ∧ Below W.heap.size W w') := Lib.hid (fun W v hx => by
    have h := rfind_any v (ln4 m.rs) m W hx (by show 10 ≤ 1000; omega)
    rw [hf] at h
    rw [hVF]
    exact h)
  have HI_VF : Hid ((Tryd.prog.info? 42).map (·.size) = some VF.length) := Lib.hid (by rw [hVF]; exact Tryd.sizeLn _)
  have HO_VF : Hid (VF.toArray.all (·.oneCell') = true) := Lib.hid (by rw [hVF]; exact lnv_one _)
  have HL_VF : Hid (VF.length = 5) := Lib.hid (by rw [hVF]; rfl)
  clear hVF hf
  have k2 : (m.kd == 2) = false := by rw [beq_eq_false_iff_ne]; exact g1
  have k4 : (m.kd == 4) = false := by rw [beq_eq_false_iff_ne]; exact g2
  have kid : IntKind.i64.wrap m.rs = m.rs := IntWalk.i64_in _ (by omega)
  obtain ⟨V0, hV0⟩ : ∃ V, V = mg0.vals := ⟨_, rfl⟩
  have HB0 : Hid (∀ W, (Instr.build 24 #[]).run Tryd.prog W = .ok (.agg V0.toArray) W) := Lib.hid (fun W => by rw [hV0]; exact mgBuild W)
  have HI_V0 : Hid ((Tryd.prog.info? 24).map (·.size) = some V0.length) := Lib.hid (by rw [hV0]; exact Tryd.infoMg _)
  have HO_V0 : Hid (V0.toArray.all (·.oneCell') = true) := Lib.hid (by rw [hV0]; exact mg_one _)
  have HL_V0 : Hid (V0.length = 4) := Lib.hid (by rw [hV0]; rfl)
  have hz0 : V0.toArray = #[.int .i64 0, .int .i64 0, .int .u32 0, .string ⟨#[]⟩] := by rw [hV0]; rfl
  have HV0 := Lib.hid hV0
  clear hV0
  have HI_VM : Hid ((Tryd.prog.info? 24).map (·.size) = some m.vals.length) := Lib.hid (Tryd.infoMg _)
  have HM0 : Hid (m.vals[0]? = some (.int .i64 m.kd)) := Lib.hid (by exact rfl)
  have HM1 : Hid (m.vals[1]? = some (.int .i64 m.cd)) := Lib.hid (by exact rfl)
  have HM2 : Hid (m.vals[2]? = some (.int .u32 m.rs)) := Lib.hid (by exact rfl)
  have HM3 : Hid (m.vals[3]? = some (.string m.da)) := Lib.hid (by exact rfl)
  have HK1 : Hid (Kp w w.heap.size [(w.heap.size + 1, 24, V0), (w.heap.size, 24, m.vals)] ((w.alloc (.cells m.vals.toArray 24)).alloc (.cells V0.toArray 24))) := Lib.hid (by
    have h := (Kp.start w).new 24 m.vals
    have e1 : (w.alloc (.cells m.vals.toArray 24)).heap.size = w.heap.size + 1 := by simp
    have h2 := h.new 24 V0
    rwa [e1] at h2)
  generalize m.vals = VM at *
  generalize hw1 : (w.alloc (.cells VM.toArray 24)).alloc (.cells V0.toArray 24) = w1 at *
  rw [hz0] at hw1
  go_enter Tryd.func16, Tryd.ntmps16
  go_upto_region 1 with (fail)
  clear hw1 hz0
  go_wp2_with (fail)
  refine (HBn.out _).mono ?_
  rintro e w99 ⟨rfl, rfl⟩
  have c0 : w1.cell? ⟨w.heap.size, 0, none⟩ = some (.int .i64 m.kd) := HK1.out.tl.hd.at HM0.out
  have c1 : w1.cell? ⟨w.heap.size, 1, none⟩ = some (.int .i64 m.cd) := HK1.out.tl.hd.at HM1.out
  go_upto_region 31 with (fail)
  clear c0 c1
  have c2 : w1.cell? ⟨w.heap.size, 2, none⟩ = some (.int .u32 m.rs) := HK1.out.tl.hd.at HM2.out
  go_upto_region 32 with (fail)
  clear c2
  have hln := lns_own (l := ln4 m.rs) (World.ownsRow_lit (base := w.heap.size) (size := 5) (e := 42) w1 [.int .i64 128, .int .i64 0, .int .i64 8, .int .i64 0, .int .i64 m.rs, .int .i64 129, .int .i64 0, .int .i64 0, .int .i64 0, .int .i64 m.rs, .int .i64 1, .int .i64 0, .int .i64 3, .int .i64 1, .int .i64 0, .int .i64 1, .int .i64 2, .int .i64 3, .int .i64 1, .int .i64 0, .int .i64 1, .int .i64 3, .int .i64 3, .int .i64 1, .int .i64 0, .int .i64 1, .int .i64 1, .int .i64 3, .int .i64 10, .int .i64 0, .int .i64 1, .int .i64 4, .int .i64 3, .int .i64 3, .int .i64 0, .int .i64 3, .int .i64 0, .int .i64 11, .int .i64 0, .int .i64 0, .int .i64 3, .int .i64 1, .int .i64 11, .int .i64 1, .int .i64 0, .int .i64 4, .int .i64 1, .int .i64 3, .int .i64 2, .int .i64 0].toArray 10 HK1.out.2.2 (by unfold maxLen; omega) rfl)
  have hk2 := HK1.out.new 42 [.int .i64 128, .int .i64 0, .int .i64 8, .int .i64 0, .int .i64 m.rs, .int .i64 129, .int .i64 0, .int .i64 0, .int .i64 0, .int .i64 m.rs, .int .i64 1, .int .i64 0, .int .i64 3, .int .i64 1, .int .i64 0, .int .i64 1, .int .i64 2, .int .i64 3, .int .i64 1, .int .i64 0, .int .i64 1, .int .i64 3, .int .i64 3, .int .i64 1, .int .i64 0, .int .i64 1, .int .i64 1, .int .i64 3, .int .i64 10, .int .i64 0, .int .i64 1, .int .i64 4, .int .i64 3, .int .i64 3, .int .i64 0, .int .i64 3, .int .i64 0, .int .i64 11, .int .i64 0, .int .i64 0, .int .i64 3, .int .i64 1, .int .i64 11, .int .i64 1, .int .i64 0, .int .i64 4, .int .i64 1, .int .i64 3, .int .i64 2, .int .i64 0]
  generalize hw2 : w1.alloc (.cells [.int .i64 128, .int .i64 0, .int .i64 8, .int .i64 0, .int .i64 m.rs, .int .i64 129, .int .i64 0, .int .i64 0, .int .i64 0, .int .i64 m.rs, .int .i64 1, .int .i64 0, .int .i64 3, .int .i64 1, .int .i64 0, .int .i64 1, .int .i64 2, .int .i64 3, .int .i64 1, .int .i64 0, .int .i64 1, .int .i64 3, .int .i64 3, .int .i64 1, .int .i64 0, .int .i64 1, .int .i64 1, .int .i64 3, .int .i64 10, .int .i64 0, .int .i64 1, .int .i64 4, .int .i64 3, .int .i64 3, .int .i64 0, .int .i64 3, .int .i64 0, .int .i64 11, .int .i64 0, .int .i64 0, .int .i64 3, .int .i64 1, .int .i64 11, .int .i64 1, .int .i64 0, .int .i64 4, .int .i64 1, .int .i64 3, .int .i64 2, .int .i64 0].toArray 42) = w2 at *
  obtain ⟨g, hg⟩ : ∃ g, g = w1.heap.size := ⟨_, rfl⟩
  rw [← hg] at hk2 hln
  have HK2 := Lib.hid hk2
  have HLn := Lib.hid hln
  clear HK1 hk2 hln
  have hr0 := HK2.out.tl.tl.hd.range
  go_wp2_with (((with_reducible (change wpList _ _ _ _ _ _)); ((refine wpList_load_mid rfl 24 _ rfl (w.heap.size) 0 rfl (VM) _ hr0 Tryd.underlying24 rfl HI_VM.out ?_))))
  try rw [hw2]
  try rw [← hg]
  clear hw2 hg hr0
  refine (CF.out _ _ HLn.out).mono ?_
  rintro e w3 ⟨rfl, bb⟩
  have HK3 := Lib.hid (HK2.out.below bb (Nat.le_refl _))
  clear bb HK2
  clear HLn
  have ht := (bk_new w3 42 ([.int .i64 0, .int .i64 0, .int .i64 0, .int .i64 0, .int .i64 0] : List Value).toArray).there VF.toArray.size (by have := HL_VF.out; simp; omega)
  go_upto_region 33 with (((with_reducible (change wpList _ _ _ _ _ _)); ((refine wpList_store_mid rfl 42 _ _ rfl (w3.heap.size) 0 VF.toArray rfl rfl ht (by simpa using HI_VF.out) HO_VF.out ?_))))
  have HK4 := Lib.hid (HK3.out.put 42 ([.int .i64 0, .int .i64 0, .int .i64 0, .int .i64 0, .int .i64 0] : List Value).toArray VF (by have := HL_VF.out; simp; omega))
  clear ht HK3
  generalize (w3.alloc (.cells ([.int .i64 0, .int .i64 0, .int .i64 0, .int .i64 0, .int .i64 0] : List Value).toArray 42)).setCells w3.heap.size 0 VF = w4 at *
  generalize w3.heap.size = gl at *
  have hkc := HK4.out.tl.tl.hd
  have htf := hkc.there V0.toArray.size (Nat.le_refl _)
  go_wp2_with (((with_reducible (change wpList _ _ _ _ _ _)); (first | (refine Great.wpList_readTo rfl _ rfl (.agg V0.toArray) (run_execN (T := 24) (l := #[]) (m := #[]) rfl (by simp) (HB0.out _)) ?_) | (refine wpList_store_mid rfl 24 _ _ rfl (w.heap.size + 1) 0 V0.toArray rfl rfl htf (by simpa using HI_V0.out) HO_V0.out ?_))))
  have hk5 := Bk.sets V0 0 _ _ hkc
  rw [puts_whole V0.toArray V0 (by simp)] at hk5
  refine bodyPost_ret (v := .tuple #[.agg V0.toArray, .bool false]) ?_ rfl ?_
  · exact results_cell2 rfl rfl rfl (run_loadVar_mid _ (w.heap.size + 1) 0 24 V0 _ hk5.range Tryd.underlying24 rfl HI_V0.out)
  · rw [HS.out]
    exact ⟨by rw [HV0.out], below_sets _ (by omega) 0 _ HK4.out.2.1⟩
set_option maxRecDepth 100000 in
set_option maxHeartbeats 4000000 in
theorem rfour_tabA_some (m : Mg) (a b : Int) (w : World) (hr : 0 ≤ m.rs ∧ m.rs < 4294967296) (hb : mtus a b = true) (x : Ln) (g1 : m.kd ≠ 2) (g2 : m.kd ≠ 4) (hf : findL (ln4 m.rs) m.kd m.cd = some x) : Calls Tryd.prog 16 #[.agg m.vals.toArray, .int .i64 a, .int .i64 b] w (fun e w' => e = .returned (.tuple #[.agg (four m a b).1.vals.toArray, .bool (four m a b).2]) ∧ Below w.heap.size w w') := by
  have HS : Hid (four m a b = (⟨x.2.2.1, x.2.2.2.1, x.2.2.2.2, m.da⟩, true)) := Lib.hid (by unfold four; rw [hb, if_neg (by simp), if_neg (by omega), if_neg (by omega), hf]; rfl)
  have HBn : Hid (∀ W, Calls Tryd.prog 23 #[.int .i64 a, .int .i64 b] W fun e w' => e = .returned (.bool true) ∧ W = w') := Lib.hid (fun W => by rw [← hb]; exact rbounds_any a b W)
  clear hb
  have hrx := ln4_mem hf
  have kN : IntKind.u32.wrap x.2.2.2.2 = x.2.2.2.2 := by rw [IntKind.wrap_u32]; omega
  obtain ⟨VF, hVF⟩ : ∃ V, V = lnv x := ⟨_, rfl⟩
  have CF : Hid (∀ (W : World) (v : Value), Lns W v (ln4 m.rs) → Calls Tryd.prog 24 #[v, .agg m.vals.toArray] W fun e w' => e = .returned (.tuple #[.agg VF.toArray, .bool true]) ∧ Below W.heap.size W w') := Lib.hid (fun W v hx => by
    have h := rfind_any v (ln4 m.rs) m W hx (by show 10 ≤ 1000; omega)
    rw [hf] at h
    rw [hVF]
    exact h)
  have HI_VF : Hid ((Tryd.prog.info? 42).map (·.size) = some VF.length) := Lib.hid (by rw [hVF]; exact Tryd.sizeLn _)
  have HO_VF : Hid (VF.toArray.all (·.oneCell') = true) := Lib.hid (by rw [hVF]; exact lnv_one _)
  have HL_VF : Hid (VF.length = 5) := Lib.hid (by rw [hVF]; rfl)
  have HF2 : Hid (VF[2]? = some (.int .i64 x.2.2.1)) := Lib.hid (by rw [hVF]; rfl)
  have HF3 : Hid (VF[3]? = some (.int .i64 x.2.2.2.1)) := Lib.hid (by rw [hVF]; rfl)
  have HF4 : Hid (VF[4]? = some (.int .i64 x.2.2.2.2)) := Lib.hid (by rw [hVF]; rfl)
  clear hVF hf
  have k2 : (m.kd == 2) = false := by rw [beq_eq_false_iff_ne]; exact g1
  have k4 : (m.kd == 4) = false := by rw [beq_eq_false_iff_ne]; exact g2
  have kid : IntKind.i64.wrap m.rs = m.rs := IntWalk.i64_in _ (by omega)
  obtain ⟨V0, hV0⟩ : ∃ V, V = mg0.vals := ⟨_, rfl⟩
  have HB0 : Hid (∀ W, (Instr.build 24 #[]).run Tryd.prog W = .ok (.agg V0.toArray) W) := Lib.hid (fun W => by rw [hV0]; exact mgBuild W)
  have HI_V0 : Hid ((Tryd.prog.info? 24).map (·.size) = some V0.length) := Lib.hid (by rw [hV0]; exact Tryd.infoMg _)
  have HO_V0 : Hid (V0.toArray.all (·.oneCell') = true) := Lib.hid (by rw [hV0]; exact mg_one _)
  have HL_V0 : Hid (V0.length = 4) := Lib.hid (by rw [hV0]; rfl)
  have hz0 : V0.toArray = #[.int .i64 0, .int .i64 0, .int .u32 0, .string ⟨#[]⟩] := by rw [hV0]; rfl
  have HV0 := Lib.hid hV0
  clear hV0
  have HI_VM : Hid ((Tryd.prog.info? 24).map (·.size) = some m.vals.length) := Lib.hid (Tryd.infoMg _)
  have HM0 : Hid (m.vals[0]? = some (.int .i64 m.kd)) := Lib.hid (by exact rfl)
  have HM1 : Hid (m.vals[1]? = some (.int .i64 m.cd)) := Lib.hid (by exact rfl)
  have HM2 : Hid (m.vals[2]? = some (.int .u32 m.rs)) := Lib.hid (by exact rfl)
  have HM3 : Hid (m.vals[3]? = some (.string m.da)) := Lib.hid (by exact rfl)
  have HK1 : Hid (Kp w w.heap.size [(w.heap.size + 1, 24, V0), (w.heap.size, 24, m.vals)] ((w.alloc (.cells m.vals.toArray 24)).alloc (.cells V0.toArray 24))) := Lib.hid (by
    have h := (Kp.start w).new 24 m.vals
    have e1 : (w.alloc (.cells m.vals.toArray 24)).heap.size = w.heap.size + 1 := by simp
    have h2 := h.new 24 V0
    rwa [e1] at h2)
  generalize m.vals = VM at *
  generalize hw1 : (w.alloc (.cells VM.toArray 24)).alloc (.cells V0.toArray 24) = w1 at *
  rw [hz0] at hw1
  go_enter Tryd.func16, Tryd.ntmps16
  go_upto_region 1 with (fail)
  clear hw1 hz0
  go_wp2_with (fail)
  refine (HBn.out _).mono ?_
  rintro e w99 ⟨rfl, rfl⟩
  have c0 : w1.cell? ⟨w.heap.size, 0, none⟩ = some (.int .i64 m.kd) := HK1.out.tl.hd.at HM0.out
  have c1 : w1.cell? ⟨w.heap.size, 1, none⟩ = some (.int .i64 m.cd) := HK1.out.tl.hd.at HM1.out
  go_upto_region 31 with (fail)
  clear c0 c1
  have c2 : w1.cell? ⟨w.heap.size, 2, none⟩ = some (.int .u32 m.rs) := HK1.out.tl.hd.at HM2.out
  go_upto_region 32 with (fail)
  clear c2
  have hln := lns_own (l := ln4 m.rs) (World.ownsRow_lit (base := w.heap.size) (size := 5) (e := 42) w1 [.int .i64 128, .int .i64 0, .int .i64 8, .int .i64 0, .int .i64 m.rs, .int .i64 129, .int .i64 0, .int .i64 0, .int .i64 0, .int .i64 m.rs, .int .i64 1, .int .i64 0, .int .i64 3, .int .i64 1, .int .i64 0, .int .i64 1, .int .i64 2, .int .i64 3, .int .i64 1, .int .i64 0, .int .i64 1, .int .i64 3, .int .i64 3, .int .i64 1, .int .i64 0, .int .i64 1, .int .i64 1, .int .i64 3, .int .i64 10, .int .i64 0, .int .i64 1, .int .i64 4, .int .i64 3, .int .i64 3, .int .i64 0, .int .i64 3, .int .i64 0, .int .i64 11, .int .i64 0, .int .i64 0, .int .i64 3, .int .i64 1, .int .i64 11, .int .i64 1, .int .i64 0, .int .i64 4, .int .i64 1, .int .i64 3, .int .i64 2, .int .i64 0].toArray 10 HK1.out.2.2 (by unfold maxLen; omega) rfl)
  have hk2 := HK1.out.new 42 [.int .i64 128, .int .i64 0, .int .i64 8, .int .i64 0, .int .i64 m.rs, .int .i64 129, .int .i64 0, .int .i64 0, .int .i64 0, .int .i64 m.rs, .int .i64 1, .int .i64 0, .int .i64 3, .int .i64 1, .int .i64 0, .int .i64 1, .int .i64 2, .int .i64 3, .int .i64 1, .int .i64 0, .int .i64 1, .int .i64 3, .int .i64 3, .int .i64 1, .int .i64 0, .int .i64 1, .int .i64 1, .int .i64 3, .int .i64 10, .int .i64 0, .int .i64 1, .int .i64 4, .int .i64 3, .int .i64 3, .int .i64 0, .int .i64 3, .int .i64 0, .int .i64 11, .int .i64 0, .int .i64 0, .int .i64 3, .int .i64 1, .int .i64 11, .int .i64 1, .int .i64 0, .int .i64 4, .int .i64 1, .int .i64 3, .int .i64 2, .int .i64 0]
  generalize hw2 : w1.alloc (.cells [.int .i64 128, .int .i64 0, .int .i64 8, .int .i64 0, .int .i64 m.rs, .int .i64 129, .int .i64 0, .int .i64 0, .int .i64 0, .int .i64 m.rs, .int .i64 1, .int .i64 0, .int .i64 3, .int .i64 1, .int .i64 0, .int .i64 1, .int .i64 2, .int .i64 3, .int .i64 1, .int .i64 0, .int .i64 1, .int .i64 3, .int .i64 3, .int .i64 1, .int .i64 0, .int .i64 1, .int .i64 1, .int .i64 3, .int .i64 10, .int .i64 0, .int .i64 1, .int .i64 4, .int .i64 3, .int .i64 3, .int .i64 0, .int .i64 3, .int .i64 0, .int .i64 11, .int .i64 0, .int .i64 0, .int .i64 3, .int .i64 1, .int .i64 11, .int .i64 1, .int .i64 0, .int .i64 4, .int .i64 1, .int .i64 3, .int .i64 2, .int .i64 0].toArray 42) = w2 at *
  obtain ⟨g, hg⟩ : ∃ g, g = w1.heap.size := ⟨_, rfl⟩
  rw [← hg] at hk2 hln
  have HK2 := Lib.hid hk2
  have HLn := Lib.hid hln
  clear HK1 hk2 hln
  have hr0 := HK2.out.tl.tl.hd.range
  go_wp2_with (((with_reducible (change wpList _ _ _ _ _ _)); ((refine wpList_load_mid rfl 24 _ rfl (w.heap.size) 0 rfl (VM) _ hr0 Tryd.underlying24 rfl HI_VM.out ?_))))
  try rw [hw2]
  try rw [← hg]
  clear hw2 hg hr0
  refine (CF.out _ _ HLn.out).mono ?_
  rintro e w3 ⟨rfl, bb⟩
  have HK3 := Lib.hid (HK2.out.below bb (Nat.le_refl _))
  clear bb HK2
  clear HLn
  have ht := (bk_new w3 42 ([.int .i64 0, .int .i64 0, .int .i64 0, .int .i64 0, .int .i64 0] : List Value).toArray).there VF.toArray.size (by have := HL_VF.out; simp; omega)
  go_upto_region 33 with (((with_reducible (change wpList _ _ _ _ _ _)); ((refine wpList_store_mid rfl 42 _ _ rfl (w3.heap.size) 0 VF.toArray rfl rfl ht (by simpa using HI_VF.out) HO_VF.out ?_))))
  have HK4 := Lib.hid (HK3.out.put 42 ([.int .i64 0, .int .i64 0, .int .i64 0, .int .i64 0, .int .i64 0] : List Value).toArray VF (by have := HL_VF.out; simp; omega))
  clear ht HK3
  generalize (w3.alloc (.cells ([.int .i64 0, .int .i64 0, .int .i64 0, .int .i64 0, .int .i64 0] : List Value).toArray 42)).setCells w3.heap.size 0 VF = w4 at *
  generalize w3.heap.size = gl at *
  have e2 : w4.cell? ⟨gl, 2, none⟩ = some (.int .i64 x.2.2.1) := HK4.out.hd.at HF2.out
  have e3 : w4.cell? ⟨gl, 3, none⟩ = some (.int .i64 x.2.2.2.1) := HK4.out.hd.at HF3.out
  have e4 : w4.cell? ⟨gl, 4, none⟩ = some (.int .i64 x.2.2.2.2) := HK4.out.hd.at HF4.out
  have c3 : w4.cell? ⟨w.heap.size, 3, none⟩ = some (.string m.da) := HK4.out.tl.tl.tl.hd.at HM3.out
  have hkc := HK4.out.tl.tl.hd
  have htf := hkc.there 4 (by have := HL_V0.out; simp; omega)
  have HIN : Hid ((Tryd.prog.info? 24).map (·.size) = some ([.int .i64 x.2.2.1, .int .i64 x.2.2.2.1, .int .u32 x.2.2.2.2, .string m.da] : List Value).length) := Lib.hid (Tryd.infoMg (⟨x.2.2.1, x.2.2.2.1, x.2.2.2.2, m.da⟩ : Mg))
  go_wp2_with (((with_reducible (change wpList _ _ _ _ _ _)); ((refine wpList_store_mid rfl 24 _ _ rfl (w.heap.size + 1) 0 ([.int .i64 x.2.2.1, .int .i64 x.2.2.2.1, .int .u32 x.2.2.2.2, .string m.da] : List Value).toArray rfl rfl htf (by simpa using HIN.out) (by simp [Value.oneCell']) ?_))))
  have hk5 := Bk.sets [.int .i64 x.2.2.1, .int .i64 x.2.2.2.1, .int .u32 x.2.2.2.2, .string m.da] 0 _ _ hkc
  rw [puts_whole V0.toArray [.int .i64 x.2.2.1, .int .i64 x.2.2.2.1, .int .u32 x.2.2.2.2, .string m.da] (by have := HL_V0.out; simp; omega)] at hk5
  refine bodyPost_ret (v := .tuple #[.agg ([.int .i64 x.2.2.1, .int .i64 x.2.2.2.1, .int .u32 x.2.2.2.2, .string m.da] : List Value).toArray, .bool true]) ?_ rfl ?_
  · exact results_cell2 rfl rfl rfl (run_loadVar_mid _ (w.heap.size + 1) 0 24 [.int .i64 x.2.2.1, .int .i64 x.2.2.2.1, .int .u32 x.2.2.2.2, .string m.da] _ hk5.range Tryd.underlying24 rfl HIN.out)
  · rw [HS.out]
    exact ⟨rfl, below_sets _ (by omega) 0 _ HK4.out.2.1⟩
set_option maxRecDepth 100000 in
set_option maxHeartbeats 4000000 in
theorem rfour_tabB_none (m : Mg) (a b : Int) (w : World) (hr : 0 ≤ m.rs ∧ m.rs < 4294967296) (hb : mtus a b = true) (g1 : m.kd = 2) (g2 : m.cd ≠ 0) (hf : findL (ln4 m.rs) m.kd m.cd = none) : Calls Tryd.prog 16 #[.agg m.vals.toArray, .int .i64 a, .int .i64 b] w (fun e w' => e = .returned (.tuple #[.agg (four m a b).1.vals.toArray, .bool (four m a b).2]) ∧ Below w.heap.size w w') := by
  have HS : Hid (four m a b = (mg0, false)) := Lib.hid (by unfold four; rw [hb, if_neg (by simp), if_neg (by omega), if_neg (by omega), hf]; rfl)
  have HBn : Hid (∀ W, Calls Tryd.prog 23 #[.int .i64 a, .int .i64 b] W fun e w' => e = .returned (.bool true) ∧ W = w') := Lib.hid (fun W => by rw [← hb]; exact rbounds_any a b W)
  clear hb
  obtain ⟨VF, hVF⟩ : ∃ V, V = lnv ln0 := ⟨_, rfl⟩
  have CF : Hid (∀ (W : World) (v : Value), Lns W v (ln4 m.rs) → Calls Tryd.prog 24 #[v, .agg m.vals.toArray] W fun e w' => e = .returned (.tuple #[.agg VF.toArray, .bool false]) ∧ Below W.heap.size W w') := Lib.hid (fun W v hx => by
    have h := rfind_any v (ln4 m.rs) m W hx (by show 10 ≤ 1000; omega)
    rw [hf] at h
    rw [hVF]
    exact h)
  have HI_VF : Hid ((Tryd.prog.info? 42).map (·.size) = some VF.length) := Lib.hid (by rw [hVF]; exact Tryd.sizeLn _)
  have HO_VF : Hid (VF.toArray.all (·.oneCell') = true) := Lib.hid (by rw [hVF]; exact lnv_one _)
  have HL_VF : Hid (VF.length = 5) := Lib.hid (by rw [hVF]; rfl)
  clear hVF hf
  have k0 : (m.cd == 0) = false := by rw [beq_eq_false_iff_ne]; exact g2
  have kid : IntKind.i64.wrap m.rs = m.rs := IntWalk.i64_in _ (by omega)
  obtain ⟨V0, hV0⟩ : ∃ V, V = mg0.vals := ⟨_, rfl⟩
  have HB0 : Hid (∀ W, (Instr.build 24 #[]).run Tryd.prog W = .ok (.agg V0.toArray) W) := Lib.hid (fun W => by rw [hV0]; exact mgBuild W)
  have HI_V0 : Hid ((Tryd.prog.info? 24).map (·.size) = some V0.length) := Lib.hid (by rw [hV0]; exact Tryd.infoMg _)
  have HO_V0 : Hid (V0.toArray.all (·.oneCell') = true) := Lib.hid (by rw [hV0]; exact mg_one _)
  have HL_V0 : Hid (V0.length = 4) := Lib.hid (by rw [hV0]; rfl)
  have hz0 : V0.toArray = #[.int .i64 0, .int .i64 0, .int .u32 0, .string ⟨#[]⟩] := by rw [hV0]; rfl
  have HV0 := Lib.hid hV0
  clear hV0
  have HI_VM : Hid ((Tryd.prog.info? 24).map (·.size) = some m.vals.length) := Lib.hid (Tryd.infoMg _)
  have HM0 : Hid (m.vals[0]? = some (.int .i64 2)) := Lib.hid (by rw [← g1]; rfl)
  have HM1 : Hid (m.vals[1]? = some (.int .i64 m.cd)) := Lib.hid (by exact rfl)
  have HM2 : Hid (m.vals[2]? = some (.int .u32 m.rs)) := Lib.hid (by exact rfl)
  have HM3 : Hid (m.vals[3]? = some (.string m.da)) := Lib.hid (by exact rfl)
  have HK1 : Hid (Kp w w.heap.size [(w.heap.size + 1, 24, V0), (w.heap.size, 24, m.vals)] ((w.alloc (.cells m.vals.toArray 24)).alloc (.cells V0.toArray 24))) := Lib.hid (by
    have h := (Kp.start w).new 24 m.vals
    have e1 : (w.alloc (.cells m.vals.toArray 24)).heap.size = w.heap.size + 1 := by simp
    have h2 := h.new 24 V0
    rwa [e1] at h2)
  generalize m.vals = VM at *
  generalize hw1 : (w.alloc (.cells VM.toArray 24)).alloc (.cells V0.toArray 24) = w1 at *
  rw [hz0] at hw1
  go_enter Tryd.func16, Tryd.ntmps16
  go_upto_region 1 with (fail)
  clear hw1 hz0
  go_wp2_with (fail)
  refine (HBn.out _).mono ?_
  rintro e w99 ⟨rfl, rfl⟩
  have c0 : w1.cell? ⟨w.heap.size, 0, none⟩ = some (.int .i64 2) := HK1.out.tl.hd.at HM0.out
  have c1 : w1.cell? ⟨w.heap.size, 1, none⟩ = some (.int .i64 m.cd) := HK1.out.tl.hd.at HM1.out
  go_upto_region 31 with (fail)
  clear c0 c1
  have c2 : w1.cell? ⟨w.heap.size, 2, none⟩ = some (.int .u32 m.rs) := HK1.out.tl.hd.at HM2.out
  go_upto_region 32 with (fail)
  clear c2
  have hln := lns_own (l := ln4 m.rs) (World.ownsRow_lit (base := w.heap.size) (size := 5) (e := 42) w1 [.int .i64 128, .int .i64 0, .int .i64 8, .int .i64 0, .int .i64 m.rs, .int .i64 129, .int .i64 0, .int .i64 0, .int .i64 0, .int .i64 m.rs, .int .i64 1, .int .i64 0, .int .i64 3, .int .i64 1, .int .i64 0, .int .i64 1, .int .i64 2, .int .i64 3, .int .i64 1, .int .i64 0, .int .i64 1, .int .i64 3, .int .i64 3, .int .i64 1, .int .i64 0, .int .i64 1, .int .i64 1, .int .i64 3, .int .i64 10, .int .i64 0, .int .i64 1, .int .i64 4, .int .i64 3, .int .i64 3, .int .i64 0, .int .i64 3, .int .i64 0, .int .i64 11, .int .i64 0, .int .i64 0, .int .i64 3, .int .i64 1, .int .i64 11, .int .i64 1, .int .i64 0, .int .i64 4, .int .i64 1, .int .i64 3, .int .i64 2, .int .i64 0].toArray 10 HK1.out.2.2 (by unfold maxLen; omega) rfl)
  have hk2 := HK1.out.new 42 [.int .i64 128, .int .i64 0, .int .i64 8, .int .i64 0, .int .i64 m.rs, .int .i64 129, .int .i64 0, .int .i64 0, .int .i64 0, .int .i64 m.rs, .int .i64 1, .int .i64 0, .int .i64 3, .int .i64 1, .int .i64 0, .int .i64 1, .int .i64 2, .int .i64 3, .int .i64 1, .int .i64 0, .int .i64 1, .int .i64 3, .int .i64 3, .int .i64 1, .int .i64 0, .int .i64 1, .int .i64 1, .int .i64 3, .int .i64 10, .int .i64 0, .int .i64 1, .int .i64 4, .int .i64 3, .int .i64 3, .int .i64 0, .int .i64 3, .int .i64 0, .int .i64 11, .int .i64 0, .int .i64 0, .int .i64 3, .int .i64 1, .int .i64 11, .int .i64 1, .int .i64 0, .int .i64 4, .int .i64 1, .int .i64 3, .int .i64 2, .int .i64 0]
  generalize hw2 : w1.alloc (.cells [.int .i64 128, .int .i64 0, .int .i64 8, .int .i64 0, .int .i64 m.rs, .int .i64 129, .int .i64 0, .int .i64 0, .int .i64 0, .int .i64 m.rs, .int .i64 1, .int .i64 0, .int .i64 3, .int .i64 1, .int .i64 0, .int .i64 1, .int .i64 2, .int .i64 3, .int .i64 1, .int .i64 0, .int .i64 1, .int .i64 3, .int .i64 3, .int .i64 1, .int .i64 0, .int .i64 1, .int .i64 1, .int .i64 3, .int .i64 10, .int .i64 0, .int .i64 1, .int .i64 4, .int .i64 3, .int .i64 3, .int .i64 0, .int .i64 3, .int .i64 0, .int .i64 11, .int .i64 0, .int .i64 0, .int .i64 3, .int .i64 1, .int .i64 11, .int .i64 1, .int .i64 0, .int .i64 4, .int .i64 1, .int .i64 3, .int .i64 2, .int .i64 0].toArray 42) = w2 at *
  obtain ⟨g, hg⟩ : ∃ g, g = w1.heap.size := ⟨_, rfl⟩
  rw [← hg] at hk2 hln
  have HK2 := Lib.hid hk2
  have HLn := Lib.hid hln
  clear HK1 hk2 hln
  have hr0 := HK2.out.tl.tl.hd.range
  go_wp2_with (((with_reducible (change wpList _ _ _ _ _ _)); ((refine wpList_load_mid rfl 24 _ rfl (w.heap.size) 0 rfl (VM) _ hr0 Tryd.underlying24 rfl HI_VM.out ?_))))
  try rw [hw2]
  try rw [← hg]
  clear hw2 hg hr0
  refine (CF.out _ _ HLn.out).mono ?_
  rintro e w3 ⟨rfl, bb⟩
  have HK3 := Lib.hid (HK2.out.below bb (Nat.le_refl _))
  clear bb HK2
  clear HLn
  have ht := (bk_new w3 42 ([.int .i64 0, .int .i64 0, .int .i64 0, .int .i64 0, .int .i64 0] : List Value).toArray).there VF.toArray.size (by have := HL_VF.out; simp; omega)
  go_upto_region 33 with (((with_reducible (change wpList _ _ _ _ _ _)); ((refine wpList_store_mid rfl 42 _ _ rfl (w3.heap.size) 0 VF.toArray rfl rfl ht (by simpa using HI_VF.out) HO_VF.out ?_))))
  have HK4 := Lib.hid (HK3.out.put 42 ([.int .i64 0, .int .i64 0, .int .i64 0, .int .i64 0, .int .i64 0] : List Value).toArray VF (by have := HL_VF.out; simp; omega))
  clear ht HK3
  generalize (w3.alloc (.cells ([.int .i64 0, .int .i64 0, .int .i64 0, .int .i64 0, .int .i64 0] : List Value).toArray 42)).setCells w3.heap.size 0 VF = w4 at *
  generalize w3.heap.size = gl at *
  have hkc := HK4.out.tl.tl.hd
  have htf := hkc.there V0.toArray.size (Nat.le_refl _)
  go_wp2_with (((with_reducible (change wpList _ _ _ _ _ _)); (first | (refine Great.wpList_readTo rfl _ rfl (.agg V0.toArray) (run_execN (T := 24) (l := #[]) (m := #[]) rfl (by simp) (HB0.out _)) ?_) | (refine wpList_store_mid rfl 24 _ _ rfl (w.heap.size + 1) 0 V0.toArray rfl rfl htf (by simpa using HI_V0.out) HO_V0.out ?_))))
  have hk5 := Bk.sets V0 0 _ _ hkc
  rw [puts_whole V0.toArray V0 (by simp)] at hk5
  refine bodyPost_ret (v := .tuple #[.agg V0.toArray, .bool false]) ?_ rfl ?_
  · exact results_cell2 rfl rfl rfl (run_loadVar_mid _ (w.heap.size + 1) 0 24 V0 _ hk5.range Tryd.underlying24 rfl HI_V0.out)
  · rw [HS.out]
    exact ⟨by rw [HV0.out], below_sets _ (by omega) 0 _ HK4.out.2.1⟩
set_option maxRecDepth 100000 in
set_option maxHeartbeats 4000000 in
theorem rfour_tabB_some (m : Mg) (a b : Int) (w : World) (hr : 0 ≤ m.rs ∧ m.rs < 4294967296) (hb : mtus a b = true) (x : Ln) (g1 : m.kd = 2) (g2 : m.cd ≠ 0) (hf : findL (ln4 m.rs) m.kd m.cd = some x) : Calls Tryd.prog 16 #[.agg m.vals.toArray, .int .i64 a, .int .i64 b] w (fun e w' => e = .returned (.tuple #[.agg (four m a b).1.vals.toArray, .bool (four m a b).2]) ∧ Below w.heap.size w w') := by
  have HS : Hid (four m a b = (⟨x.2.2.1, x.2.2.2.1, x.2.2.2.2, m.da⟩, true)) := Lib.hid (by unfold four; rw [hb, if_neg (by simp), if_neg (by omega), if_neg (by omega), hf]; rfl)
  have HBn : Hid (∀ W, Calls Tryd.prog 23 #[.int .i64 a, .int .i64 b] W fun e w' => e = .returned (.bool true) ∧ W = w') := Lib.hid (fun W => by rw [← hb]; exact rbounds_any a b W)
  clear hb
  have hrx := ln4_mem hf
  have kN : IntKind.u32.wrap x.2.2.2.2 = x.2.2.2.2 := by rw [IntKind.wrap_u32]; omega
  obtain ⟨VF, hVF⟩ : ∃ V, V = lnv x := ⟨_, rfl⟩
  have CF : Hid (∀ (W : World) (v : Value), Lns W v (ln4 m.rs) → Calls Tryd.prog 24 #[v, .agg m.vals.toArray] W fun e w' => e = .returned (.tuple #[.agg VF.toArray, .bool true]) ∧ Below W.heap.size W w') := Lib.hid (fun W v hx => by
    have h := rfind_any v (ln4 m.rs) m W hx (by show 10 ≤ 1000; omega)
    rw [hf] at h
    rw [hVF]
    exact h)
  have HI_VF : Hid ((Tryd.prog.info? 42).map (·.size) = some VF.length) := Lib.hid (by rw [hVF]; exact Tryd.sizeLn _)
  have HO_VF : Hid (VF.toArray.all (·.oneCell') = true) := Lib.hid (by rw [hVF]; exact lnv_one _)
  have HL_VF : Hid (VF.length = 5) := Lib.hid (by rw [hVF]; rfl)
  have HF2 : Hid (VF[2]? = some (.int .i64 x.2.2.1)) := Lib.hid (by rw [hVF]; rfl)
  have HF3 : Hid (VF[3]? = some (.int .i64 x.2.2.2.1)) := Lib.hid (by rw [hVF]; rfl)
  have HF4 : Hid (VF[4]? = some (.int .i64 x.2.2.2.2)) := Lib.hid (by rw [hVF]; rfl)
  clear hVF hf
  have k0 : (m.cd == 0) = false := by rw [beq_eq_false_iff_ne]; exact g2
  have kid : IntKind.i64.wrap m.rs = m.rs := IntWalk.i64_in _ (by omega)
  obtain ⟨V0, hV0⟩ : ∃ V, V = mg0.vals := ⟨_, rfl⟩
  have HB0 : Hid (∀ W, (Instr.build 24 #[]).run Tryd.prog W = .ok (.agg V0.toArray) W) := Lib.hid (fun W => by rw [hV0]; exact mgBuild W)
  have HI_V0 : Hid ((Tryd.prog.info? 24).map (·.size) = some V0.length) := Lib.hid (by rw [hV0]; exact Tryd.infoMg _)
  have HO_V0 : Hid (V0.toArray.all (·.oneCell') = true) := Lib.hid (by rw [hV0]; exact mg_one _)
  have HL_V0 : Hid (V0.length = 4) := Lib.hid (by rw [hV0]; rfl)
  have hz0 : V0.toArray = #[.int .i64 0, .int .i64 0, .int .u32 0, .string ⟨#[]⟩] := by rw [hV0]; rfl
  have HV0 := Lib.hid hV0
  clear hV0
  have HI_VM : Hid ((Tryd.prog.info? 24).map (·.size) = some m.vals.length) := Lib.hid (Tryd.infoMg _)
  have HM0 : Hid (m.vals[0]? = some (.int .i64 2)) := Lib.hid (by rw [← g1]; rfl)
  have HM1 : Hid (m.vals[1]? = some (.int .i64 m.cd)) := Lib.hid (by exact rfl)
  have HM2 : Hid (m.vals[2]? = some (.int .u32 m.rs)) := Lib.hid (by exact rfl)
  have HM3 : Hid (m.vals[3]? = some (.string m.da)) := Lib.hid (by exact rfl)
  have HK1 : Hid (Kp w w.heap.size [(w.heap.size + 1, 24, V0), (w.heap.size, 24, m.vals)] ((w.alloc (.cells m.vals.toArray 24)).alloc (.cells V0.toArray 24))) := Lib.hid (by
    have h := (Kp.start w).new 24 m.vals
    have e1 : (w.alloc (.cells m.vals.toArray 24)).heap.size = w.heap.size + 1 := by simp
    have h2 := h.new 24 V0
    rwa [e1] at h2)
  generalize m.vals = VM at *
  generalize hw1 : (w.alloc (.cells VM.toArray 24)).alloc (.cells V0.toArray 24) = w1 at *
  rw [hz0] at hw1
  go_enter Tryd.func16, Tryd.ntmps16
  go_upto_region 1 with (fail)
  clear hw1 hz0
  go_wp2_with (fail)
  refine (HBn.out _).mono ?_
  rintro e w99 ⟨rfl, rfl⟩
  have c0 : w1.cell? ⟨w.heap.size, 0, none⟩ = some (.int .i64 2) := HK1.out.tl.hd.at HM0.out
  have c1 : w1.cell? ⟨w.heap.size, 1, none⟩ = some (.int .i64 m.cd) := HK1.out.tl.hd.at HM1.out
  go_upto_region 31 with (fail)
  clear c0 c1
  have c2 : w1.cell? ⟨w.heap.size, 2, none⟩ = some (.int .u32 m.rs) := HK1.out.tl.hd.at HM2.out
  go_upto_region 32 with (fail)
  clear c2
  have hln := lns_own (l := ln4 m.rs) (World.ownsRow_lit (base := w.heap.size) (size := 5) (e := 42) w1 [.int .i64 128, .int .i64 0, .int .i64 8, .int .i64 0, .int .i64 m.rs, .int .i64 129, .int .i64 0, .int .i64 0, .int .i64 0, .int .i64 m.rs, .int .i64 1, .int .i64 0, .int .i64 3, .int .i64 1, .int .i64 0, .int .i64 1, .int .i64 2, .int .i64 3, .int .i64 1, .int .i64 0, .int .i64 1, .int .i64 3, .int .i64 3, .int .i64 1, .int .i64 0, .int .i64 1, .int .i64 1, .int .i64 3, .int .i64 10, .int .i64 0, .int .i64 1, .int .i64 4, .int .i64 3, .int .i64 3, .int .i64 0, .int .i64 3, .int .i64 0, .int .i64 11, .int .i64 0, .int .i64 0, .int .i64 3, .int .i64 1, .int .i64 11, .int .i64 1, .int .i64 0, .int .i64 4, .int .i64 1, .int .i64 3, .int .i64 2, .int .i64 0].toArray 10 HK1.out.2.2 (by unfold maxLen; omega) rfl)
  have hk2 := HK1.out.new 42 [.int .i64 128, .int .i64 0, .int .i64 8, .int .i64 0, .int .i64 m.rs, .int .i64 129, .int .i64 0, .int .i64 0, .int .i64 0, .int .i64 m.rs, .int .i64 1, .int .i64 0, .int .i64 3, .int .i64 1, .int .i64 0, .int .i64 1, .int .i64 2, .int .i64 3, .int .i64 1, .int .i64 0, .int .i64 1, .int .i64 3, .int .i64 3, .int .i64 1, .int .i64 0, .int .i64 1, .int .i64 1, .int .i64 3, .int .i64 10, .int .i64 0, .int .i64 1, .int .i64 4, .int .i64 3, .int .i64 3, .int .i64 0, .int .i64 3, .int .i64 0, .int .i64 11, .int .i64 0, .int .i64 0, .int .i64 3, .int .i64 1, .int .i64 11, .int .i64 1, .int .i64 0, .int .i64 4, .int .i64 1, .int .i64 3, .int .i64 2, .int .i64 0]
  generalize hw2 : w1.alloc (.cells [.int .i64 128, .int .i64 0, .int .i64 8, .int .i64 0, .int .i64 m.rs, .int .i64 129, .int .i64 0, .int .i64 0, .int .i64 0, .int .i64 m.rs, .int .i64 1, .int .i64 0, .int .i64 3, .int .i64 1, .int .i64 0, .int .i64 1, .int .i64 2, .int .i64 3, .int .i64 1, .int .i64 0, .int .i64 1, .int .i64 3, .int .i64 3, .int .i64 1, .int .i64 0, .int .i64 1, .int .i64 1, .int .i64 3, .int .i64 10, .int .i64 0, .int .i64 1, .int .i64 4, .int .i64 3, .int .i64 3, .int .i64 0, .int .i64 3, .int .i64 0, .int .i64 11, .int .i64 0, .int .i64 0, .int .i64 3, .int .i64 1, .int .i64 11, .int .i64 1, .int .i64 0, .int .i64 4, .int .i64 1, .int .i64 3, .int .i64 2, .int .i64 0].toArray 42) = w2 at *
  obtain ⟨g, hg⟩ : ∃ g, g = w1.heap.size := ⟨_, rfl⟩
  rw [← hg] at hk2 hln
  have HK2 := Lib.hid hk2
  have HLn := Lib.hid hln
  clear HK1 hk2 hln
  have hr0 := HK2.out.tl.tl.hd.range
  go_wp2_with (((with_reducible (change wpList _ _ _ _ _ _)); ((refine wpList_load_mid rfl 24 _ rfl (w.heap.size) 0 rfl (VM) _ hr0 Tryd.underlying24 rfl HI_VM.out ?_))))
  try rw [hw2]
  try rw [← hg]
  clear hw2 hg hr0
  refine (CF.out _ _ HLn.out).mono ?_
  rintro e w3 ⟨rfl, bb⟩
  have HK3 := Lib.hid (HK2.out.below bb (Nat.le_refl _))
  clear bb HK2
  clear HLn
  have ht := (bk_new w3 42 ([.int .i64 0, .int .i64 0, .int .i64 0, .int .i64 0, .int .i64 0] : List Value).toArray).there VF.toArray.size (by have := HL_VF.out; simp; omega)
  go_upto_region 33 with (((with_reducible (change wpList _ _ _ _ _ _)); ((refine wpList_store_mid rfl 42 _ _ rfl (w3.heap.size) 0 VF.toArray rfl rfl ht (by simpa using HI_VF.out) HO_VF.out ?_))))
  have HK4 := Lib.hid (HK3.out.put 42 ([.int .i64 0, .int .i64 0, .int .i64 0, .int .i64 0, .int .i64 0] : List Value).toArray VF (by have := HL_VF.out; simp; omega))
  clear ht HK3
  generalize (w3.alloc (.cells ([.int .i64 0, .int .i64 0, .int .i64 0, .int .i64 0, .int .i64 0] : List Value).toArray 42)).setCells w3.heap.size 0 VF = w4 at *
  generalize w3.heap.size = gl at *
  have e2 : w4.cell? ⟨gl, 2, none⟩ = some (.int .i64 x.2.2.1) := HK4.out.hd.at HF2.out
  have e3 : w4.cell? ⟨gl, 3, none⟩ = some (.int .i64 x.2.2.2.1) := HK4.out.hd.at HF3.out
  have e4 : w4.cell? ⟨gl, 4, none⟩ = some (.int .i64 x.2.2.2.2) := HK4.out.hd.at HF4.out
  have c3 : w4.cell? ⟨w.heap.size, 3, none⟩ = some (.string m.da) := HK4.out.tl.tl.tl.hd.at HM3.out
  have hkc := HK4.out.tl.tl.hd
  have htf := hkc.there 4 (by have := HL_V0.out; simp; omega)
  have HIN : Hid ((Tryd.prog.info? 24).map (·.size) = some ([.int .i64 x.2.2.1, .int .i64 x.2.2.2.1, .int .u32 x.2.2.2.2, .string m.da] : List Value).length) := Lib.hid (Tryd.infoMg (⟨x.2.2.1, x.2.2.2.1, x.2.2.2.2, m.da⟩ : Mg))
  go_wp2_with (((with_reducible (change wpList _ _ _ _ _ _)); ((refine wpList_store_mid rfl 24 _ _ rfl (w.heap.size + 1) 0 ([.int .i64 x.2.2.1, .int .i64 x.2.2.2.1, .int .u32 x.2.2.2.2, .string m.da] : List Value).toArray rfl rfl htf (by simpa using HIN.out) (by simp [Value.oneCell']) ?_))))
  have hk5 := Bk.sets [.int .i64 x.2.2.1, .int .i64 x.2.2.2.1, .int .u32 x.2.2.2.2, .string m.da] 0 _ _ hkc
  rw [puts_whole V0.toArray [.int .i64 x.2.2.1, .int .i64 x.2.2.2.1, .int .u32 x.2.2.2.2, .string m.da] (by have := HL_V0.out; simp; omega)] at hk5
  refine bodyPost_ret (v := .tuple #[.agg ([.int .i64 x.2.2.1, .int .i64 x.2.2.2.1, .int .u32 x.2.2.2.2, .string m.da] : List Value).toArray, .bool true]) ?_ rfl ?_
  · exact results_cell2 rfl rfl rfl (run_loadVar_mid _ (w.heap.size + 1) 0 24 [.int .i64 x.2.2.1, .int .i64 x.2.2.2.1, .int .u32 x.2.2.2.2, .string m.da] _ hk5.range Tryd.underlying24 rfl HIN.out)
  · rw [HS.out]
    exact ⟨rfl, below_sets _ (by omega) 0 _ HK4.out.2.1⟩
set_option maxRecDepth 100000 in
set_option maxHeartbeats 4000000 in
theorem rfour_tabC_none (m : Mg) (a b : Int) (w : World) (hr : 0 ≤ m.rs ∧ m.rs < 4294967296) (hb : mtus a b = true) (g1 : m.kd = 4) (g2 : m.cd ≠ 0) (hf : findL (ln4 m.rs) m.kd m.cd = none) : Calls Tryd.prog 16 #[.agg m.vals.toArray, .int .i64 a, .int .i64 b] w (fun e w' => e = .returned (.tuple #[.agg (four m a b).1.vals.toArray, .bool (four m a b).2]) ∧ Below w.heap.size w w') := by
  have HS : Hid (four m a b = (mg0, false)) := Lib.hid (by unfold four; rw [hb, if_neg (by simp), if_neg (by omega), if_neg (by omega), hf]; rfl)
  have HBn : Hid (∀ W, Calls Tryd.prog 23 #[.int .i64 a, .int .i64 b] W fun e w' => e = .returned (.bool true) ∧ W = w') := Lib.hid (fun W => by rw [← hb]; exact rbounds_any a b W)
  clear hb
  obtain ⟨VF, hVF⟩ : ∃ V, V = lnv ln0 := ⟨_, rfl⟩
  have CF : Hid (∀ (W : World) (v : Value), Lns W v (ln4 m.rs) → Calls Tryd.prog 24 #[v, .agg m.vals.toArray] W fun e w' => e = .returned (.tuple #[.agg VF.toArray, .bool false]) ∧ Below W.heap.size W w') := Lib.hid (fun W v hx => by
    have h := rfind_any v (ln4 m.rs) m W hx (by show 10 ≤ 1000; omega)
    rw [hf] at h
    rw [hVF]
    exact h)
  have HI_VF : Hid ((Tryd.prog.info? 42).map (·.size) = some VF.length) := Lib.hid (by rw [hVF]; exact Tryd.sizeLn _)
  have HO_VF : Hid (VF.toArray.all (·.oneCell') = true) := Lib.hid (by rw [hVF]; exact lnv_one _)
  have HL_VF : Hid (VF.length = 5) := Lib.hid (by rw [hVF]; rfl)
  clear hVF hf
  have k0 : (m.cd == 0) = false := by rw [beq_eq_false_iff_ne]; exact g2
  have kid : IntKind.i64.wrap m.rs = m.rs := IntWalk.i64_in _ (by omega)
  obtain ⟨V0, hV0⟩ : ∃ V, V = mg0.vals := ⟨_, rfl⟩
  have HB0 : Hid (∀ W, (Instr.build 24 #[]).run Tryd.prog W = .ok (.agg V0.toArray) W) := Lib.hid (fun W => by rw [hV0]; exact mgBuild W)
  have HI_V0 : Hid ((Tryd.prog.info? 24).map (·.size) = some V0.length) := Lib.hid (by rw [hV0]; exact Tryd.infoMg _)
  have HO_V0 : Hid (V0.toArray.all (·.oneCell') = true) := Lib.hid (by rw [hV0]; exact mg_one _)
  have HL_V0 : Hid (V0.length = 4) := Lib.hid (by rw [hV0]; rfl)
  have hz0 : V0.toArray = #[.int .i64 0, .int .i64 0, .int .u32 0, .string ⟨#[]⟩] := by rw [hV0]; rfl
  have HV0 := Lib.hid hV0
  clear hV0
  have HI_VM : Hid ((Tryd.prog.info? 24).map (·.size) = some m.vals.length) := Lib.hid (Tryd.infoMg _)
  have HM0 : Hid (m.vals[0]? = some (.int .i64 4)) := Lib.hid (by rw [← g1]; rfl)
  have HM1 : Hid (m.vals[1]? = some (.int .i64 m.cd)) := Lib.hid (by exact rfl)
  have HM2 : Hid (m.vals[2]? = some (.int .u32 m.rs)) := Lib.hid (by exact rfl)
  have HM3 : Hid (m.vals[3]? = some (.string m.da)) := Lib.hid (by exact rfl)
  have HK1 : Hid (Kp w w.heap.size [(w.heap.size + 1, 24, V0), (w.heap.size, 24, m.vals)] ((w.alloc (.cells m.vals.toArray 24)).alloc (.cells V0.toArray 24))) := Lib.hid (by
    have h := (Kp.start w).new 24 m.vals
    have e1 : (w.alloc (.cells m.vals.toArray 24)).heap.size = w.heap.size + 1 := by simp
    have h2 := h.new 24 V0
    rwa [e1] at h2)
  generalize m.vals = VM at *
  generalize hw1 : (w.alloc (.cells VM.toArray 24)).alloc (.cells V0.toArray 24) = w1 at *
  rw [hz0] at hw1
  go_enter Tryd.func16, Tryd.ntmps16
  go_upto_region 1 with (fail)
  clear hw1 hz0
  go_wp2_with (fail)
  refine (HBn.out _).mono ?_
  rintro e w99 ⟨rfl, rfl⟩
  have c0 : w1.cell? ⟨w.heap.size, 0, none⟩ = some (.int .i64 4) := HK1.out.tl.hd.at HM0.out
  have c1 : w1.cell? ⟨w.heap.size, 1, none⟩ = some (.int .i64 m.cd) := HK1.out.tl.hd.at HM1.out
  go_upto_region 31 with (fail)
  clear c0 c1
  have c2 : w1.cell? ⟨w.heap.size, 2, none⟩ = some (.int .u32 m.rs) := HK1.out.tl.hd.at HM2.out
  go_upto_region 32 with (fail)
  clear c2
  have hln := lns_own (l := ln4 m.rs) (World.ownsRow_lit (base := w.heap.size) (size := 5) (e := 42) w1 [.int .i64 128, .int .i64 0, .int .i64 8, .int .i64 0, .int .i64 m.rs, .int .i64 129, .int .i64 0, .int .i64 0, .int .i64 0, .int .i64 m.rs, .int .i64 1, .int .i64 0, .int .i64 3, .int .i64 1, .int .i64 0, .int .i64 1, .int .i64 2, .int .i64 3, .int .i64 1, .int .i64 0, .int .i64 1, .int .i64 3, .int .i64 3, .int .i64 1, .int .i64 0, .int .i64 1, .int .i64 1, .int .i64 3, .int .i64 10, .int .i64 0, .int .i64 1, .int .i64 4, .int .i64 3, .int .i64 3, .int .i64 0, .int .i64 3, .int .i64 0, .int .i64 11, .int .i64 0, .int .i64 0, .int .i64 3, .int .i64 1, .int .i64 11, .int .i64 1, .int .i64 0, .int .i64 4, .int .i64 1, .int .i64 3, .int .i64 2, .int .i64 0].toArray 10 HK1.out.2.2 (by unfold maxLen; omega) rfl)
  have hk2 := HK1.out.new 42 [.int .i64 128, .int .i64 0, .int .i64 8, .int .i64 0, .int .i64 m.rs, .int .i64 129, .int .i64 0, .int .i64 0, .int .i64 0, .int .i64 m.rs, .int .i64 1, .int .i64 0, .int .i64 3, .int .i64 1, .int .i64 0, .int .i64 1, .int .i64 2, .int .i64 3, .int .i64 1, .int .i64 0, .int .i64 1, .int .i64 3, .int .i64 3, .int .i64 1, .int .i64 0, .int .i64 1, .int .i64 1, .int .i64 3, .int .i64 10, .int .i64 0, .int .i64 1, .int .i64 4, .int .i64 3, .int .i64 3, .int .i64 0, .int .i64 3, .int .i64 0, .int .i64 11, .int .i64 0, .int .i64 0, .int .i64 3, .int .i64 1, .int .i64 11, .int .i64 1, .int .i64 0, .int .i64 4, .int .i64 1, .int .i64 3, .int .i64 2, .int .i64 0]
  generalize hw2 : w1.alloc (.cells [.int .i64 128, .int .i64 0, .int .i64 8, .int .i64 0, .int .i64 m.rs, .int .i64 129, .int .i64 0, .int .i64 0, .int .i64 0, .int .i64 m.rs, .int .i64 1, .int .i64 0, .int .i64 3, .int .i64 1, .int .i64 0, .int .i64 1, .int .i64 2, .int .i64 3, .int .i64 1, .int .i64 0, .int .i64 1, .int .i64 3, .int .i64 3, .int .i64 1, .int .i64 0, .int .i64 1, .int .i64 1, .int .i64 3, .int .i64 10, .int .i64 0, .int .i64 1, .int .i64 4, .int .i64 3, .int .i64 3, .int .i64 0, .int .i64 3, .int .i64 0, .int .i64 11, .int .i64 0, .int .i64 0, .int .i64 3, .int .i64 1, .int .i64 11, .int .i64 1, .int .i64 0, .int .i64 4, .int .i64 1, .int .i64 3, .int .i64 2, .int .i64 0].toArray 42) = w2 at *
  obtain ⟨g, hg⟩ : ∃ g, g = w1.heap.size := ⟨_, rfl⟩
  rw [← hg] at hk2 hln
  have HK2 := Lib.hid hk2
  have HLn := Lib.hid hln
  clear HK1 hk2 hln
  have hr0 := HK2.out.tl.tl.hd.range
  go_wp2_with (((with_reducible (change wpList _ _ _ _ _ _)); ((refine wpList_load_mid rfl 24 _ rfl (w.heap.size) 0 rfl (VM) _ hr0 Tryd.underlying24 rfl HI_VM.out ?_))))
  try rw [hw2]
  try rw [← hg]
  clear hw2 hg hr0
  refine (CF.out _ _ HLn.out).mono ?_
  rintro e w3 ⟨rfl, bb⟩
  have HK3 := Lib.hid (HK2.out.below bb (Nat.le_refl _))
  clear bb HK2
  clear HLn
  have ht := (bk_new w3 42 ([.int .i64 0, .int .i64 0, .int .i64 0, .int .i64 0, .int .i64 0] : List Value).toArray).there VF.toArray.size (by have := HL_VF.out; simp; omega)
  go_upto_region 33 with (((with_reducible (change wpList _ _ _ _ _ _)); ((refine wpList_store_mid rfl 42 _ _ rfl (w3.heap.size) 0 VF.toArray rfl rfl ht (by simpa using HI_VF.out) HO_VF.out ?_))))
  have HK4 := Lib.hid (HK3.out.put 42 ([.int .i64 0, .int .i64 0, .int .i64 0, .int .i64 0, .int .i64 0] : List Value).toArray VF (by have := HL_VF.out; simp; omega))
  clear ht HK3
  generalize (w3.alloc (.cells ([.int .i64 0, .int .i64 0, .int .i64 0, .int .i64 0, .int .i64 0] : List Value).toArray 42)).setCells w3.heap.size 0 VF = w4 at *
  generalize w3.heap.size = gl at *
  have hkc := HK4.out.tl.tl.hd
  have htf := hkc.there V0.toArray.size (Nat.le_refl _)
  go_wp2_with (((with_reducible (change wpList _ _ _ _ _ _)); (first | (refine Great.wpList_readTo rfl _ rfl (.agg V0.toArray) (run_execN (T := 24) (l := #[]) (m := #[]) rfl (by simp) (HB0.out _)) ?_) | (refine wpList_store_mid rfl 24 _ _ rfl (w.heap.size + 1) 0 V0.toArray rfl rfl htf (by simpa using HI_V0.out) HO_V0.out ?_))))
  have hk5 := Bk.sets V0 0 _ _ hkc
  rw [puts_whole V0.toArray V0 (by simp)] at hk5
  refine bodyPost_ret (v := .tuple #[.agg V0.toArray, .bool false]) ?_ rfl ?_
  · exact results_cell2 rfl rfl rfl (run_loadVar_mid _ (w.heap.size + 1) 0 24 V0 _ hk5.range Tryd.underlying24 rfl HI_V0.out)
  · rw [HS.out]
    exact ⟨by rw [HV0.out], below_sets _ (by omega) 0 _ HK4.out.2.1⟩
set_option maxRecDepth 100000 in
set_option maxHeartbeats 4000000 in
theorem rfour_tabC_some (m : Mg) (a b : Int) (w : World) (hr : 0 ≤ m.rs ∧ m.rs < 4294967296) (hb : mtus a b = true) (x : Ln) (g1 : m.kd = 4) (g2 : m.cd ≠ 0) (hf : findL (ln4 m.rs) m.kd m.cd = some x) : Calls Tryd.prog 16 #[.agg m.vals.toArray, .int .i64 a, .int .i64 b] w (fun e w' => e = .returned (.tuple #[.agg (four m a b).1.vals.toArray, .bool (four m a b).2]) ∧ Below w.heap.size w w') := by
  have HS : Hid (four m a b = (⟨x.2.2.1, x.2.2.2.1, x.2.2.2.2, m.da⟩, true)) := Lib.hid (by unfold four; rw [hb, if_neg (by simp), if_neg (by omega), if_neg (by omega), hf]; rfl)
  have HBn : Hid (∀ W, Calls Tryd.prog 23 #[.int .i64 a, .int .i64 b] W fun e w' => e = .returned (.bool true) ∧ W = w') := Lib.hid (fun W => by rw [← hb]; exact rbounds_any a b W)
  clear hb
  have hrx := ln4_mem hf
  have kN : IntKind.u32.wrap x.2.2.2.2 = x.2.2.2.2 := by rw [IntKind.wrap_u32]; omega
  obtain ⟨VF, hVF⟩ : ∃ V, V = lnv x := ⟨_, rfl⟩
  have CF : Hid (∀ (W : World) (v : Value), Lns W v (ln4 m.rs) → Calls Tryd.prog 24 #[v, .agg m.vals.toArray] W fun e w' => e = .returned (.tuple #[.agg VF.toArray, .bool true]) ∧ Below W.heap.size W w') := Lib.hid (fun W v hx => by
    have h := rfind_any v (ln4 m.rs) m W hx (by show 10 ≤ 1000; omega)
    rw [hf] at h
    rw [hVF]
    exact h)
  have HI_VF : Hid ((Tryd.prog.info? 42).map (·.size) = some VF.length) := Lib.hid (by rw [hVF]; exact Tryd.sizeLn _)
  have HO_VF : Hid (VF.toArray.all (·.oneCell') = true) := Lib.hid (by rw [hVF]; exact lnv_one _)
  have HL_VF : Hid (VF.length = 5) := Lib.hid (by rw [hVF]; rfl)
  have HF2 : Hid (VF[2]? = some (.int .i64 x.2.2.1)) := Lib.hid (by rw [hVF]; rfl)
  have HF3 : Hid (VF[3]? = some (.int .i64 x.2.2.2.1)) := Lib.hid (by rw [hVF]; rfl)
  have HF4 : Hid (VF[4]? = some (.int .i64 x.2.2.2.2)) := Lib.hid (by rw [hVF]; rfl)
  clear hVF hf
  have k0 : (m.cd == 0) = false := by rw [beq_eq_false_iff_ne]; exact g2
  have kid : IntKind.i64.wrap m.rs = m.rs := IntWalk.i64_in _ (by omega)
  obtain ⟨V0, hV0⟩ : ∃ V, V = mg0.vals := ⟨_, rfl⟩
  have HB0 : Hid (∀ W, (Instr.build 24 #[]).run Tryd.prog W = .ok (.agg V0.toArray) W) := Lib.hid (fun W => by rw [hV0]; exact mgBuild W)
  have HI_V0 : Hid ((Tryd.prog.info? 24).map (·.size) = some V0.length) := Lib.hid (by rw [hV0]; exact Tryd.infoMg _)
  have HO_V0 : Hid (V0.toArray.all (·.oneCell') = true) := Lib.hid (by rw [hV0]; exact mg_one _)
  have HL_V0 : Hid (V0.length = 4) := Lib.hid (by rw [hV0]; rfl)
  have hz0 : V0.toArray = #[.int .i64 0, .int .i64 0, .int .u32 0, .string ⟨#[]⟩] := by rw [hV0]; rfl
  have HV0 := Lib.hid hV0
  clear hV0
  have HI_VM : Hid ((Tryd.prog.info? 24).map (·.size) = some m.vals.length) := Lib.hid (Tryd.infoMg _)
  have HM0 : Hid (m.vals[0]? = some (.int .i64 4)) := Lib.hid (by rw [← g1]; rfl)
  have HM1 : Hid (m.vals[1]? = some (.int .i64 m.cd)) := Lib.hid (by exact rfl)
  have HM2 : Hid (m.vals[2]? = some (.int .u32 m.rs)) := Lib.hid (by exact rfl)
  have HM3 : Hid (m.vals[3]? = some (.string m.da)) := Lib.hid (by exact rfl)
  have HK1 : Hid (Kp w w.heap.size [(w.heap.size + 1, 24, V0), (w.heap.size, 24, m.vals)] ((w.alloc (.cells m.vals.toArray 24)).alloc (.cells V0.toArray 24))) := Lib.hid (by
    have h := (Kp.start w).new 24 m.vals
    have e1 : (w.alloc (.cells m.vals.toArray 24)).heap.size = w.heap.size + 1 := by simp
    have h2 := h.new 24 V0
    rwa [e1] at h2)
  generalize m.vals = VM at *
  generalize hw1 : (w.alloc (.cells VM.toArray 24)).alloc (.cells V0.toArray 24) = w1 at *
  rw [hz0] at hw1
  go_enter Tryd.func16, Tryd.ntmps16
  go_upto_region 1 with (fail)
  clear hw1 hz0
  go_wp2_with (fail)
  refine (HBn.out _).mono ?_
  rintro e w99 ⟨rfl, rfl⟩
  have c0 : w1.cell? ⟨w.heap.size, 0, none⟩ = some (.int .i64 4) := HK1.out.tl.hd.at HM0.out
  have c1 : w1.cell? ⟨w.heap.size, 1, none⟩ = some (.int .i64 m.cd) := HK1.out.tl.hd.at HM1.out
  go_upto_region 31 with (fail)
  clear c0 c1
  have c2 : w1.cell? ⟨w.heap.size, 2, none⟩ = some (.int .u32 m.rs) := HK1.out.tl.hd.at HM2.out
  go_upto_region 32 with (fail)
  clear c2
  have hln := lns_own (l := ln4 m.rs) (World.ownsRow_lit (base := w.heap.size) (size := 5) (e := 42) w1 [.int .i64 128, .int .i64 0, .int .i64 8, .int .i64 0, .int .i64 m.rs, .int .i64 129, .int .i64 0, .int .i64 0, .int .i64 0, .int .i64 m.rs, .int .i64 1, .int .i64 0, .int .i64 3, .int .i64 1, .int .i64 0, .int .i64 1, .int .i64 2, .int .i64 3, .int .i64 1, .int .i64 0, .int .i64 1, .int .i64 3, .int .i64 3, .int .i64 1, .int .i64 0, .int .i64 1, .int .i64 1, .int .i64 3, .int .i64 10, .int .i64 0, .int .i64 1, .int .i64 4, .int .i64 3, .int .i64 3, .int .i64 0, .int .i64 3, .int .i64 0, .int .i64 11, .int .i64 0, .int .i64 0, .int .i64 3, .int .i64 1, .int .i64 11, .int .i64 1, .int .i64 0, .int .i64 4, .int .i64 1, .int .i64 3, .int .i64 2, .int .i64 0].toArray 10 HK1.out.2.2 (by unfold maxLen; omega) rfl)
  have hk2 := HK1.out.new 42 [.int .i64 128, .int .i64 0, .int .i64 8, .int .i64 0, .int .i64 m.rs, .int .i64 129, .int .i64 0, .int .i64 0, .int .i64 0, .int .i64 m.rs, .int .i64 1, .int .i64 0, .int .i64 3, .int .i64 1, .int .i64 0, .int .i64 1, .int .i64 2, .int .i64 3, .int .i64 1, .int .i64 0, .int .i64 1, .int .i64 3, .int .i64 3, .int .i64 1, .int .i64 0, .int .i64 1, .int .i64 1, .int .i64 3, .int .i64 10, .int .i64 0, .int .i64 1, .int .i64 4, .int .i64 3, .int .i64 3, .int .i64 0, .int .i64 3, .int .i64 0, .int .i64 11, .int .i64 0, .int .i64 0, .int .i64 3, .int .i64 1, .int .i64 11, .int .i64 1, .int .i64 0, .int .i64 4, .int .i64 1, .int .i64 3, .int .i64 2, .int .i64 0]
  generalize hw2 : w1.alloc (.cells [.int .i64 128, .int .i64 0, .int .i64 8, .int .i64 0, .int .i64 m.rs, .int .i64 129, .int .i64 0, .int .i64 0, .int .i64 0, .int .i64 m.rs, .int .i64 1, .int .i64 0, .int .i64 3, .int .i64 1, .int .i64 0, .int .i64 1, .int .i64 2, .int .i64 3, .int .i64 1, .int .i64 0, .int .i64 1, .int .i64 3, .int .i64 3, .int .i64 1, .int .i64 0, .int .i64 1, .int .i64 1, .int .i64 3, .int .i64 10, .int .i64 0, .int .i64 1, .int .i64 4, .int .i64 3, .int .i64 3, .int .i64 0, .int .i64 3, .int .i64 0, .int .i64 11, .int .i64 0, .int .i64 0, .int .i64 3, .int .i64 1, .int .i64 11, .int .i64 1, .int .i64 0, .int .i64 4, .int .i64 1, .int .i64 3, .int .i64 2, .int .i64 0].toArray 42) = w2 at *
  obtain ⟨g, hg⟩ : ∃ g, g = w1.heap.size := ⟨_, rfl⟩
  rw [← hg] at hk2 hln
  have HK2 := Lib.hid hk2
  have HLn := Lib.hid hln
  clear HK1 hk2 hln
  have hr0 := HK2.out.tl.tl.hd.range
  go_wp2_with (((with_reducible (change wpList _ _ _ _ _ _)); ((refine wpList_load_mid rfl 24 _ rfl (w.heap.size) 0 rfl (VM) _ hr0 Tryd.underlying24 rfl HI_VM.out ?_))))
  try rw [hw2]
  try rw [← hg]
  clear hw2 hg hr0
  refine (CF.out _ _ HLn.out).mono ?_
  rintro e w3 ⟨rfl, bb⟩
  have HK3 := Lib.hid (HK2.out.below bb (Nat.le_refl _))
  clear bb HK2
  clear HLn
  have ht := (bk_new w3 42 ([.int .i64 0, .int .i64 0, .int .i64 0, .int .i64 0, .int .i64 0] : List Value).toArray).there VF.toArray.size (by have := HL_VF.out; simp; omega)
  go_upto_region 33 with (((with_reducible (change wpList _ _ _ _ _ _)); ((refine wpList_store_mid rfl 42 _ _ rfl (w3.heap.size) 0 VF.toArray rfl rfl ht (by simpa using HI_VF.out) HO_VF.out ?_))))
  have HK4 := Lib.hid (HK3.out.put 42 ([.int .i64 0, .int .i64 0, .int .i64 0, .int .i64 0, .int .i64 0] : List Value).toArray VF (by have := HL_VF.out; simp; omega))
  clear ht HK3
  generalize (w3.alloc (.cells ([.int .i64 0, .int .i64 0, .int .i64 0, .int .i64 0, .int .i64 0] : List Value).toArray 42)).setCells w3.heap.size 0 VF = w4 at *
  generalize w3.heap.size = gl at *
  have e2 : w4.cell? ⟨gl, 2, none⟩ = some (.int .i64 x.2.2.1) := HK4.out.hd.at HF2.out
  have e3 : w4.cell? ⟨gl, 3, none⟩ = some (.int .i64 x.2.2.2.1) := HK4.out.hd.at HF3.out
  have e4 : w4.cell? ⟨gl, 4, none⟩ = some (.int .i64 x.2.2.2.2) := HK4.out.hd.at HF4.out
  have c3 : w4.cell? ⟨w.heap.size, 3, none⟩ = some (.string m.da) := HK4.out.tl.tl.tl.hd.at HM3.out
  have hkc := HK4.out.tl.tl.hd
  have htf := hkc.there 4 (by have := HL_V0.out; simp; omega)
  have HIN : Hid ((Tryd.prog.info? 24).map (·.size) = some ([.int .i64 x.2.2.1, .int .i64 x.2.2.2.1, .int .u32 x.2.2.2.2, .string m.da] : List Value).length) := Lib.hid (Tryd.infoMg (⟨x.2.2.1, x.2.2.2.1, x.2.2.2.2, m.da⟩ : Mg))
  go_wp2_with (((with_reducible (change wpList _ _ _ _ _ _)); ((refine wpList_store_mid rfl 24 _ _ rfl (w.heap.size + 1) 0 ([.int .i64 x.2.2.1, .int .i64 x.2.2.2.1, .int .u32 x.2.2.2.2, .string m.da] : List Value).toArray rfl rfl htf (by simpa using HIN.out) (by simp [Value.oneCell']) ?_))))
  have hk5 := Bk.sets [.int .i64 x.2.2.1, .int .i64 x.2.2.2.1, .int .u32 x.2.2.2.2, .string m.da] 0 _ _ hkc
  rw [puts_whole V0.toArray [.int .i64 x.2.2.1, .int .i64 x.2.2.2.1, .int .u32 x.2.2.2.2, .string m.da] (by have := HL_V0.out; simp; omega)] at hk5
  refine bodyPost_ret (v := .tuple #[.agg ([.int .i64 x.2.2.1, .int .i64 x.2.2.2.1, .int .u32 x.2.2.2.2, .string m.da] : List Value).toArray, .bool true]) ?_ rfl ?_
  · exact results_cell2 rfl rfl rfl (run_loadVar_mid _ (w.heap.size + 1) 0 24 [.int .i64 x.2.2.1, .int .i64 x.2.2.2.1, .int .u32 x.2.2.2.2, .string m.da] _ hk5.range Tryd.underlying24 rfl HIN.out)
  · rw [HS.out]
    exact ⟨rfl, below_sets _ (by omega) 0 _ HK4.out.2.1⟩
theorem rfour_any (m : Mg) (a b : Int) (w : World) (hr : 0 ≤ m.rs ∧ m.rs < 4294967296) : Calls Tryd.prog 16 #[.agg m.vals.toArray, .int .i64 a, .int .i64 b] w (fun e w' => e = .returned (.tuple #[.agg (four m a b).1.vals.toArray, .bool (four m a b).2]) ∧ Below w.heap.size w w') := by
  cases hb : mtus a b
  · exact rfour_mtu m a b w hb
  by_cases h2 : m.kd = 2
  · by_cases c0 : m.cd = 0
    · exact rfour_told m a b w hr hb h2 c0
    · cases hf : findL (ln4 m.rs) m.kd m.cd with
      | none => exact rfour_tabB_none m a b w hr hb h2 c0 hf
      | some x => exact rfour_tabB_some m a b w hr hb x h2 c0 hf
  by_cases h4 : m.kd = 4
  · by_cases c0 : m.cd = 0
    · by_cases v1 : m.rs ≤ 1
      · exact rfour_ptr_le m a b w hr hb h4 c0 v1
      by_cases v2 : m.rs = 2
      · exact rfour_ptr_r2 m a b w hb h4 c0 v2
      by_cases v3 : m.rs = 3
      · exact rfour_ptr_r3 m a b w hb h4 c0 v3
      by_cases v4 : m.rs = 4
      · exact rfour_ptr_r4 m a b w hb h4 c0 v4
      by_cases v5 : m.rs = 5
      · exact rfour_ptr_r5 m a b w hb h4 c0 v5
      by_cases v6 : m.rs = 6
      · exact rfour_ptr_r6 m a b w hb h4 c0 v6
      by_cases v7 : m.rs = 7
      · exact rfour_ptr_r7 m a b w hb h4 c0 v7
      by_cases v8 : m.rs < 24
      · exact rfour_ptr_r8 m a b w hr hb h4 c0 (by omega) v8
      by_cases v9 : m.rs < 40
      · exact rfour_ptr_r24 m a b w hr hb h4 c0 (by omega) v9
      exact rfour_ptr_far m a b w hr hb h4 c0 (by omega)
    · cases hf : findL (ln4 m.rs) m.kd m.cd with
      | none => exact rfour_tabC_none m a b w hr hb h4 c0 hf
      | some x => exact rfour_tabC_some m a b w hr hb x h4 c0 hf
  cases hf : findL (ln4 m.rs) m.kd m.cd with
  | none => exact rfour_tabA_none m a b w hr hb h2 h4 hf
  | some x => exact rfour_tabA_some m a b w hr hb x h2 h4 hf
end Go.Proofs.YtnehabpdpkjaeaaDoor
