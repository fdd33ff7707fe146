/-
  Proved here: what the document's To6 answers of MTUs that may not be, and of one that is told.
  Conditions: none.
-/
import Derived.Test.YtnehabpdpkjaeaaDoorRf
namespace Go.Proofs.YtnehabpdpkjaeaaDoor
open Go.RowKit

theorem mgBuild (w : World) : (Instr.build 24 #[]).run Tryd.prog w = .ok (.agg mg0.vals.toArray) w := by kernel_rfl
set_option maxRecDepth 100000 in
set_option maxHeartbeats 4000000 in
theorem rsix_mtu (m : Mg) (a b len : Int) (w : World) (hb : mtus a b = false) : Calls Tryd.prog 15 #[.agg m.vals.toArray, .int .i64 a, .int .i64 b, .int .i64 len] w (fun e w' => e = .returned (.tuple #[.agg (six m a b len).1.vals.toArray, .bool (six m a b len).2]) ∧ Below w.heap.size w w') := by
  have HS : Hid (six m a b len = (mg0, false)) := Lib.hid (by unfold six; rw [hb, if_pos rfl])
  have HBn : Hid (∀ W, Calls Tryd.prog 23 #[.int .i64 a, .int .i64 b] W fun e w' => e = .returned (.bool false) ∧ W = w') := Lib.hid (fun W => by rw [← hb]; exact rbounds_any a b W)
  clear hb
  obtain ⟨V0, hV0⟩ : ∃ V, V = mg0.vals := ⟨_, rfl⟩
  have HB0 : Hid (∀ W, (Instr.build 24 #[]).run Tryd.prog W = .ok (.agg V0.toArray) W) := Lib.hid (fun W => by rw [hV0]; exact mgBuild W)
  have HI_V0 : Hid ((Tryd.prog.info? 24).map (·.size) = some V0.length) := Lib.hid (by rw [hV0]; exact Tryd.infoMg _)
  have HO_V0 : Hid (V0.toArray.all (·.oneCell') = true) := Lib.hid (by rw [hV0]; exact mg_one _)
  have HL_V0 : Hid (V0.length = 4) := Lib.hid (by rw [hV0]; rfl)
  have hz0 : V0.toArray = #[.int .i64 0, .int .i64 0, .int .u32 0, .string ⟨#[]⟩] := by rw [hV0]; rfl
  have HV0 := Lib.hid hV0
  clear hV0
  have HI_VM : Hid ((Tryd.prog.info? 24).map (·.size) = some m.vals.length) := Lib.hid (Tryd.infoMg _)
  have HM0 : Hid (m.vals[0]? = some (.int .i64 m.kd)) := Lib.hid (by exact rfl)
  have HM1 : Hid (m.vals[1]? = some (.int .i64 m.cd)) := Lib.hid (by exact rfl)
  have HM2 : Hid (m.vals[2]? = some (.int .u32 m.rs)) := Lib.hid (by exact rfl)
  have HM3 : Hid (m.vals[3]? = some (.string m.da)) := Lib.hid (by exact rfl)
  have HK1 : Hid (Kp w w.heap.size [(w.heap.size + 1, 24, V0), (w.heap.size, 24, m.vals)] ((w.alloc (.cells m.vals.toArray 24)).alloc (.cells V0.toArray 24))) := Lib.hid (by
    have h := (Kp.start w).new 24 m.vals
    have e1 : (w.alloc (.cells m.vals.toArray 24)).heap.size = w.heap.size + 1 := by simp
    have h2 := h.new 24 V0
    rwa [e1] at h2)
  generalize m.vals = VM at *
  generalize hw1 : (w.alloc (.cells VM.toArray 24)).alloc (.cells V0.toArray 24) = w1 at *
  rw [hz0] at hw1
  go_enter Tryd.func15, Tryd.ntmps15
  go_upto_region 1 with (fail)
  clear hw1 hz0
  go_wp2_with (fail)
  refine (HBn.out _).mono ?_
  rintro e w99 ⟨rfl, rfl⟩
  go_upto_region 2 with (fail)
  have hkc := HK1.out.hd
  have htf := hkc.there V0.toArray.size (Nat.le_refl _)
  go_wp2_with (((with_reducible (change wpList _ _ _ _ _ _)); (first | (refine Great.wpList_readTo rfl _ rfl (.agg V0.toArray) (run_execN (T := 24) (l := #[]) (m := #[]) rfl (by simp) (HB0.out _)) ?_) | (refine wpList_store_mid rfl 24 _ _ rfl (w.heap.size + 1) 0 V0.toArray rfl rfl htf (by simpa using HI_V0.out) HO_V0.out ?_))))
  have hk5 := Bk.sets V0 0 _ _ hkc
  rw [puts_whole V0.toArray V0 (by simp)] at hk5
  refine bodyPost_ret (v := .tuple #[.agg V0.toArray, .bool false]) ?_ rfl ?_
  · exact results_cell2 rfl rfl rfl (run_loadVar_mid _ (w.heap.size + 1) 0 24 V0 _ hk5.range Tryd.underlying24 rfl HI_V0.out)
  · rw [HS.out]
    exact ⟨by rw [HV0.out], below_sets _ (by omega) 0 _ HK1.out.2.1⟩
set_option maxRecDepth 100000 in
set_option maxHeartbeats 4000000 in
theorem rsix_told_z (m : Mg) (a b len : Int) (w : World) (hr : 0 ≤ m.rs ∧ m.rs < 4294967296) (hb : mtus a b = true) (h1 : m.kd = 3) (h2 : m.cd = 4) (hz : m.rs % 65536 = 0) : Calls Tryd.prog 15 #[.agg m.vals.toArray, .int .i64 a, .int .i64 b, .int .i64 len] w (fun e w' => e = .returned (.tuple #[.agg (six m a b len).1.vals.toArray, .bool (six m a b len).2]) ∧ Below w.heap.size w w') := by
  have HS : Hid (six m a b len = (⟨2, 0, told6 m.rs a b len, m.da⟩, true)) := Lib.hid (by unfold six; rw [hb, if_neg (by simp), if_pos ⟨h1, h2⟩])
  obtain ⟨q0, q1, q2, q3⟩ := mtus_iff.1 hb
  have HBn : Hid (∀ W, Calls Tryd.prog 23 #[.int .i64 a, .int .i64 b] W fun e w' => e = .returned (.bool true) ∧ W = w') := Lib.hid (fun W => by rw [← hb]; exact rbounds_any a b W)
  clear hb
  have HT : Hid (told6 m.rs a b len = max 1280 (min (min (plat len + 20) b) (a + 20))) := Lib.hid (by unfold told6; rw [if_pos hz])
  have HP := Lib.hid (fun W => rplat_any len W)
  obtain ⟨p0, p1⟩ : 68 ≤ plat len ∧ plat len ≤ 65535 := ⟨(plat_in len).1, (plat_in len).2.1⟩
  have krem : m.rs.tmod 65536 = m.rs % 65536 := Int.tmod_eq_emod_of_nonneg hr.1
  have kid : IntKind.i64.wrap (m.rs % 65536) = m.rs % 65536 := IntWalk.i64_in _ (by omega)
  have kid2 : IntKind.u32.wrap (m.rs % 65536) = m.rs % 65536 := by rw [IntKind.wrap_u32]; omega
  have kz : (m.rs % 65536 == 0) = true := by rw [beq_iff_eq]; exact hz
  have HN := Lib.hid (And.intro krem (And.intro kid (And.intro kid2 kz)))
  clear krem kid kid2 kz
  obtain ⟨V0, hV0⟩ : ∃ V, V = mg0.vals := ⟨_, rfl⟩
  have HB0 : Hid (∀ W, (Instr.build 24 #[]).run Tryd.prog W = .ok (.agg V0.toArray) W) := Lib.hid (fun W => by rw [hV0]; exact mgBuild W)
  have HI_V0 : Hid ((Tryd.prog.info? 24).map (·.size) = some V0.length) := Lib.hid (by rw [hV0]; exact Tryd.infoMg _)
  have HO_V0 : Hid (V0.toArray.all (·.oneCell') = true) := Lib.hid (by rw [hV0]; exact mg_one _)
  have HL_V0 : Hid (V0.length = 4) := Lib.hid (by rw [hV0]; rfl)
  have hz0 : V0.toArray = #[.int .i64 0, .int .i64 0, .int .u32 0, .string ⟨#[]⟩] := by rw [hV0]; rfl
  have HV0 := Lib.hid hV0
  clear hV0
  have HI_VM : Hid ((Tryd.prog.info? 24).map (·.size) = some m.vals.length) := Lib.hid (Tryd.infoMg _)
  have HM0 : Hid (m.vals[0]? = some (.int .i64 3)) := Lib.hid (by rw [← h1]; rfl)
  have HM1 : Hid (m.vals[1]? = some (.int .i64 4)) := Lib.hid (by rw [← h2]; rfl)
  have HM2 : Hid (m.vals[2]? = some (.int .u32 m.rs)) := Lib.hid (by exact rfl)
  have HM3 : Hid (m.vals[3]? = some (.string m.da)) := Lib.hid (by exact rfl)
  have HK1 : Hid (Kp w w.heap.size [(w.heap.size + 1, 24, V0), (w.heap.size, 24, m.vals)] ((w.alloc (.cells m.vals.toArray 24)).alloc (.cells V0.toArray 24))) := Lib.hid (by
    have h := (Kp.start w).new 24 m.vals
    have e1 : (w.alloc (.cells m.vals.toArray 24)).heap.size = w.heap.size + 1 := by simp
    have h2 := h.new 24 V0
    rwa [e1] at h2)
  generalize m.vals = VM at *
  generalize hw1 : (w.alloc (.cells VM.toArray 24)).alloc (.cells V0.toArray 24) = w1 at *
  rw [hz0] at hw1
  go_enter Tryd.func15, Tryd.ntmps15
  go_upto_region 1 with (fail)
  clear hw1 hz0
  go_wp2_with (fail)
  refine (HBn.out _).mono ?_
  rintro e w99 ⟨rfl, rfl⟩
  have c0 : w1.cell? ⟨w.heap.size, 0, none⟩ = some (.int .i64 3) := HK1.out.tl.hd.at HM0.out
  have c1 : w1.cell? ⟨w.heap.size, 1, none⟩ = some (.int .i64 4) := HK1.out.tl.hd.at HM1.out
  go_upto_region 4 with (fail)
  clear c0 c1
  have c2 : w1.cell? ⟨w.heap.size, 2, none⟩ = some (.int .u32 m.rs) := HK1.out.tl.hd.at HM2.out
  obtain ⟨krem, kid, kid2, kz⟩ := HN.out
  go_upto_region 5 with (fail)
  go_wp2_with (fail)
  refine (HP.out _).mono ?_
  rintro e w2 ⟨rfl, bb⟩
  have HK2 := Lib.hid (HK1.out.below bb (Nat.le_refl _))
  clear bb HK1
  clear krem kid kid2 kz c2
  generalize plat len = t at *
  have kt : IntKind.i64.wrap (t + 20) = t + 20 := IntWalk.i64_in _ (by omega)
  have ka : IntKind.i64.wrap (a + 20) = a + 20 := IntWalk.i64_in _ (by omega)
  go_upto_region 8 with (fail)
  by_cases d1 : b < t + 20
  · by_cases d2 : a + 20 < b
    · by_cases d3 : (a + 20) < 1280
      · have c3 : w2.cell? ⟨w.heap.size, 3, none⟩ = some (.string m.da) := HK2.out.tl.hd.at HM3.out
        have HTN : Hid (told6 m.rs a b len = 1280) := Lib.hid (by rw [HT.out]; omega)
        have kN : IntKind.u32.wrap (1280) = 1280 := by rw [IntKind.wrap_u32]; omega
        have hkc := HK2.out.hd
        have htf := hkc.there 4 (by have := HL_V0.out; simp; omega)
        have HIN : Hid ((Tryd.prog.info? 24).map (·.size) = some ([.int .i64 2, .int .i64 0, .int .u32 (1280), .string m.da] : List Value).length) := Lib.hid (Tryd.infoMg (⟨2, 0, (1280), m.da⟩ : Mg))
        go_wp2_with (((with_reducible (change wpList _ _ _ _ _ _)); ((refine wpList_store_mid rfl 24 _ _ rfl (w.heap.size + 1) 0 ([.int .i64 2, .int .i64 0, .int .u32 (1280), .string m.da] : List Value).toArray rfl rfl htf (by simpa using HIN.out) (by simp [Value.oneCell']) ?_))))
        have hk5 := Bk.sets [.int .i64 2, .int .i64 0, .int .u32 (1280), .string m.da] 0 _ _ hkc
        rw [puts_whole V0.toArray [.int .i64 2, .int .i64 0, .int .u32 (1280), .string m.da] (by have := HL_V0.out; simp; omega)] at hk5
        refine bodyPost_ret (v := .tuple #[.agg ([.int .i64 2, .int .i64 0, .int .u32 (1280), .string m.da] : List Value).toArray, .bool true]) ?_ rfl ?_
        · exact results_cell2 rfl rfl rfl (run_loadVar_mid _ (w.heap.size + 1) 0 24 [.int .i64 2, .int .i64 0, .int .u32 (1280), .string m.da] _ hk5.range Tryd.underlying24 rfl HIN.out)
        · rw [HS.out, HTN.out]
          exact ⟨rfl, below_sets _ (by omega) 0 _ HK2.out.2.1⟩
      · have c3 : w2.cell? ⟨w.heap.size, 3, none⟩ = some (.string m.da) := HK2.out.tl.hd.at HM3.out
        have HTN : Hid (told6 m.rs a b len = (a + 20)) := Lib.hid (by rw [HT.out]; omega)
        have kN : IntKind.u32.wrap ((a + 20)) = (a + 20) := by rw [IntKind.wrap_u32]; omega
        have hkc := HK2.out.hd
        have htf := hkc.there 4 (by have := HL_V0.out; simp; omega)
        have HIN : Hid ((Tryd.prog.info? 24).map (·.size) = some ([.int .i64 2, .int .i64 0, .int .u32 ((a + 20)), .string m.da] : List Value).length) := Lib.hid (Tryd.infoMg (⟨2, 0, ((a + 20)), m.da⟩ : Mg))
        go_wp2_with (((with_reducible (change wpList _ _ _ _ _ _)); ((refine wpList_store_mid rfl 24 _ _ rfl (w.heap.size + 1) 0 ([.int .i64 2, .int .i64 0, .int .u32 ((a + 20)), .string m.da] : List Value).toArray rfl rfl htf (by simpa using HIN.out) (by simp [Value.oneCell']) ?_))))
        have hk5 := Bk.sets [.int .i64 2, .int .i64 0, .int .u32 ((a + 20)), .string m.da] 0 _ _ hkc
        rw [puts_whole V0.toArray [.int .i64 2, .int .i64 0, .int .u32 ((a + 20)), .string m.da] (by have := HL_V0.out; simp; omega)] at hk5
        refine bodyPost_ret (v := .tuple #[.agg ([.int .i64 2, .int .i64 0, .int .u32 ((a + 20)), .string m.da] : List Value).toArray, .bool true]) ?_ rfl ?_
        · exact results_cell2 rfl rfl rfl (run_loadVar_mid _ (w.heap.size + 1) 0 24 [.int .i64 2, .int .i64 0, .int .u32 ((a + 20)), .string m.da] _ hk5.range Tryd.underlying24 rfl HIN.out)
        · rw [HS.out, HTN.out]
          exact ⟨rfl, below_sets _ (by omega) 0 _ HK2.out.2.1⟩
    · by_cases d3 : b < 1280
      · omega
      · have c3 : w2.cell? ⟨w.heap.size, 3, none⟩ = some (.string m.da) := HK2.out.tl.hd.at HM3.out
        have HTN : Hid (told6 m.rs a b len = b) := Lib.hid (by rw [HT.out]; omega)
        have kN : IntKind.u32.wrap (b) = b := by rw [IntKind.wrap_u32]; omega
        have hkc := HK2.out.hd
        have htf := hkc.there 4 (by have := HL_V0.out; simp; omega)
        have HIN : Hid ((Tryd.prog.info? 24).map (·.size) = some ([.int .i64 2, .int .i64 0, .int .u32 (b), .string m.da] : List Value).length) := Lib.hid (Tryd.infoMg (⟨2, 0, (b), m.da⟩ : Mg))
        go_wp2_with (((with_reducible (change wpList _ _ _ _ _ _)); ((refine wpList_store_mid rfl 24 _ _ rfl (w.heap.size + 1) 0 ([.int .i64 2, .int .i64 0, .int .u32 (b), .string m.da] : List Value).toArray rfl rfl htf (by simpa using HIN.out) (by simp [Value.oneCell']) ?_))))
        have hk5 := Bk.sets [.int .i64 2, .int .i64 0, .int .u32 (b), .string m.da] 0 _ _ hkc
        rw [puts_whole V0.toArray [.int .i64 2, .int .i64 0, .int .u32 (b), .string m.da] (by have := HL_V0.out; simp; omega)] at hk5
        refine bodyPost_ret (v := .tuple #[.agg ([.int .i64 2, .int .i64 0, .int .u32 (b), .string m.da] : List Value).toArray, .bool true]) ?_ rfl ?_
        · exact results_cell2 rfl rfl rfl (run_loadVar_mid _ (w.heap.size + 1) 0 24 [.int .i64 2, .int .i64 0, .int .u32 (b), .string m.da] _ hk5.range Tryd.underlying24 rfl HIN.out)
        · rw [HS.out, HTN.out]
          exact ⟨rfl, below_sets _ (by omega) 0 _ HK2.out.2.1⟩
  · by_cases d2 : a + 20 < (t + 20)
    · by_cases d3 : (a + 20) < 1280
      · have c3 : w2.cell? ⟨w.heap.size, 3, none⟩ = some (.string m.da) := HK2.out.tl.hd.at HM3.out
        have HTN : Hid (told6 m.rs a b len = 1280) := Lib.hid (by rw [HT.out]; omega)
        have kN : IntKind.u32.wrap (1280) = 1280 := by rw [IntKind.wrap_u32]; omega
        have hkc := HK2.out.hd
        have htf := hkc.there 4 (by have := HL_V0.out; simp; omega)
        have HIN : Hid ((Tryd.prog.info? 24).map (·.size) = some ([.int .i64 2, .int .i64 0, .int .u32 (1280), .string m.da] : List Value).length) := Lib.hid (Tryd.infoMg (⟨2, 0, (1280), m.da⟩ : Mg))
        go_wp2_with (((with_reducible (change wpList _ _ _ _ _ _)); ((refine wpList_store_mid rfl 24 _ _ rfl (w.heap.size + 1) 0 ([.int .i64 2, .int .i64 0, .int .u32 (1280), .string m.da] : List Value).toArray rfl rfl htf (by simpa using HIN.out) (by simp [Value.oneCell']) ?_))))
        have hk5 := Bk.sets [.int .i64 2, .int .i64 0, .int .u32 (1280), .string m.da] 0 _ _ hkc
        rw [puts_whole V0.toArray [.int .i64 2, .int .i64 0, .int .u32 (1280), .string m.da] (by have := HL_V0.out; simp; omega)] at hk5
        refine bodyPost_ret (v := .tuple #[.agg ([.int .i64 2, .int .i64 0, .int .u32 (1280), .string m.da] : List Value).toArray, .bool true]) ?_ rfl ?_
        · exact results_cell2 rfl rfl rfl (run_loadVar_mid _ (w.heap.size + 1) 0 24 [.int .i64 2, .int .i64 0, .int .u32 (1280), .string m.da] _ hk5.range Tryd.underlying24 rfl HIN.out)
        · rw [HS.out, HTN.out]
          exact ⟨rfl, below_sets _ (by omega) 0 _ HK2.out.2.1⟩
      · have c3 : w2.cell? ⟨w.heap.size, 3, none⟩ = some (.string m.da) := HK2.out.tl.hd.at HM3.out
        have HTN : Hid (told6 m.rs a b len = (a + 20)) := Lib.hid (by rw [HT.out]; omega)
        have kN : IntKind.u32.wrap ((a + 20)) = (a + 20) := by rw [IntKind.wrap_u32]; omega
        have hkc := HK2.out.hd
        have htf := hkc.there 4 (by have := HL_V0.out; simp; omega)
        have HIN : Hid ((Tryd.prog.info? 24).map (·.size) = some ([.int .i64 2, .int .i64 0, .int .u32 ((a + 20)), .string m.da] : List Value).length) := Lib.hid (Tryd.infoMg (⟨2, 0, ((a + 20)), m.da⟩ : Mg))
        go_wp2_with (((with_reducible (change wpList _ _ _ _ _ _)); ((refine wpList_store_mid rfl 24 _ _ rfl (w.heap.size + 1) 0 ([.int .i64 2, .int .i64 0, .int .u32 ((a + 20)), .string m.da] : List Value).toArray rfl rfl htf (by simpa using HIN.out) (by simp [Value.oneCell']) ?_))))
        have hk5 := Bk.sets [.int .i64 2, .int .i64 0, .int .u32 ((a + 20)), .string m.da] 0 _ _ hkc
        rw [puts_whole V0.toArray [.int .i64 2, .int .i64 0, .int .u32 ((a + 20)), .string m.da] (by have := HL_V0.out; simp; omega)] at hk5
        refine bodyPost_ret (v := .tuple #[.agg ([.int .i64 2, .int .i64 0, .int .u32 ((a + 20)), .string m.da] : List Value).toArray, .bool true]) ?_ rfl ?_
        · exact results_cell2 rfl rfl rfl (run_loadVar_mid _ (w.heap.size + 1) 0 24 [.int .i64 2, .int .i64 0, .int .u32 ((a + 20)), .string m.da] _ hk5.range Tryd.underlying24 rfl HIN.out)
        · rw [HS.out, HTN.out]
          exact ⟨rfl, below_sets _ (by omega) 0 _ HK2.out.2.1⟩
    · by_cases d3 : (t + 20) < 1280
      · have c3 : w2.cell? ⟨w.heap.size, 3, none⟩ = some (.string m.da) := HK2.out.tl.hd.at HM3.out
        have HTN : Hid (told6 m.rs a b len = 1280) := Lib.hid (by rw [HT.out]; omega)
        have kN : IntKind.u32.wrap (1280) = 1280 := by rw [IntKind.wrap_u32]; omega
        have hkc := HK2.out.hd
        have htf := hkc.there 4 (by have := HL_V0.out; simp; omega)
        have HIN : Hid ((Tryd.prog.info? 24).map (·.size) = some ([.int .i64 2, .int .i64 0, .int .u32 (1280), .string m.da] : List Value).length) := Lib.hid (Tryd.infoMg (⟨2, 0, (1280), m.da⟩ : Mg))
        go_wp2_with (((with_reducible (change wpList _ _ _ _ _ _)); ((refine wpList_store_mid rfl 24 _ _ rfl (w.heap.size + 1) 0 ([.int .i64 2, .int .i64 0, .int .u32 (1280), .string m.da] : List Value).toArray rfl rfl htf (by simpa using HIN.out) (by simp [Value.oneCell']) ?_))))
        have hk5 := Bk.sets [.int .i64 2, .int .i64 0, .int .u32 (1280), .string m.da] 0 _ _ hkc
        rw [puts_whole V0.toArray [.int .i64 2, .int .i64 0, .int .u32 (1280), .string m.da] (by have := HL_V0.out; simp; omega)] at hk5
        refine bodyPost_ret (v := .tuple #[.agg ([.int .i64 2, .int .i64 0, .int .u32 (1280), .string m.da] : List Value).toArray, .bool true]) ?_ rfl ?_
        · exact results_cell2 rfl rfl rfl (run_loadVar_mid _ (w.heap.size + 1) 0 24 [.int .i64 2, .int .i64 0, .int .u32 (1280), .string m.da] _ hk5.range Tryd.underlying24 rfl HIN.out)
        · rw [HS.out, HTN.out]
          exact ⟨rfl, below_sets _ (by omega) 0 _ HK2.out.2.1⟩
      · have c3 : w2.cell? ⟨w.heap.size, 3, none⟩ = some (.string m.da) := HK2.out.tl.hd.at HM3.out
        have HTN : Hid (told6 m.rs a b len = (t + 20)) := Lib.hid (by rw [HT.out]; omega)
        have kN : IntKind.u32.wrap ((t + 20)) = (t + 20) := by rw [IntKind.wrap_u32]; omega
        have hkc := HK2.out.hd
        have htf := hkc.there 4 (by have := HL_V0.out; simp; omega)
        have HIN : Hid ((Tryd.prog.info? 24).map (·.size) = some ([.int .i64 2, .int .i64 0, .int .u32 ((t + 20)), .string m.da] : List Value).length) := Lib.hid (Tryd.infoMg (⟨2, 0, ((t + 20)), m.da⟩ : Mg))
        go_wp2_with (((with_reducible (change wpList _ _ _ _ _ _)); ((refine wpList_store_mid rfl 24 _ _ rfl (w.heap.size + 1) 0 ([.int .i64 2, .int .i64 0, .int .u32 ((t + 20)), .string m.da] : List Value).toArray rfl rfl htf (by simpa using HIN.out) (by simp [Value.oneCell']) ?_))))
        have hk5 := Bk.sets [.int .i64 2, .int .i64 0, .int .u32 ((t + 20)), .string m.da] 0 _ _ hkc
        rw [puts_whole V0.toArray [.int .i64 2, .int .i64 0, .int .u32 ((t + 20)), .string m.da] (by have := HL_V0.out; simp; omega)] at hk5
        refine bodyPost_ret (v := .tuple #[.agg ([.int .i64 2, .int .i64 0, .int .u32 ((t + 20)), .string m.da] : List Value).toArray, .bool true]) ?_ rfl ?_
        · exact results_cell2 rfl rfl rfl (run_loadVar_mid _ (w.heap.size + 1) 0 24 [.int .i64 2, .int .i64 0, .int .u32 ((t + 20)), .string m.da] _ hk5.range Tryd.underlying24 rfl HIN.out)
        · rw [HS.out, HTN.out]
          exact ⟨rfl, below_sets _ (by omega) 0 _ HK2.out.2.1⟩
set_option maxRecDepth 100000 in
set_option maxHeartbeats 4000000 in
theorem rsix_told_n (m : Mg) (a b len : Int) (w : World) (hr : 0 ≤ m.rs ∧ m.rs < 4294967296) (hb : mtus a b = true) (h1 : m.kd = 3) (h2 : m.cd = 4) (hz : ¬ m.rs % 65536 = 0) : Calls Tryd.prog 15 #[.agg m.vals.toArray, .int .i64 a, .int .i64 b, .int .i64 len] w (fun e w' => e = .returned (.tuple #[.agg (six m a b len).1.vals.toArray, .bool (six m a b len).2]) ∧ Below w.heap.size w w') := by
  have HS : Hid (six m a b len = (⟨2, 0, told6 m.rs a b len, m.da⟩, true)) := Lib.hid (by unfold six; rw [hb, if_neg (by simp), if_pos ⟨h1, h2⟩])
  obtain ⟨q0, q1, q2, q3⟩ := mtus_iff.1 hb
  have HBn : Hid (∀ W, Calls Tryd.prog 23 #[.int .i64 a, .int .i64 b] W fun e w' => e = .returned (.bool true) ∧ W = w') := Lib.hid (fun W => by rw [← hb]; exact rbounds_any a b W)
  clear hb
  have HT : Hid (told6 m.rs a b len = max 1280 (min (min (m.rs % 65536 + 20) b) (a + 20))) := Lib.hid (by unfold told6; rw [if_neg hz])
  have krem : m.rs.tmod 65536 = m.rs % 65536 := Int.tmod_eq_emod_of_nonneg hr.1
  have kid : IntKind.i64.wrap (m.rs % 65536) = m.rs % 65536 := IntWalk.i64_in _ (by omega)
  have kid2 : IntKind.u32.wrap (m.rs % 65536) = m.rs % 65536 := by rw [IntKind.wrap_u32]; omega
  have kz : (m.rs % 65536 == 0) = false := by rw [beq_eq_false_iff_ne]; exact hz
  have p0 : 1 ≤ m.rs % 65536 := by omega
  have p1 : m.rs % 65536 ≤ 65535 := by omega
  have HN := Lib.hid (And.intro krem (And.intro kid (And.intro kid2 kz)))
  clear krem kid kid2 kz
  obtain ⟨V0, hV0⟩ : ∃ V, V = mg0.vals := ⟨_, rfl⟩
  have HB0 : Hid (∀ W, (Instr.build 24 #[]).run Tryd.prog W = .ok (.agg V0.toArray) W) := Lib.hid (fun W => by rw [hV0]; exact mgBuild W)
  have HI_V0 : Hid ((Tryd.prog.info? 24).map (·.size) = some V0.length) := Lib.hid (by rw [hV0]; exact Tryd.infoMg _)
  have HO_V0 : Hid (V0.toArray.all (·.oneCell') = true) := Lib.hid (by rw [hV0]; exact mg_one _)
  have HL_V0 : Hid (V0.length = 4) := Lib.hid (by rw [hV0]; rfl)
  have hz0 : V0.toArray = #[.int .i64 0, .int .i64 0, .int .u32 0, .string ⟨#[]⟩] := by rw [hV0]; rfl
  have HV0 := Lib.hid hV0
  clear hV0
  have HI_VM : Hid ((Tryd.prog.info? 24).map (·.size) = some m.vals.length) := Lib.hid (Tryd.infoMg _)
  have HM0 : Hid (m.vals[0]? = some (.int .i64 3)) := Lib.hid (by rw [← h1]; rfl)
  have HM1 : Hid (m.vals[1]? = some (.int .i64 4)) := Lib.hid (by rw [← h2]; rfl)
  have HM2 : Hid (m.vals[2]? = some (.int .u32 m.rs)) := Lib.hid (by exact rfl)
  have HM3 : Hid (m.vals[3]? = some (.string m.da)) := Lib.hid (by exact rfl)
  have HK1 : Hid (Kp w w.heap.size [(w.heap.size + 1, 24, V0), (w.heap.size, 24, m.vals)] ((w.alloc (.cells m.vals.toArray 24)).alloc (.cells V0.toArray 24))) := Lib.hid (by
    have h := (Kp.start w).new 24 m.vals
    have e1 : (w.alloc (.cells m.vals.toArray 24)).heap.size = w.heap.size + 1 := by simp
    have h2 := h.new 24 V0
    rwa [e1] at h2)
  generalize m.vals = VM at *
  generalize hw1 : (w.alloc (.cells VM.toArray 24)).alloc (.cells V0.toArray 24) = w1 at *
  rw [hz0] at hw1
  go_enter Tryd.func15, Tryd.ntmps15
  go_upto_region 1 with (fail)
  clear hw1 hz0
  go_wp2_with (fail)
  refine (HBn.out _).mono ?_
  rintro e w99 ⟨rfl, rfl⟩
  have c0 : w1.cell? ⟨w.heap.size, 0, none⟩ = some (.int .i64 3) := HK1.out.tl.hd.at HM0.out
  have c1 : w1.cell? ⟨w.heap.size, 1, none⟩ = some (.int .i64 4) := HK1.out.tl.hd.at HM1.out
  go_upto_region 4 with (fail)
  clear c0 c1
  have c2 : w1.cell? ⟨w.heap.size, 2, none⟩ = some (.int .u32 m.rs) := HK1.out.tl.hd.at HM2.out
  obtain ⟨krem, kid, kid2, kz⟩ := HN.out
  go_upto_region 5 with (fail)
  clear krem kid kid2 c2
  generalize m.rs % 65536 = t at *
  have kt : IntKind.i64.wrap (t + 20) = t + 20 := IntWalk.i64_in _ (by omega)
  have ka : IntKind.i64.wrap (a + 20) = a + 20 := IntWalk.i64_in _ (by omega)
  go_upto_region 8 with (fail)
  by_cases d1 : b < t + 20
  · by_cases d2 : a + 20 < b
    · by_cases d3 : (a + 20) < 1280
      · have c3 : w1.cell? ⟨w.heap.size, 3, none⟩ = some (.string m.da) := HK1.out.tl.hd.at HM3.out
        have HTN : Hid (told6 m.rs a b len = 1280) := Lib.hid (by rw [HT.out]; omega)
        have kN : IntKind.u32.wrap (1280) = 1280 := by rw [IntKind.wrap_u32]; omega
        have hkc := HK1.out.hd
        have htf := hkc.there 4 (by have := HL_V0.out; simp; omega)
        have HIN : Hid ((Tryd.prog.info? 24).map (·.size) = some ([.int .i64 2, .int .i64 0, .int .u32 (1280), .string m.da] : List Value).length) := Lib.hid (Tryd.infoMg (⟨2, 0, (1280), m.da⟩ : Mg))
        go_wp2_with (((with_reducible (change wpList _ _ _ _ _ _)); ((refine wpList_store_mid rfl 24 _ _ rfl (w.heap.size + 1) 0 ([.int .i64 2, .int .i64 0, .int .u32 (1280), .string m.da] : List Value).toArray rfl rfl htf (by simpa using HIN.out) (by simp [Value.oneCell']) ?_))))
        have hk5 := Bk.sets [.int .i64 2, .int .i64 0, .int .u32 (1280), .string m.da] 0 _ _ hkc
        rw [puts_whole V0.toArray [.int .i64 2, .int .i64 0, .int .u32 (1280), .string m.da] (by have := HL_V0.out; simp; omega)] at hk5
        refine bodyPost_ret (v := .tuple #[.agg ([.int .i64 2, .int .i64 0, .int .u32 (1280), .string m.da] : List Value).toArray, .bool true]) ?_ rfl ?_
        · exact results_cell2 rfl rfl rfl (run_loadVar_mid _ (w.heap.size + 1) 0 24 [.int .i64 2, .int .i64 0, .int .u32 (1280), .string m.da] _ hk5.range Tryd.underlying24 rfl HIN.out)
        · rw [HS.out, HTN.out]
          exact ⟨rfl, below_sets _ (by omega) 0 _ HK1.out.2.1⟩
      · have c3 : w1.cell? ⟨w.heap.size, 3, none⟩ = some (.string m.da) := HK1.out.tl.hd.at HM3.out
        have HTN : Hid (told6 m.rs a b len = (a + 20)) := Lib.hid (by rw [HT.out]; omega)
        have kN : IntKind.u32.wrap ((a + 20)) = (a + 20) := by rw [IntKind.wrap_u32]; omega
        have hkc := HK1.out.hd
        have htf := hkc.there 4 (by have := HL_V0.out; simp; omega)
        have HIN : Hid ((Tryd.prog.info? 24).map (·.size) = some ([.int .i64 2, .int .i64 0, .int .u32 ((a + 20)), .string m.da] : List Value).length) := Lib.hid (Tryd.infoMg (⟨2, 0, ((a + 20)), m.da⟩ : Mg))
        go_wp2_with (((with_reducible (change wpList _ _ _ _ _ _)); ((refine wpList_store_mid rfl 24 _ _ rfl (w.heap.size + 1) 0 ([.int .i64 2, .int .i64 0, .int .u32 ((a + 20)), .string m.da] : List Value).toArray rfl rfl htf (by simpa using HIN.out) (by simp [Value.oneCell']) ?_))))
        have hk5 := Bk.sets [.int .i64 2, .int .i64 0, .int .u32 ((a + 20)), .string m.da] 0 _ _ hkc
        rw [puts_whole V0.toArray [.int .i64 2, .int .i64 0, .int .u32 ((a + 20)), .string m.da] (by have := HL_V0.out; simp; omega)] at hk5
        refine bodyPost_ret (v := .tuple #[.agg ([.int .i64 2, .int .i64 0, .int .u32 ((a + 20)), .string m.da] : List Value).toArray, .bool true]) ?_ rfl ?_
        · exact results_cell2 rfl rfl rfl (run_loadVar_mid _ (w.heap.size + 1) 0 24 [.int .i64 2, .int .i64 0, .int .u32 ((a + 20)), .string m.da] _ hk5.range Tryd.underlying24 rfl HIN.out)
        · rw [HS.out, HTN.out]
          exact ⟨rfl, below_sets _ (by omega) 0 _ HK1.out.2.1⟩
    · by_cases d3 : b < 1280
      · omega
      · have c3 : w1.cell? ⟨w.heap.size, 3, none⟩ = some (.string m.da) := HK1.out.tl.hd.at HM3.out
        have HTN : Hid (told6 m.rs a b len = b) := Lib.hid (by rw [HT.out]; omega)
        have kN : IntKind.u32.wrap (b) = b := by rw [IntKind.wrap_u32]; omega
        have hkc := HK1.out.hd
        have htf := hkc.there 4 (by have := HL_V0.out; simp; omega)
        have HIN : Hid ((Tryd.prog.info? 24).map (·.size) = some ([.int .i64 2, .int .i64 0, .int .u32 (b), .string m.da] : List Value).length) := Lib.hid (Tryd.infoMg (⟨2, 0, (b), m.da⟩ : Mg))
        go_wp2_with (((with_reducible (change wpList _ _ _ _ _ _)); ((refine wpList_store_mid rfl 24 _ _ rfl (w.heap.size + 1) 0 ([.int .i64 2, .int .i64 0, .int .u32 (b), .string m.da] : List Value).toArray rfl rfl htf (by simpa using HIN.out) (by simp [Value.oneCell']) ?_))))
        have hk5 := Bk.sets [.int .i64 2, .int .i64 0, .int .u32 (b), .string m.da] 0 _ _ hkc
        rw [puts_whole V0.toArray [.int .i64 2, .int .i64 0, .int .u32 (b), .string m.da] (by have := HL_V0.out; simp; omega)] at hk5
        refine bodyPost_ret (v := .tuple #[.agg ([.int .i64 2, .int .i64 0, .int .u32 (b), .string m.da] : List Value).toArray, .bool true]) ?_ rfl ?_
        · exact results_cell2 rfl rfl rfl (run_loadVar_mid _ (w.heap.size + 1) 0 24 [.int .i64 2, .int .i64 0, .int .u32 (b), .string m.da] _ hk5.range Tryd.underlying24 rfl HIN.out)
        · rw [HS.out, HTN.out]
          exact ⟨rfl, below_sets _ (by omega) 0 _ HK1.out.2.1⟩
  · by_cases d2 : a + 20 < (t + 20)
    · by_cases d3 : (a + 20) < 1280
      · have c3 : w1.cell? ⟨w.heap.size, 3, none⟩ = some (.string m.da) := HK1.out.tl.hd.at HM3.out
        have HTN : Hid (told6 m.rs a b len = 1280) := Lib.hid (by rw [HT.out]; omega)
        have kN : IntKind.u32.wrap (1280) = 1280 := by rw [IntKind.wrap_u32]; omega
        have hkc := HK1.out.hd
        have htf := hkc.there 4 (by have := HL_V0.out; simp; omega)
        have HIN : Hid ((Tryd.prog.info? 24).map (·.size) = some ([.int .i64 2, .int .i64 0, .int .u32 (1280), .string m.da] : List Value).length) := Lib.hid (Tryd.infoMg (⟨2, 0, (1280), m.da⟩ : Mg))
        go_wp2_with (((with_reducible (change wpList _ _ _ _ _ _)); ((refine wpList_store_mid rfl 24 _ _ rfl (w.heap.size + 1) 0 ([.int .i64 2, .int .i64 0, .int .u32 (1280), .string m.da] : List Value).toArray rfl rfl htf (by simpa using HIN.out) (by simp [Value.oneCell']) ?_))))
        have hk5 := Bk.sets [.int .i64 2, .int .i64 0, .int .u32 (1280), .string m.da] 0 _ _ hkc
        rw [puts_whole V0.toArray [.int .i64 2, .int .i64 0, .int .u32 (1280), .string m.da] (by have := HL_V0.out; simp; omega)] at hk5
        refine bodyPost_ret (v := .tuple #[.agg ([.int .i64 2, .int .i64 0, .int .u32 (1280), .string m.da] : List Value).toArray, .bool true]) ?_ rfl ?_
        · exact results_cell2 rfl rfl rfl (run_loadVar_mid _ (w.heap.size + 1) 0 24 [.int .i64 2, .int .i64 0, .int .u32 (1280), .string m.da] _ hk5.range Tryd.underlying24 rfl HIN.out)
        · rw [HS.out, HTN.out]
          exact ⟨rfl, below_sets _ (by omega) 0 _ HK1.out.2.1⟩
      · have c3 : w1.cell? ⟨w.heap.size, 3, none⟩ = some (.string m.da) := HK1.out.tl.hd.at HM3.out
        have HTN : Hid (told6 m.rs a b len = (a + 20)) := Lib.hid (by rw [HT.out]; omega)
        have kN : IntKind.u32.wrap ((a + 20)) = (a + 20) := by rw [IntKind.wrap_u32]; omega
        have hkc := HK1.out.hd
        have htf := hkc.there 4 (by have := HL_V0.out; simp; omega)
        have HIN : Hid ((Tryd.prog.info? 24).map (·.size) = some ([.int .i64 2, .int .i64 0, .int .u32 ((a + 20)), .string m.da] : List Value).length) := Lib.hid (Tryd.infoMg (⟨2, 0, ((a + 20)), m.da⟩ : Mg))
        go_wp2_with (((with_reducible (change wpList _ _ _ _ _ _)); ((refine wpList_store_mid rfl 24 _ _ rfl (w.heap.size + 1) 0 ([.int .i64 2, .int .i64 0, .int .u32 ((a + 20)), .string m.da] : List Value).toArray rfl rfl htf (by simpa using HIN.out) (by simp [Value.oneCell']) ?_))))
        have hk5 := Bk.sets [.int .i64 2, .int .i64 0, .int .u32 ((a + 20)), .string m.da] 0 _ _ hkc
        rw [puts_whole V0.toArray [.int .i64 2, .int .i64 0, .int .u32 ((a + 20)), .string m.da] (by have := HL_V0.out; simp; omega)] at hk5
        refine bodyPost_ret (v := .tuple #[.agg ([.int .i64 2, .int .i64 0, .int .u32 ((a + 20)), .string m.da] : List Value).toArray, .bool true]) ?_ rfl ?_
        · exact results_cell2 rfl rfl rfl (run_loadVar_mid _ (w.heap.size + 1) 0 24 [.int .i64 2, .int .i64 0, .int .u32 ((a + 20)), .string m.da] _ hk5.range Tryd.underlying24 rfl HIN.out)
        · rw [HS.out, HTN.out]
          exact ⟨rfl, below_sets _ (by omega) 0 _ HK1.out.2.1⟩
    · by_cases d3 : (t + 20) < 1280
      · have c3 : w1.cell? ⟨w.heap.size, 3, none⟩ = some (.string m.da) := HK1.out.tl.hd.at HM3.out
        have HTN : Hid (told6 m.rs a b len = 1280) := Lib.hid (by rw [HT.out]; omega)
        have kN : IntKind.u32.wrap (1280) = 1280 := by rw [IntKind.wrap_u32]; omega
        have hkc := HK1.out.hd
        have htf := hkc.there 4 (by have := HL_V0.out; simp; omega)
        have HIN : Hid ((Tryd.prog.info? 24).map (·.size) = some ([.int .i64 2, .int .i64 0, .int .u32 (1280), .string m.da] : List Value).length) := Lib.hid (Tryd.infoMg (⟨2, 0, (1280), m.da⟩ : Mg))
        go_wp2_with (((with_reducible (change wpList _ _ _ _ _ _)); ((refine wpList_store_mid rfl 24 _ _ rfl (w.heap.size + 1) 0 ([.int .i64 2, .int .i64 0, .int .u32 (1280), .string m.da] : List Value).toArray rfl rfl htf (by simpa using HIN.out) (by simp [Value.oneCell']) ?_))))
        have hk5 := Bk.sets [.int .i64 2, .int .i64 0, .int .u32 (1280), .string m.da] 0 _ _ hkc
        rw [puts_whole V0.toArray [.int .i64 2, .int .i64 0, .int .u32 (1280), .string m.da] (by have := HL_V0.out; simp; omega)] at hk5
        refine bodyPost_ret (v := .tuple #[.agg ([.int .i64 2, .int .i64 0, .int .u32 (1280), .string m.da] : List Value).toArray, .bool true]) ?_ rfl ?_
        · exact results_cell2 rfl rfl rfl (run_loadVar_mid _ (w.heap.size + 1) 0 24 [.int .i64 2, .int .i64 0, .int .u32 (1280), .string m.da] _ hk5.range Tryd.underlying24 rfl HIN.out)
        · rw [HS.out, HTN.out]
          exact ⟨rfl, below_sets _ (by omega) 0 _ HK1.out.2.1⟩
      · have c3 : w1.cell? ⟨w.heap.size, 3, none⟩ = some (.string m.da) := HK1.out.tl.hd.at HM3.out
        have HTN : Hid (told6 m.rs a b len = (t + 20)) := Lib.hid (by rw [HT.out]; omega)
        have kN : IntKind.u32.wrap ((t + 20)) = (t + 20) := by rw [IntKind.wrap_u32]; omega
        have hkc := HK1.out.hd
        have htf := hkc.there 4 (by have := HL_V0.out; simp; omega)
        have HIN : Hid ((Tryd.prog.info? 24).map (·.size) = some ([.int .i64 2, .int .i64 0, .int .u32 ((t + 20)), .string m.da] : List Value).length) := Lib.hid (Tryd.infoMg (⟨2, 0, ((t + 20)), m.da⟩ : Mg))
        go_wp2_with (((with_reducible (change wpList _ _ _ _ _ _)); ((refine wpList_store_mid rfl 24 _ _ rfl (w.heap.size + 1) 0 ([.int .i64 2, .int .i64 0, .int .u32 ((t + 20)), .string m.da] : List Value).toArray rfl rfl htf (by simpa using HIN.out) (by simp [Value.oneCell']) ?_))))
        have hk5 := Bk.sets [.int .i64 2, .int .i64 0, .int .u32 ((t + 20)), .string m.da] 0 _ _ hkc
        rw [puts_whole V0.toArray [.int .i64 2, .int .i64 0, .int .u32 ((t + 20)), .string m.da] (by have := HL_V0.out; simp; omega)] at hk5
        refine bodyPost_ret (v := .tuple #[.agg ([.int .i64 2, .int .i64 0, .int .u32 ((t + 20)), .string m.da] : List Value).toArray, .bool true]) ?_ rfl ?_
        · exact results_cell2 rfl rfl rfl (run_loadVar_mid _ (w.heap.size + 1) 0 24 [.int .i64 2, .int .i64 0, .int .u32 ((t + 20)), .string m.da] _ hk5.range Tryd.underlying24 rfl HIN.out)
        · rw [HS.out, HTN.out]
          exact ⟨rfl, below_sets _ (by omega) 0 _ HK1.out.2.1⟩
end Go.Proofs.YtnehabpdpkjaeaaDoor
