/-
  Proved here: the law IcmpmapData answers true (LDatab).
  Conditions: none.
-/
import Derived.Test.YtnehabpdpkjaeaaDoorLDataa
namespace Go.Proofs.YtnehabpdpkjaeaaDoor
open Go.RowKit

set_option maxRecDepth 100000 in
set_option maxHeartbeats 4000000 in
theorem data_s12t (m : Mg) (r : Int) (d : ByteArray) (a b len : Int) (w : World) (hm : Hm w) (hr : 0 ≤ m.rs ∧ m.rs < 4294967296) (ir : 0 ≤ r ∧ r < 4294967296) (hd : ¬ (1000 : Int) < (m.da.size : Int)) (he : ¬ (1000 : Int) < (d.size : Int)) (h1 : m.kd = 12) (e4 : (four m a b).2 = true) : Calls Tryd.prog 10 #[.agg m.vals.toArray, .int .u32 r, .string d, .int .i64 a, .int .i64 b, .int .i64 len] w (fun e w' => e = .returned (.bool true) ∧ Below w.heap.size w w') := by
  have HMB : Hid (∀ W, Below w.heap.size w W → Hm W) := Lib.hid (fun W hW => hm.below hW)
  obtain ⟨f1, f2, f3, f4⟩ := four_data (kd := m.kd) (cd := m.cd) (r := m.rs) (q := r) (d := m.da) (e := d) (a := a) (b := b) (by omega)
  rw [mg_eta] at f1 f2 f3
  obtain ⟨X1, hX1⟩ : ∃ V, V = (six m a b len).1.vals := ⟨_, rfl⟩
  have HI_X1 : Hid ((Tryd.prog.info? 24).map (·.size) = some X1.length) := Lib.hid (by rw [hX1]; exact Tryd.infoMg _)
  have HO_X1 : Hid (X1.toArray.all (·.oneCell') = true) := Lib.hid (by rw [hX1]; exact mg_one _)
  have HL_X1 : Hid (X1.length = 4) := Lib.hid (by rw [hX1]; rfl)
  obtain ⟨X2, hX2⟩ : ∃ V, V = (six (⟨m.kd, m.cd, r, d⟩ : Mg) a b len).1.vals := ⟨_, rfl⟩
  have HI_X2 : Hid ((Tryd.prog.info? 24).map (·.size) = some X2.length) := Lib.hid (by rw [hX2]; exact Tryd.infoMg _)
  have HO_X2 : Hid (X2.toArray.all (·.oneCell') = true) := Lib.hid (by rw [hX2]; exact mg_one _)
  have HL_X2 : Hid (X2.length = 4) := Lib.hid (by rw [hX2]; rfl)
  obtain ⟨Y1, hY1⟩ : ∃ V, V = (four m a b).1.vals := ⟨_, rfl⟩
  have HI_Y1 : Hid ((Tryd.prog.info? 24).map (·.size) = some Y1.length) := Lib.hid (by rw [hY1]; exact Tryd.infoMg _)
  have HO_Y1 : Hid (Y1.toArray.all (·.oneCell') = true) := Lib.hid (by rw [hY1]; exact mg_one _)
  have HL_Y1 : Hid (Y1.length = 4) := Lib.hid (by rw [hY1]; rfl)
  obtain ⟨Y2, hY2⟩ : ∃ V, V = (four (⟨m.kd, m.cd, r, d⟩ : Mg) a b).1.vals := ⟨_, rfl⟩
  have HI_Y2 : Hid ((Tryd.prog.info? 24).map (·.size) = some Y2.length) := Lib.hid (by rw [hY2]; exact Tryd.infoMg _)
  have HO_Y2 : Hid (Y2.toArray.all (·.oneCell') = true) := Lib.hid (by rw [hY2]; exact mg_one _)
  have HL_Y2 : Hid (Y2.length = 4) := Lib.hid (by rw [hY2]; rfl)
  have CA : Hid (∀ W, Below w.heap.size w W → Calls Tryd.prog 11 #[.agg m.vals.toArray, .int .i64 a, .int .i64 b, .int .i64 len] W (fun e w' => e = .returned (.tuple #[.agg X1.toArray, .bool (six m a b len).2]) ∧ Below W.heap.size W w')) := Lib.hid (fun W hW => by have hmW := HMB.out W hW; rw [hX1]; exact psix_any m a b len W hr)
  have CB : Hid (∀ W, Below w.heap.size w W → Calls Tryd.prog 11 #[.agg (⟨m.kd, m.cd, r, d⟩ : Mg).vals.toArray, .int .i64 a, .int .i64 b, .int .i64 len] W (fun e w' => e = .returned (.tuple #[.agg X2.toArray, .bool (six (⟨m.kd, m.cd, r, d⟩ : Mg) a b len).2]) ∧ Below W.heap.size W w')) := Lib.hid (fun W hW => by have hmW := HMB.out W hW; rw [hX2]; exact psix_any (⟨m.kd, m.cd, r, d⟩ : Mg) a b len W ir)
  have CC : Hid (∀ W, Calls Tryd.prog 12 #[.agg m.vals.toArray, .int .i64 a, .int .i64 b] W (fun e w' => e = .returned (.tuple #[.agg Y1.toArray, .bool true]) ∧ Below W.heap.size W w')) := Lib.hid (fun W => by rw [hY1, ← e4]; exact pfour_any m a b W hr)
  have CD : Hid (∀ W, Calls Tryd.prog 12 #[.agg (⟨m.kd, m.cd, r, d⟩ : Mg).vals.toArray, .int .i64 a, .int .i64 b] W (fun e w' => e = .returned (.tuple #[.agg Y2.toArray, .bool true]) ∧ Below W.heap.size W w')) := Lib.hid (fun W => by rw [hY2, ← e4, f1]; exact pfour_any (⟨m.kd, m.cd, r, d⟩ : Mg) a b W ir)
  have f4' := f4 (f1 ▸ e4)
  have HY1_0 : Hid (Y1[0]? = some (.int .i64 (four m a b).1.kd)) := Lib.hid (by rw [hY1]; rfl)
  have HY2_0 : Hid (Y2[0]? = some (.int .i64 (four m a b).1.kd)) := Lib.hid (by rw [hY2, f2]; rfl)
  have HY1_1 : Hid (Y1[1]? = some (.int .i64 (four m a b).1.cd)) := Lib.hid (by rw [hY1]; rfl)
  have HY2_1 : Hid (Y2[1]? = some (.int .i64 (four m a b).1.cd)) := Lib.hid (by rw [hY2, f3]; rfl)
  have HY2_3 : Hid (Y2[3]? = some (.string d)) := Lib.hid (by rw [hY2]; exact congrArg (fun x => some (Value.string x)) f4')
  clear hX1 hX2 hY1 hY2 f1 f2 f3 f4 f4'
  clear e4
  generalize (six m a b len).1.kd = kd6 at *
  generalize (six m a b len).1.cd = cd6 at *
  generalize (six m a b len).1.rs = rs6 at *
  generalize (four m a b).1.kd = kd4 at *
  generalize (four m a b).1.cd = cd4 at *
  generalize (six m a b len).2 = q6 at *
  generalize (six (⟨m.kd, m.cd, r, d⟩ : Mg) a b len).2 = q6' at *
  have HQ0 := Lib.hid h1
  have HE2 := Lib.hid (nm_vals2 m r)
  have HE3 := Lib.hid (nm_vals3 m r d)
  have HI_N2 : Hid ((Tryd.prog.info? 24).map (·.size) = some (⟨m.kd, m.cd, r, m.da⟩ : Mg).vals.length) := Lib.hid (Tryd.infoMg _)
  have HL_N2 : Hid ((⟨m.kd, m.cd, r, m.da⟩ : Mg).vals.length = 4) := Lib.hid rfl
  have HI_N3 : Hid ((Tryd.prog.info? 24).map (·.size) = some (⟨m.kd, m.cd, r, d⟩ : Mg).vals.length) := Lib.hid (Tryd.infoMg _)
  generalize (⟨m.kd, m.cd, r, m.da⟩ : Mg).vals = N2 at *
  generalize (⟨m.kd, m.cd, r, d⟩ : Mg).vals = N3 at *
  have HI_VM : Hid ((Tryd.prog.info? 24).map (·.size) = some m.vals.length) := Lib.hid (Tryd.infoMg _)
  have HO_VM : Hid (m.vals.toArray.all (·.oneCell') = true) := Lib.hid (mg_one _)
  have HL_VM : Hid (m.vals.length = 4) := Lib.hid rfl
  have HM0 : Hid (m.vals[0]? = some (.int .i64 12)) := Lib.hid (by rw [← HQ0.out]; rfl)
  have HM1 : Hid (m.vals[1]? = some (.int .i64 m.cd)) := Lib.hid (rfl)
  have HM2 : Hid (m.vals[2]? = some (.int .u32 m.rs)) := Lib.hid (rfl)
  have HM3 : Hid (m.vals[3]? = some (.string m.da)) := Lib.hid (rfl)
  have HK1 : Hid (Kp w w.heap.size [(w.heap.size, 24, m.vals)] (w.alloc (.cells m.vals.toArray 24))) := Lib.hid ((Kp.start w).new 24 m.vals)
  clear h1
  generalize m.vals = VM at *
  generalize hw1 : w.alloc (.cells VM.toArray 24) = w1 at *
  go_enter Tryd.func10, Tryd.ntmps10
  go_upto_region 1 with (fail)
  clear hw1
  go_wp2_with (fail)
  refine (awake14_true _ (HMB.out _ HK1.out.2.1)).mono ?_
  rintro e w2 ⟨rfl, bb⟩
  have HK2 := Lib.hid (HK1.out.below bb (Nat.le_refl _))
  clear bb HK1
  have c3 : w2.cell? ⟨w.heap.size, 3, none⟩ = some (.string m.da) := HK2.out.hd.at HM3.out
  go_upto_region 5 with (fail)
  clear c3
  have HG9 : Hid (w.heap.size < w2.heap.size) := Lib.hid HK2.out.hd.lt
  have hr0 := HK2.out.hd.range
  have ht := (bk_new w2 24 ([.int .i64 0, .int .i64 0, .int .u32 0, .string ⟨#[]⟩] : List Value).toArray).there VM.toArray.size (by have := HL_VM.out; simp; omega)
  go_upto_region 6 with (((with_reducible (change wpList _ _ _ _ _ _)); (first | (refine wpList_load_mid rfl 24 _ rfl (w.heap.size) 0 rfl (VM) _ hr0 Tryd.underlying24 rfl HI_VM.out ?_) | (refine wpList_store_mid rfl 24 _ _ rfl (w2.heap.size) 0 VM.toArray rfl rfl ht (by simpa using HI_VM.out) HO_VM.out ?_))))
  have HK3 := Lib.hid (HK2.out.put 24 ([.int .i64 0, .int .i64 0, .int .u32 0, .string ⟨#[]⟩] : List Value).toArray VM (by have := HL_VM.out; simp; omega))
  clear ht HK2
  generalize (w2.alloc (.cells ([.int .i64 0, .int .i64 0, .int .u32 0, .string ⟨#[]⟩] : List Value).toArray 24)).setCells w2.heap.size 0 VM = w3 at *
  generalize w2.heap.size = g9 at *
  clear hr0
  have hne : ∀ x ∈ ([(w.heap.size, 24, VM)] : List (Nat × TypeId × List Value)), x.1 ≠ g9 := by
    have hg := HG9.out
    intro x hx
    simp only [List.mem_cons, List.not_mem_nil, or_false] at hx
    rcases hx with rfl
    show _ ≠ g9
    omega
  have hgB : w.heap.size ≤ g9 := by have := HG9.out; omega
  have HNE := Lib.hid (And.intro hne hgB)
  clear hne hgB
  obtain ⟨uu, hu, hz⟩ := HK3.out.some1 2 (by have := HL_VM.out; omega)
  go_upto_region 7 with (fail)
  have hk := HK3.out.set1 HNE.out.1 HNE.out.2 2 (.int .u32 r)
  rw [HE2.out] at hk
  have HK4 := Lib.hid hk
  clear hk hu hz HK3
  generalize w3.setCell ⟨g9, 2, none⟩ (.int .u32 r) = w4 at *
  obtain ⟨uu, hu, hz⟩ := HK4.out.some1 3 (by have := HL_N2.out; omega)
  go_upto_region 8 with (fail)
  have hk := HK4.out.set1 HNE.out.1 HNE.out.2 3 (.string d)
  rw [HE3.out] at hk
  have HK5 := Lib.hid hk
  clear hk hu hz HK4
  generalize w4.setCell ⟨g9, 3, none⟩ (.string d) = w5 at *
  have hr0 := HK5.out.tl.hd.range
  go_wp2_with (((with_reducible (change wpList _ _ _ _ _ _)); ((refine wpList_load_mid rfl 24 _ rfl (w.heap.size) 0 rfl (VM) _ hr0 Tryd.underlying24 rfl HI_VM.out ?_))))
  clear hr0
  refine (CA.out _ HK5.out.2.1).mono ?_
  rintro e w6 ⟨rfl, bb⟩
  have HK6 := Lib.hid (HK5.out.below bb (Nat.le_refl _))
  clear bb HK5
  have ht := (bk_new w6 24 ([.int .i64 0, .int .i64 0, .int .u32 0, .string ⟨#[]⟩] : List Value).toArray).there X1.toArray.size (by have := HL_X1.out; simp; omega)
  go_upto_region 9 with (((with_reducible (change wpList _ _ _ _ _ _)); ((refine wpList_store_mid rfl 24 _ _ rfl (w6.heap.size) 0 X1.toArray rfl rfl ht (by simpa using HI_X1.out) HO_X1.out ?_))))
  have HK7 := Lib.hid (HK6.out.put 24 ([.int .i64 0, .int .i64 0, .int .u32 0, .string ⟨#[]⟩] : List Value).toArray X1 (by have := HL_X1.out; simp; omega))
  clear ht HK6
  generalize (w6.alloc (.cells ([.int .i64 0, .int .i64 0, .int .u32 0, .string ⟨#[]⟩] : List Value).toArray 24)).setCells w6.heap.size 0 X1 = w7 at *
  generalize w6.heap.size = g1 at *
  have hr0 := HK7.out.tl.hd.range
  go_wp2_with (((with_reducible (change wpList _ _ _ _ _ _)); ((refine wpList_load_mid rfl 24 _ rfl (g9) 0 rfl (N3) _ hr0 Tryd.underlying24 rfl HI_N3.out ?_))))
  clear hr0
  refine (CB.out _ HK7.out.2.1).mono ?_
  rintro e w8 ⟨rfl, bb⟩
  have HK8 := Lib.hid (HK7.out.below bb (Nat.le_refl _))
  clear bb HK7
  have ht := (bk_new w8 24 ([.int .i64 0, .int .i64 0, .int .u32 0, .string ⟨#[]⟩] : List Value).toArray).there X2.toArray.size (by have := HL_X2.out; simp; omega)
  go_upto_region 10 with (((with_reducible (change wpList _ _ _ _ _ _)); ((refine wpList_store_mid rfl 24 _ _ rfl (w8.heap.size) 0 X2.toArray rfl rfl ht (by simpa using HI_X2.out) HO_X2.out ?_))))
  have HK9 := Lib.hid (HK8.out.put 24 ([.int .i64 0, .int .i64 0, .int .u32 0, .string ⟨#[]⟩] : List Value).toArray X2 (by have := HL_X2.out; simp; omega))
  clear ht HK8
  generalize (w8.alloc (.cells ([.int .i64 0, .int .i64 0, .int .u32 0, .string ⟨#[]⟩] : List Value).toArray 24)).setCells w8.heap.size 0 X2 = w9 at *
  generalize w8.heap.size = g2 at *
  have c0 : w9.cell? ⟨w.heap.size, 0, none⟩ = some (.int .i64 12) := HK9.out.tl.tl.tl.hd.at HM0.out
  have c1 : w9.cell? ⟨w.heap.size, 1, none⟩ = some (.int .i64 m.cd) := HK9.out.tl.tl.tl.hd.at HM1.out
  go_upto_region 12 with (fail)
  go_upto_region 14 with (fail)
  clear c0 c1
  have hr0 := HK9.out.tl.tl.tl.hd.range
  go_wp2_with (((with_reducible (change wpList _ _ _ _ _ _)); ((refine wpList_load_mid rfl 24 _ rfl (w.heap.size) 0 rfl (VM) _ hr0 Tryd.underlying24 rfl HI_VM.out ?_))))
  clear hr0
  refine (CC.out _).mono ?_
  rintro e w10 ⟨rfl, bb⟩
  have HK10 := Lib.hid (HK9.out.below bb (Nat.le_refl _))
  clear bb HK9
  have ht := (bk_new w10 24 ([.int .i64 0, .int .i64 0, .int .u32 0, .string ⟨#[]⟩] : List Value).toArray).there Y1.toArray.size (by have := HL_Y1.out; simp; omega)
  go_upto_region 15 with (((with_reducible (change wpList _ _ _ _ _ _)); ((refine wpList_store_mid rfl 24 _ _ rfl (w10.heap.size) 0 Y1.toArray rfl rfl ht (by simpa using HI_Y1.out) HO_Y1.out ?_))))
  have HK11 := Lib.hid (HK10.out.put 24 ([.int .i64 0, .int .i64 0, .int .u32 0, .string ⟨#[]⟩] : List Value).toArray Y1 (by have := HL_Y1.out; simp; omega))
  clear ht HK10
  generalize (w10.alloc (.cells ([.int .i64 0, .int .i64 0, .int .u32 0, .string ⟨#[]⟩] : List Value).toArray 24)).setCells w10.heap.size 0 Y1 = w11 at *
  generalize w10.heap.size = g3 at *
  have hr0 := HK11.out.tl.tl.tl.hd.range
  go_wp2_with (((with_reducible (change wpList _ _ _ _ _ _)); ((refine wpList_load_mid rfl 24 _ rfl (g9) 0 rfl (N3) _ hr0 Tryd.underlying24 rfl HI_N3.out ?_))))
  clear hr0
  refine (CD.out _).mono ?_
  rintro e w12 ⟨rfl, bb⟩
  have HK12 := Lib.hid (HK11.out.below bb (Nat.le_refl _))
  clear bb HK11
  have ht := (bk_new w12 24 ([.int .i64 0, .int .i64 0, .int .u32 0, .string ⟨#[]⟩] : List Value).toArray).there Y2.toArray.size (by have := HL_Y2.out; simp; omega)
  go_upto_region 16 with (((with_reducible (change wpList _ _ _ _ _ _)); ((refine wpList_store_mid rfl 24 _ _ rfl (w12.heap.size) 0 Y2.toArray rfl rfl ht (by simpa using HI_Y2.out) HO_Y2.out ?_))))
  have HK13 := Lib.hid (HK12.out.put 24 ([.int .i64 0, .int .i64 0, .int .u32 0, .string ⟨#[]⟩] : List Value).toArray Y2 (by have := HL_Y2.out; simp; omega))
  clear ht HK12
  generalize (w12.alloc (.cells ([.int .i64 0, .int .i64 0, .int .u32 0, .string ⟨#[]⟩] : List Value).toArray 24)).setCells w12.heap.size 0 Y2 = w13 at *
  generalize w12.heap.size = g4 at *
  have c0 : w13.cell? ⟨w.heap.size, 0, none⟩ = some (.int .i64 12) := HK13.out.tl.tl.tl.tl.tl.hd.at HM0.out
  have c1 : w13.cell? ⟨w.heap.size, 1, none⟩ = some (.int .i64 m.cd) := HK13.out.tl.tl.tl.tl.tl.hd.at HM1.out
  have dg30 : w13.cell? ⟨g3, 0, none⟩ = some (.int .i64 kd4) := HK13.out.tl.hd.at HY1_0.out
  have dg40 : w13.cell? ⟨g4, 0, none⟩ = some (.int .i64 kd4) := HK13.out.hd.at HY2_0.out
  have dg31 : w13.cell? ⟨g3, 1, none⟩ = some (.int .i64 cd4) := HK13.out.tl.hd.at HY1_1.out
  have dg41 : w13.cell? ⟨g4, 1, none⟩ = some (.int .i64 cd4) := HK13.out.hd.at HY2_1.out
  have dg43 : w13.cell? ⟨g4, 3, none⟩ = some (.string d) := HK13.out.hd.at HY2_3.out
  go_wp2_with (fail)
  go_ret
  refine ⟨?_, HK13.out.2.1⟩
  first | rfl | (simp; done) | (simp; omega)
set_option maxRecDepth 100000 in
set_option maxHeartbeats 4000000 in
theorem data_s12f (m : Mg) (r : Int) (d : ByteArray) (a b len : Int) (w : World) (hm : Hm w) (hr : 0 ≤ m.rs ∧ m.rs < 4294967296) (ir : 0 ≤ r ∧ r < 4294967296) (hd : ¬ (1000 : Int) < (m.da.size : Int)) (he : ¬ (1000 : Int) < (d.size : Int)) (h1 : m.kd = 12) (e4 : (four m a b).2 = false) : Calls Tryd.prog 10 #[.agg m.vals.toArray, .int .u32 r, .string d, .int .i64 a, .int .i64 b, .int .i64 len] w (fun e w' => e = .returned (.bool true) ∧ Below w.heap.size w w') := by
  have HMB : Hid (∀ W, Below w.heap.size w W → Hm W) := Lib.hid (fun W hW => hm.below hW)
  obtain ⟨f1, f2, f3, f4⟩ := four_data (kd := m.kd) (cd := m.cd) (r := m.rs) (q := r) (d := m.da) (e := d) (a := a) (b := b) (by omega)
  rw [mg_eta] at f1 f2 f3
  obtain ⟨X1, hX1⟩ : ∃ V, V = (six m a b len).1.vals := ⟨_, rfl⟩
  have HI_X1 : Hid ((Tryd.prog.info? 24).map (·.size) = some X1.length) := Lib.hid (by rw [hX1]; exact Tryd.infoMg _)
  have HO_X1 : Hid (X1.toArray.all (·.oneCell') = true) := Lib.hid (by rw [hX1]; exact mg_one _)
  have HL_X1 : Hid (X1.length = 4) := Lib.hid (by rw [hX1]; rfl)
  obtain ⟨X2, hX2⟩ : ∃ V, V = (six (⟨m.kd, m.cd, r, d⟩ : Mg) a b len).1.vals := ⟨_, rfl⟩
  have HI_X2 : Hid ((Tryd.prog.info? 24).map (·.size) = some X2.length) := Lib.hid (by rw [hX2]; exact Tryd.infoMg _)
  have HO_X2 : Hid (X2.toArray.all (·.oneCell') = true) := Lib.hid (by rw [hX2]; exact mg_one _)
  have HL_X2 : Hid (X2.length = 4) := Lib.hid (by rw [hX2]; rfl)
  obtain ⟨Y1, hY1⟩ : ∃ V, V = (four m a b).1.vals := ⟨_, rfl⟩
  have HI_Y1 : Hid ((Tryd.prog.info? 24).map (·.size) = some Y1.length) := Lib.hid (by rw [hY1]; exact Tryd.infoMg _)
  have HO_Y1 : Hid (Y1.toArray.all (·.oneCell') = true) := Lib.hid (by rw [hY1]; exact mg_one _)
  have HL_Y1 : Hid (Y1.length = 4) := Lib.hid (by rw [hY1]; rfl)
  obtain ⟨Y2, hY2⟩ : ∃ V, V = (four (⟨m.kd, m.cd, r, d⟩ : Mg) a b).1.vals := ⟨_, rfl⟩
  have HI_Y2 : Hid ((Tryd.prog.info? 24).map (·.size) = some Y2.length) := Lib.hid (by rw [hY2]; exact Tryd.infoMg _)
  have HO_Y2 : Hid (Y2.toArray.all (·.oneCell') = true) := Lib.hid (by rw [hY2]; exact mg_one _)
  have HL_Y2 : Hid (Y2.length = 4) := Lib.hid (by rw [hY2]; rfl)
  have CA : Hid (∀ W, Below w.heap.size w W → Calls Tryd.prog 11 #[.agg m.vals.toArray, .int .i64 a, .int .i64 b, .int .i64 len] W (fun e w' => e = .returned (.tuple #[.agg X1.toArray, .bool (six m a b len).2]) ∧ Below W.heap.size W w')) := Lib.hid (fun W hW => by have hmW := HMB.out W hW; rw [hX1]; exact psix_any m a b len W hr)
  have CB : Hid (∀ W, Below w.heap.size w W → Calls Tryd.prog 11 #[.agg (⟨m.kd, m.cd, r, d⟩ : Mg).vals.toArray, .int .i64 a, .int .i64 b, .int .i64 len] W (fun e w' => e = .returned (.tuple #[.agg X2.toArray, .bool (six (⟨m.kd, m.cd, r, d⟩ : Mg) a b len).2]) ∧ Below W.heap.size W w')) := Lib.hid (fun W hW => by have hmW := HMB.out W hW; rw [hX2]; exact psix_any (⟨m.kd, m.cd, r, d⟩ : Mg) a b len W ir)
  have CC : Hid (∀ W, Calls Tryd.prog 12 #[.agg m.vals.toArray, .int .i64 a, .int .i64 b] W (fun e w' => e = .returned (.tuple #[.agg Y1.toArray, .bool false]) ∧ Below W.heap.size W w')) := Lib.hid (fun W => by rw [hY1, ← e4]; exact pfour_any m a b W hr)
  have CD : Hid (∀ W, Calls Tryd.prog 12 #[.agg (⟨m.kd, m.cd, r, d⟩ : Mg).vals.toArray, .int .i64 a, .int .i64 b] W (fun e w' => e = .returned (.tuple #[.agg Y2.toArray, .bool false]) ∧ Below W.heap.size W w')) := Lib.hid (fun W => by rw [hY2, ← e4, f1]; exact pfour_any (⟨m.kd, m.cd, r, d⟩ : Mg) a b W ir)
  have HY1_0 : Hid (Y1[0]? = some (.int .i64 (four m a b).1.kd)) := Lib.hid (by rw [hY1]; rfl)
  have HY2_0 : Hid (Y2[0]? = some (.int .i64 (four m a b).1.kd)) := Lib.hid (by rw [hY2, f2]; rfl)
  have HY1_1 : Hid (Y1[1]? = some (.int .i64 (four m a b).1.cd)) := Lib.hid (by rw [hY1]; rfl)
  have HY2_1 : Hid (Y2[1]? = some (.int .i64 (four m a b).1.cd)) := Lib.hid (by rw [hY2, f3]; rfl)
  clear hX1 hX2 hY1 hY2 f1 f2 f3 f4
  clear e4
  generalize (six m a b len).1.kd = kd6 at *
  generalize (six m a b len).1.cd = cd6 at *
  generalize (six m a b len).1.rs = rs6 at *
  generalize (four m a b).1.kd = kd4 at *
  generalize (four m a b).1.cd = cd4 at *
  generalize (six m a b len).2 = q6 at *
  generalize (six (⟨m.kd, m.cd, r, d⟩ : Mg) a b len).2 = q6' at *
  have HQ0 := Lib.hid h1
  have HE2 := Lib.hid (nm_vals2 m r)
  have HE3 := Lib.hid (nm_vals3 m r d)
  have HI_N2 : Hid ((Tryd.prog.info? 24).map (·.size) = some (⟨m.kd, m.cd, r, m.da⟩ : Mg).vals.length) := Lib.hid (Tryd.infoMg _)
  have HL_N2 : Hid ((⟨m.kd, m.cd, r, m.da⟩ : Mg).vals.length = 4) := Lib.hid rfl
  have HI_N3 : Hid ((Tryd.prog.info? 24).map (·.size) = some (⟨m.kd, m.cd, r, d⟩ : Mg).vals.length) := Lib.hid (Tryd.infoMg _)
  generalize (⟨m.kd, m.cd, r, m.da⟩ : Mg).vals = N2 at *
  generalize (⟨m.kd, m.cd, r, d⟩ : Mg).vals = N3 at *
  have HI_VM : Hid ((Tryd.prog.info? 24).map (·.size) = some m.vals.length) := Lib.hid (Tryd.infoMg _)
  have HO_VM : Hid (m.vals.toArray.all (·.oneCell') = true) := Lib.hid (mg_one _)
  have HL_VM : Hid (m.vals.length = 4) := Lib.hid rfl
  have HM0 : Hid (m.vals[0]? = some (.int .i64 12)) := Lib.hid (by rw [← HQ0.out]; rfl)
  have HM1 : Hid (m.vals[1]? = some (.int .i64 m.cd)) := Lib.hid (rfl)
  have HM2 : Hid (m.vals[2]? = some (.int .u32 m.rs)) := Lib.hid (rfl)
  have HM3 : Hid (m.vals[3]? = some (.string m.da)) := Lib.hid (rfl)
  have HK1 : Hid (Kp w w.heap.size [(w.heap.size, 24, m.vals)] (w.alloc (.cells m.vals.toArray 24))) := Lib.hid ((Kp.start w).new 24 m.vals)
  clear h1
  generalize m.vals = VM at *
  generalize hw1 : w.alloc (.cells VM.toArray 24) = w1 at *
  go_enter Tryd.func10, Tryd.ntmps10
  go_upto_region 1 with (fail)
  clear hw1
  go_wp2_with (fail)
  refine (awake14_true _ (HMB.out _ HK1.out.2.1)).mono ?_
  rintro e w2 ⟨rfl, bb⟩
  have HK2 := Lib.hid (HK1.out.below bb (Nat.le_refl _))
  clear bb HK1
  have c3 : w2.cell? ⟨w.heap.size, 3, none⟩ = some (.string m.da) := HK2.out.hd.at HM3.out
  go_upto_region 5 with (fail)
  clear c3
  have HG9 : Hid (w.heap.size < w2.heap.size) := Lib.hid HK2.out.hd.lt
  have hr0 := HK2.out.hd.range
  have ht := (bk_new w2 24 ([.int .i64 0, .int .i64 0, .int .u32 0, .string ⟨#[]⟩] : List Value).toArray).there VM.toArray.size (by have := HL_VM.out; simp; omega)
  go_upto_region 6 with (((with_reducible (change wpList _ _ _ _ _ _)); (first | (refine wpList_load_mid rfl 24 _ rfl (w.heap.size) 0 rfl (VM) _ hr0 Tryd.underlying24 rfl HI_VM.out ?_) | (refine wpList_store_mid rfl 24 _ _ rfl (w2.heap.size) 0 VM.toArray rfl rfl ht (by simpa using HI_VM.out) HO_VM.out ?_))))
  have HK3 := Lib.hid (HK2.out.put 24 ([.int .i64 0, .int .i64 0, .int .u32 0, .string ⟨#[]⟩] : List Value).toArray VM (by have := HL_VM.out; simp; omega))
  clear ht HK2
  generalize (w2.alloc (.cells ([.int .i64 0, .int .i64 0, .int .u32 0, .string ⟨#[]⟩] : List Value).toArray 24)).setCells w2.heap.size 0 VM = w3 at *
  generalize w2.heap.size = g9 at *
  clear hr0
  have hne : ∀ x ∈ ([(w.heap.size, 24, VM)] : List (Nat × TypeId × List Value)), x.1 ≠ g9 := by
    have hg := HG9.out
    intro x hx
    simp only [List.mem_cons, List.not_mem_nil, or_false] at hx
    rcases hx with rfl
    show _ ≠ g9
    omega
  have hgB : w.heap.size ≤ g9 := by have := HG9.out; omega
  have HNE := Lib.hid (And.intro hne hgB)
  clear hne hgB
  obtain ⟨uu, hu, hz⟩ := HK3.out.some1 2 (by have := HL_VM.out; omega)
  go_upto_region 7 with (fail)
  have hk := HK3.out.set1 HNE.out.1 HNE.out.2 2 (.int .u32 r)
  rw [HE2.out] at hk
  have HK4 := Lib.hid hk
  clear hk hu hz HK3
  generalize w3.setCell ⟨g9, 2, none⟩ (.int .u32 r) = w4 at *
  obtain ⟨uu, hu, hz⟩ := HK4.out.some1 3 (by have := HL_N2.out; omega)
  go_upto_region 8 with (fail)
  have hk := HK4.out.set1 HNE.out.1 HNE.out.2 3 (.string d)
  rw [HE3.out] at hk
  have HK5 := Lib.hid hk
  clear hk hu hz HK4
  generalize w4.setCell ⟨g9, 3, none⟩ (.string d) = w5 at *
  have hr0 := HK5.out.tl.hd.range
  go_wp2_with (((with_reducible (change wpList _ _ _ _ _ _)); ((refine wpList_load_mid rfl 24 _ rfl (w.heap.size) 0 rfl (VM) _ hr0 Tryd.underlying24 rfl HI_VM.out ?_))))
  clear hr0
  refine (CA.out _ HK5.out.2.1).mono ?_
  rintro e w6 ⟨rfl, bb⟩
  have HK6 := Lib.hid (HK5.out.below bb (Nat.le_refl _))
  clear bb HK5
  have ht := (bk_new w6 24 ([.int .i64 0, .int .i64 0, .int .u32 0, .string ⟨#[]⟩] : List Value).toArray).there X1.toArray.size (by have := HL_X1.out; simp; omega)
  go_upto_region 9 with (((with_reducible (change wpList _ _ _ _ _ _)); ((refine wpList_store_mid rfl 24 _ _ rfl (w6.heap.size) 0 X1.toArray rfl rfl ht (by simpa using HI_X1.out) HO_X1.out ?_))))
  have HK7 := Lib.hid (HK6.out.put 24 ([.int .i64 0, .int .i64 0, .int .u32 0, .string ⟨#[]⟩] : List Value).toArray X1 (by have := HL_X1.out; simp; omega))
  clear ht HK6
  generalize (w6.alloc (.cells ([.int .i64 0, .int .i64 0, .int .u32 0, .string ⟨#[]⟩] : List Value).toArray 24)).setCells w6.heap.size 0 X1 = w7 at *
  generalize w6.heap.size = g1 at *
  have hr0 := HK7.out.tl.hd.range
  go_wp2_with (((with_reducible (change wpList _ _ _ _ _ _)); ((refine wpList_load_mid rfl 24 _ rfl (g9) 0 rfl (N3) _ hr0 Tryd.underlying24 rfl HI_N3.out ?_))))
  clear hr0
  refine (CB.out _ HK7.out.2.1).mono ?_
  rintro e w8 ⟨rfl, bb⟩
  have HK8 := Lib.hid (HK7.out.below bb (Nat.le_refl _))
  clear bb HK7
  have ht := (bk_new w8 24 ([.int .i64 0, .int .i64 0, .int .u32 0, .string ⟨#[]⟩] : List Value).toArray).there X2.toArray.size (by have := HL_X2.out; simp; omega)
  go_upto_region 10 with (((with_reducible (change wpList _ _ _ _ _ _)); ((refine wpList_store_mid rfl 24 _ _ rfl (w8.heap.size) 0 X2.toArray rfl rfl ht (by simpa using HI_X2.out) HO_X2.out ?_))))
  have HK9 := Lib.hid (HK8.out.put 24 ([.int .i64 0, .int .i64 0, .int .u32 0, .string ⟨#[]⟩] : List Value).toArray X2 (by have := HL_X2.out; simp; omega))
  clear ht HK8
  generalize (w8.alloc (.cells ([.int .i64 0, .int .i64 0, .int .u32 0, .string ⟨#[]⟩] : List Value).toArray 24)).setCells w8.heap.size 0 X2 = w9 at *
  generalize w8.heap.size = g2 at *
  have c0 : w9.cell? ⟨w.heap.size, 0, none⟩ = some (.int .i64 12) := HK9.out.tl.tl.tl.hd.at HM0.out
  have c1 : w9.cell? ⟨w.heap.size, 1, none⟩ = some (.int .i64 m.cd) := HK9.out.tl.tl.tl.hd.at HM1.out
  go_upto_region 12 with (fail)
  go_upto_region 14 with (fail)
  clear c0 c1
  have hr0 := HK9.out.tl.tl.tl.hd.range
  go_wp2_with (((with_reducible (change wpList _ _ _ _ _ _)); ((refine wpList_load_mid rfl 24 _ rfl (w.heap.size) 0 rfl (VM) _ hr0 Tryd.underlying24 rfl HI_VM.out ?_))))
  clear hr0
  refine (CC.out _).mono ?_
  rintro e w10 ⟨rfl, bb⟩
  have HK10 := Lib.hid (HK9.out.below bb (Nat.le_refl _))
  clear bb HK9
  have ht := (bk_new w10 24 ([.int .i64 0, .int .i64 0, .int .u32 0, .string ⟨#[]⟩] : List Value).toArray).there Y1.toArray.size (by have := HL_Y1.out; simp; omega)
  go_upto_region 15 with (((with_reducible (change wpList _ _ _ _ _ _)); ((refine wpList_store_mid rfl 24 _ _ rfl (w10.heap.size) 0 Y1.toArray rfl rfl ht (by simpa using HI_Y1.out) HO_Y1.out ?_))))
  have HK11 := Lib.hid (HK10.out.put 24 ([.int .i64 0, .int .i64 0, .int .u32 0, .string ⟨#[]⟩] : List Value).toArray Y1 (by have := HL_Y1.out; simp; omega))
  clear ht HK10
  generalize (w10.alloc (.cells ([.int .i64 0, .int .i64 0, .int .u32 0, .string ⟨#[]⟩] : List Value).toArray 24)).setCells w10.heap.size 0 Y1 = w11 at *
  generalize w10.heap.size = g3 at *
  have hr0 := HK11.out.tl.tl.tl.hd.range
  go_wp2_with (((with_reducible (change wpList _ _ _ _ _ _)); ((refine wpList_load_mid rfl 24 _ rfl (g9) 0 rfl (N3) _ hr0 Tryd.underlying24 rfl HI_N3.out ?_))))
  clear hr0
  refine (CD.out _).mono ?_
  rintro e w12 ⟨rfl, bb⟩
  have HK12 := Lib.hid (HK11.out.below bb (Nat.le_refl _))
  clear bb HK11
  have ht := (bk_new w12 24 ([.int .i64 0, .int .i64 0, .int .u32 0, .string ⟨#[]⟩] : List Value).toArray).there Y2.toArray.size (by have := HL_Y2.out; simp; omega)
  go_upto_region 16 with (((with_reducible (change wpList _ _ _ _ _ _)); ((refine wpList_store_mid rfl 24 _ _ rfl (w12.heap.size) 0 Y2.toArray rfl rfl ht (by simpa using HI_Y2.out) HO_Y2.out ?_))))
  have HK13 := Lib.hid (HK12.out.put 24 ([.int .i64 0, .int .i64 0, .int .u32 0, .string ⟨#[]⟩] : List Value).toArray Y2 (by have := HL_Y2.out; simp; omega))
  clear ht HK12
  generalize (w12.alloc (.cells ([.int .i64 0, .int .i64 0, .int .u32 0, .string ⟨#[]⟩] : List Value).toArray 24)).setCells w12.heap.size 0 Y2 = w13 at *
  generalize w12.heap.size = g4 at *
  have c0 : w13.cell? ⟨w.heap.size, 0, none⟩ = some (.int .i64 12) := HK13.out.tl.tl.tl.tl.tl.hd.at HM0.out
  have c1 : w13.cell? ⟨w.heap.size, 1, none⟩ = some (.int .i64 m.cd) := HK13.out.tl.tl.tl.tl.tl.hd.at HM1.out
  have dg30 : w13.cell? ⟨g3, 0, none⟩ = some (.int .i64 kd4) := HK13.out.tl.hd.at HY1_0.out
  have dg40 : w13.cell? ⟨g4, 0, none⟩ = some (.int .i64 kd4) := HK13.out.hd.at HY2_0.out
  have dg31 : w13.cell? ⟨g3, 1, none⟩ = some (.int .i64 cd4) := HK13.out.tl.hd.at HY1_1.out
  have dg41 : w13.cell? ⟨g4, 1, none⟩ = some (.int .i64 cd4) := HK13.out.hd.at HY2_1.out
  go_wp2_with (fail)
  go_ret
  refine ⟨?_, HK13.out.2.1⟩
  first | rfl | (simp; done) | (simp; omega)
set_option maxRecDepth 100000 in
set_option maxHeartbeats 4000000 in
theorem data_s40t (m : Mg) (r : Int) (d : ByteArray) (a b len : Int) (w : World) (hm : Hm w) (hr : 0 ≤ m.rs ∧ m.rs < 4294967296) (ir : 0 ≤ r ∧ r < 4294967296) (hd : ¬ (1000 : Int) < (m.da.size : Int)) (he : ¬ (1000 : Int) < (d.size : Int)) (h1 : m.kd = 4) (h2 : m.cd = 0) (e6 : (six m a b len).2 = true) : Calls Tryd.prog 10 #[.agg m.vals.toArray, .int .u32 r, .string d, .int .i64 a, .int .i64 b, .int .i64 len] w (fun e w' => e = .returned (.bool true) ∧ Below w.heap.size w w') := by
  have HMB : Hid (∀ W, Below w.heap.size w W → Hm W) := Lib.hid (fun W hW => hm.below hW)
  obtain ⟨s1, s2, s3, s4, s5⟩ := six_data (kd := m.kd) (cd := m.cd) (r := m.rs) (q := r) (d := m.da) (e := d) (a := a) (b := b) (len := len) (by omega)
  rw [mg_eta] at s1 s2 s3 s5
  obtain ⟨X1, hX1⟩ : ∃ V, V = (six m a b len).1.vals := ⟨_, rfl⟩
  have HI_X1 : Hid ((Tryd.prog.info? 24).map (·.size) = some X1.length) := Lib.hid (by rw [hX1]; exact Tryd.infoMg _)
  have HO_X1 : Hid (X1.toArray.all (·.oneCell') = true) := Lib.hid (by rw [hX1]; exact mg_one _)
  have HL_X1 : Hid (X1.length = 4) := Lib.hid (by rw [hX1]; rfl)
  obtain ⟨X2, hX2⟩ : ∃ V, V = (six (⟨m.kd, m.cd, r, d⟩ : Mg) a b len).1.vals := ⟨_, rfl⟩
  have HI_X2 : Hid ((Tryd.prog.info? 24).map (·.size) = some X2.length) := Lib.hid (by rw [hX2]; exact Tryd.infoMg _)
  have HO_X2 : Hid (X2.toArray.all (·.oneCell') = true) := Lib.hid (by rw [hX2]; exact mg_one _)
  have HL_X2 : Hid (X2.length = 4) := Lib.hid (by rw [hX2]; rfl)
  obtain ⟨Y1, hY1⟩ : ∃ V, V = (four m a b).1.vals := ⟨_, rfl⟩
  have HI_Y1 : Hid ((Tryd.prog.info? 24).map (·.size) = some Y1.length) := Lib.hid (by rw [hY1]; exact Tryd.infoMg _)
  have HO_Y1 : Hid (Y1.toArray.all (·.oneCell') = true) := Lib.hid (by rw [hY1]; exact mg_one _)
  have HL_Y1 : Hid (Y1.length = 4) := Lib.hid (by rw [hY1]; rfl)
  obtain ⟨Y2, hY2⟩ : ∃ V, V = (four (⟨m.kd, m.cd, r, d⟩ : Mg) a b).1.vals := ⟨_, rfl⟩
  have HI_Y2 : Hid ((Tryd.prog.info? 24).map (·.size) = some Y2.length) := Lib.hid (by rw [hY2]; exact Tryd.infoMg _)
  have HO_Y2 : Hid (Y2.toArray.all (·.oneCell') = true) := Lib.hid (by rw [hY2]; exact mg_one _)
  have HL_Y2 : Hid (Y2.length = 4) := Lib.hid (by rw [hY2]; rfl)
  have CA : Hid (∀ W, Below w.heap.size w W → Calls Tryd.prog 11 #[.agg m.vals.toArray, .int .i64 a, .int .i64 b, .int .i64 len] W (fun e w' => e = .returned (.tuple #[.agg X1.toArray, .bool true]) ∧ Below W.heap.size W w')) := Lib.hid (fun W hW => by have hmW := HMB.out W hW; rw [hX1, ← e6]; exact psix_any m a b len W hr)
  have CB : Hid (∀ W, Below w.heap.size w W → Calls Tryd.prog 11 #[.agg (⟨m.kd, m.cd, r, d⟩ : Mg).vals.toArray, .int .i64 a, .int .i64 b, .int .i64 len] W (fun e w' => e = .returned (.tuple #[.agg X2.toArray, .bool true]) ∧ Below W.heap.size W w')) := Lib.hid (fun W hW => by have hmW := HMB.out W hW; rw [hX2, ← e6, s1]; exact psix_any (⟨m.kd, m.cd, r, d⟩ : Mg) a b len W ir)
  have CC : Hid (∀ W, Calls Tryd.prog 12 #[.agg m.vals.toArray, .int .i64 a, .int .i64 b] W (fun e w' => e = .returned (.tuple #[.agg Y1.toArray, .bool (four m a b).2]) ∧ Below W.heap.size W w')) := Lib.hid (fun W => by rw [hY1]; exact pfour_any m a b W hr)
  have CD : Hid (∀ W, Calls Tryd.prog 12 #[.agg (⟨m.kd, m.cd, r, d⟩ : Mg).vals.toArray, .int .i64 a, .int .i64 b] W (fun e w' => e = .returned (.tuple #[.agg Y2.toArray, .bool (four (⟨m.kd, m.cd, r, d⟩ : Mg) a b).2]) ∧ Below W.heap.size W w')) := Lib.hid (fun W => by rw [hY2]; exact pfour_any (⟨m.kd, m.cd, r, d⟩ : Mg) a b W ir)
  have s4' := s4 (s1 ▸ e6)
  have HX1_0 : Hid (X1[0]? = some (.int .i64 (six m a b len).1.kd)) := Lib.hid (by rw [hX1]; rfl)
  have HX2_0 : Hid (X2[0]? = some (.int .i64 (six m a b len).1.kd)) := Lib.hid (by rw [hX2, s2]; rfl)
  have HX1_1 : Hid (X1[1]? = some (.int .i64 (six m a b len).1.cd)) := Lib.hid (by rw [hX1]; rfl)
  have HX2_1 : Hid (X2[1]? = some (.int .i64 (six m a b len).1.cd)) := Lib.hid (by rw [hX2, s3]; rfl)
  have HX1_2 : Hid (X1[2]? = some (.int .u32 (six m a b len).1.rs)) := Lib.hid (by rw [hX1]; rfl)
  have HX2_2 : Hid (X2[2]? = some (.int .u32 (six m a b len).1.rs)) := Lib.hid (by rw [hX2, s5 (by omega) (by omega) (by omega)]; rfl)
  have HX2_3 : Hid (X2[3]? = some (.string d)) := Lib.hid (by rw [hX2]; exact congrArg (fun x => some (Value.string x)) s4')
  clear hX1 hX2 hY1 hY2 s1 s2 s3 s4 s5 s4'
  clear e6
  generalize (six m a b len).1.kd = kd6 at *
  generalize (six m a b len).1.cd = cd6 at *
  generalize (six m a b len).1.rs = rs6 at *
  generalize (four m a b).1.kd = kd4 at *
  generalize (four m a b).1.cd = cd4 at *
  generalize (four m a b).2 = q4 at *
  generalize (four (⟨m.kd, m.cd, r, d⟩ : Mg) a b).2 = q4' at *
  have HQ0 := Lib.hid h1
  have HQ1 := Lib.hid h2
  have HE2 := Lib.hid (nm_vals2 m r)
  have HE3 := Lib.hid (nm_vals3 m r d)
  have HI_N2 : Hid ((Tryd.prog.info? 24).map (·.size) = some (⟨m.kd, m.cd, r, m.da⟩ : Mg).vals.length) := Lib.hid (Tryd.infoMg _)
  have HL_N2 : Hid ((⟨m.kd, m.cd, r, m.da⟩ : Mg).vals.length = 4) := Lib.hid rfl
  have HI_N3 : Hid ((Tryd.prog.info? 24).map (·.size) = some (⟨m.kd, m.cd, r, d⟩ : Mg).vals.length) := Lib.hid (Tryd.infoMg _)
  generalize (⟨m.kd, m.cd, r, m.da⟩ : Mg).vals = N2 at *
  generalize (⟨m.kd, m.cd, r, d⟩ : Mg).vals = N3 at *
  have HI_VM : Hid ((Tryd.prog.info? 24).map (·.size) = some m.vals.length) := Lib.hid (Tryd.infoMg _)
  have HO_VM : Hid (m.vals.toArray.all (·.oneCell') = true) := Lib.hid (mg_one _)
  have HL_VM : Hid (m.vals.length = 4) := Lib.hid rfl
  have HM0 : Hid (m.vals[0]? = some (.int .i64 4)) := Lib.hid (by rw [← HQ0.out]; rfl)
  have HM1 : Hid (m.vals[1]? = some (.int .i64 0)) := Lib.hid (by rw [← HQ1.out]; rfl)
  have HM2 : Hid (m.vals[2]? = some (.int .u32 m.rs)) := Lib.hid (rfl)
  have HM3 : Hid (m.vals[3]? = some (.string m.da)) := Lib.hid (rfl)
  have HK1 : Hid (Kp w w.heap.size [(w.heap.size, 24, m.vals)] (w.alloc (.cells m.vals.toArray 24))) := Lib.hid ((Kp.start w).new 24 m.vals)
  clear h1 h2
  generalize m.vals = VM at *
  generalize hw1 : w.alloc (.cells VM.toArray 24) = w1 at *
  go_enter Tryd.func10, Tryd.ntmps10
  go_upto_region 1 with (fail)
  clear hw1
  go_wp2_with (fail)
  refine (awake14_true _ (HMB.out _ HK1.out.2.1)).mono ?_
  rintro e w2 ⟨rfl, bb⟩
  have HK2 := Lib.hid (HK1.out.below bb (Nat.le_refl _))
  clear bb HK1
  have c3 : w2.cell? ⟨w.heap.size, 3, none⟩ = some (.string m.da) := HK2.out.hd.at HM3.out
  go_upto_region 5 with (fail)
  clear c3
  have HG9 : Hid (w.heap.size < w2.heap.size) := Lib.hid HK2.out.hd.lt
  have hr0 := HK2.out.hd.range
  have ht := (bk_new w2 24 ([.int .i64 0, .int .i64 0, .int .u32 0, .string ⟨#[]⟩] : List Value).toArray).there VM.toArray.size (by have := HL_VM.out; simp; omega)
  go_upto_region 6 with (((with_reducible (change wpList _ _ _ _ _ _)); (first | (refine wpList_load_mid rfl 24 _ rfl (w.heap.size) 0 rfl (VM) _ hr0 Tryd.underlying24 rfl HI_VM.out ?_) | (refine wpList_store_mid rfl 24 _ _ rfl (w2.heap.size) 0 VM.toArray rfl rfl ht (by simpa using HI_VM.out) HO_VM.out ?_))))
  have HK3 := Lib.hid (HK2.out.put 24 ([.int .i64 0, .int .i64 0, .int .u32 0, .string ⟨#[]⟩] : List Value).toArray VM (by have := HL_VM.out; simp; omega))
  clear ht HK2
  generalize (w2.alloc (.cells ([.int .i64 0, .int .i64 0, .int .u32 0, .string ⟨#[]⟩] : List Value).toArray 24)).setCells w2.heap.size 0 VM = w3 at *
  generalize w2.heap.size = g9 at *
  clear hr0
  have hne : ∀ x ∈ ([(w.heap.size, 24, VM)] : List (Nat × TypeId × List Value)), x.1 ≠ g9 := by
    have hg := HG9.out
    intro x hx
    simp only [List.mem_cons, List.not_mem_nil, or_false] at hx
    rcases hx with rfl
    show _ ≠ g9
    omega
  have hgB : w.heap.size ≤ g9 := by have := HG9.out; omega
  have HNE := Lib.hid (And.intro hne hgB)
  clear hne hgB
  obtain ⟨uu, hu, hz⟩ := HK3.out.some1 2 (by have := HL_VM.out; omega)
  go_upto_region 7 with (fail)
  have hk := HK3.out.set1 HNE.out.1 HNE.out.2 2 (.int .u32 r)
  rw [HE2.out] at hk
  have HK4 := Lib.hid hk
  clear hk hu hz HK3
  generalize w3.setCell ⟨g9, 2, none⟩ (.int .u32 r) = w4 at *
  obtain ⟨uu, hu, hz⟩ := HK4.out.some1 3 (by have := HL_N2.out; omega)
  go_upto_region 8 with (fail)
  have hk := HK4.out.set1 HNE.out.1 HNE.out.2 3 (.string d)
  rw [HE3.out] at hk
  have HK5 := Lib.hid hk
  clear hk hu hz HK4
  generalize w4.setCell ⟨g9, 3, none⟩ (.string d) = w5 at *
  have hr0 := HK5.out.tl.hd.range
  go_wp2_with (((with_reducible (change wpList _ _ _ _ _ _)); ((refine wpList_load_mid rfl 24 _ rfl (w.heap.size) 0 rfl (VM) _ hr0 Tryd.underlying24 rfl HI_VM.out ?_))))
  clear hr0
  refine (CA.out _ HK5.out.2.1).mono ?_
  rintro e w6 ⟨rfl, bb⟩
  have HK6 := Lib.hid (HK5.out.below bb (Nat.le_refl _))
  clear bb HK5
  have ht := (bk_new w6 24 ([.int .i64 0, .int .i64 0, .int .u32 0, .string ⟨#[]⟩] : List Value).toArray).there X1.toArray.size (by have := HL_X1.out; simp; omega)
  go_upto_region 9 with (((with_reducible (change wpList _ _ _ _ _ _)); ((refine wpList_store_mid rfl 24 _ _ rfl (w6.heap.size) 0 X1.toArray rfl rfl ht (by simpa using HI_X1.out) HO_X1.out ?_))))
  have HK7 := Lib.hid (HK6.out.put 24 ([.int .i64 0, .int .i64 0, .int .u32 0, .string ⟨#[]⟩] : List Value).toArray X1 (by have := HL_X1.out; simp; omega))
  clear ht HK6
  generalize (w6.alloc (.cells ([.int .i64 0, .int .i64 0, .int .u32 0, .string ⟨#[]⟩] : List Value).toArray 24)).setCells w6.heap.size 0 X1 = w7 at *
  generalize w6.heap.size = g1 at *
  have hr0 := HK7.out.tl.hd.range
  go_wp2_with (((with_reducible (change wpList _ _ _ _ _ _)); ((refine wpList_load_mid rfl 24 _ rfl (g9) 0 rfl (N3) _ hr0 Tryd.underlying24 rfl HI_N3.out ?_))))
  clear hr0
  refine (CB.out _ HK7.out.2.1).mono ?_
  rintro e w8 ⟨rfl, bb⟩
  have HK8 := Lib.hid (HK7.out.below bb (Nat.le_refl _))
  clear bb HK7
  have ht := (bk_new w8 24 ([.int .i64 0, .int .i64 0, .int .u32 0, .string ⟨#[]⟩] : List Value).toArray).there X2.toArray.size (by have := HL_X2.out; simp; omega)
  go_upto_region 10 with (((with_reducible (change wpList _ _ _ _ _ _)); ((refine wpList_store_mid rfl 24 _ _ rfl (w8.heap.size) 0 X2.toArray rfl rfl ht (by simpa using HI_X2.out) HO_X2.out ?_))))
  have HK9 := Lib.hid (HK8.out.put 24 ([.int .i64 0, .int .i64 0, .int .u32 0, .string ⟨#[]⟩] : List Value).toArray X2 (by have := HL_X2.out; simp; omega))
  clear ht HK8
  generalize (w8.alloc (.cells ([.int .i64 0, .int .i64 0, .int .u32 0, .string ⟨#[]⟩] : List Value).toArray 24)).setCells w8.heap.size 0 X2 = w9 at *
  generalize w8.heap.size = g2 at *
  have c0 : w9.cell? ⟨w.heap.size, 0, none⟩ = some (.int .i64 4) := HK9.out.tl.tl.tl.hd.at HM0.out
  have c1 : w9.cell? ⟨w.heap.size, 1, none⟩ = some (.int .i64 0) := HK9.out.tl.tl.tl.hd.at HM1.out
  have dg10 : w9.cell? ⟨g1, 0, none⟩ = some (.int .i64 kd6) := HK9.out.tl.hd.at HX1_0.out
  have dg20 : w9.cell? ⟨g2, 0, none⟩ = some (.int .i64 kd6) := HK9.out.hd.at HX2_0.out
  have dg11 : w9.cell? ⟨g1, 1, none⟩ = some (.int .i64 cd6) := HK9.out.tl.hd.at HX1_1.out
  have dg21 : w9.cell? ⟨g2, 1, none⟩ = some (.int .i64 cd6) := HK9.out.hd.at HX2_1.out
  have dg12 : w9.cell? ⟨g1, 2, none⟩ = some (.int .u32 rs6) := HK9.out.tl.hd.at HX1_2.out
  have dg22 : w9.cell? ⟨g2, 2, none⟩ = some (.int .u32 rs6) := HK9.out.hd.at HX2_2.out
  have dg23 : w9.cell? ⟨g2, 3, none⟩ = some (.string d) := HK9.out.hd.at HX2_3.out
  go_upto_region 12 with (fail)
  go_upto_region 14 with (fail)
  clear c0 c1 dg10 dg20 dg11 dg21 dg12 dg22 dg23
  have hr0 := HK9.out.tl.tl.tl.hd.range
  go_wp2_with (((with_reducible (change wpList _ _ _ _ _ _)); ((refine wpList_load_mid rfl 24 _ rfl (w.heap.size) 0 rfl (VM) _ hr0 Tryd.underlying24 rfl HI_VM.out ?_))))
  clear hr0
  refine (CC.out _).mono ?_
  rintro e w10 ⟨rfl, bb⟩
  have HK10 := Lib.hid (HK9.out.below bb (Nat.le_refl _))
  clear bb HK9
  have ht := (bk_new w10 24 ([.int .i64 0, .int .i64 0, .int .u32 0, .string ⟨#[]⟩] : List Value).toArray).there Y1.toArray.size (by have := HL_Y1.out; simp; omega)
  go_upto_region 15 with (((with_reducible (change wpList _ _ _ _ _ _)); ((refine wpList_store_mid rfl 24 _ _ rfl (w10.heap.size) 0 Y1.toArray rfl rfl ht (by simpa using HI_Y1.out) HO_Y1.out ?_))))
  have HK11 := Lib.hid (HK10.out.put 24 ([.int .i64 0, .int .i64 0, .int .u32 0, .string ⟨#[]⟩] : List Value).toArray Y1 (by have := HL_Y1.out; simp; omega))
  clear ht HK10
  generalize (w10.alloc (.cells ([.int .i64 0, .int .i64 0, .int .u32 0, .string ⟨#[]⟩] : List Value).toArray 24)).setCells w10.heap.size 0 Y1 = w11 at *
  generalize w10.heap.size = g3 at *
  have hr0 := HK11.out.tl.tl.tl.hd.range
  go_wp2_with (((with_reducible (change wpList _ _ _ _ _ _)); ((refine wpList_load_mid rfl 24 _ rfl (g9) 0 rfl (N3) _ hr0 Tryd.underlying24 rfl HI_N3.out ?_))))
  clear hr0
  refine (CD.out _).mono ?_
  rintro e w12 ⟨rfl, bb⟩
  have HK12 := Lib.hid (HK11.out.below bb (Nat.le_refl _))
  clear bb HK11
  have ht := (bk_new w12 24 ([.int .i64 0, .int .i64 0, .int .u32 0, .string ⟨#[]⟩] : List Value).toArray).there Y2.toArray.size (by have := HL_Y2.out; simp; omega)
  go_upto_region 16 with (((with_reducible (change wpList _ _ _ _ _ _)); ((refine wpList_store_mid rfl 24 _ _ rfl (w12.heap.size) 0 Y2.toArray rfl rfl ht (by simpa using HI_Y2.out) HO_Y2.out ?_))))
  have HK13 := Lib.hid (HK12.out.put 24 ([.int .i64 0, .int .i64 0, .int .u32 0, .string ⟨#[]⟩] : List Value).toArray Y2 (by have := HL_Y2.out; simp; omega))
  clear ht HK12
  generalize (w12.alloc (.cells ([.int .i64 0, .int .i64 0, .int .u32 0, .string ⟨#[]⟩] : List Value).toArray 24)).setCells w12.heap.size 0 Y2 = w13 at *
  generalize w12.heap.size = g4 at *
  have c0 : w13.cell? ⟨w.heap.size, 0, none⟩ = some (.int .i64 4) := HK13.out.tl.tl.tl.tl.tl.hd.at HM0.out
  have c1 : w13.cell? ⟨w.heap.size, 1, none⟩ = some (.int .i64 0) := HK13.out.tl.tl.tl.tl.tl.hd.at HM1.out
  go_wp2_with (fail)
  go_ret
  refine ⟨?_, HK13.out.2.1⟩
  first | rfl | (simp; done) | (simp; omega)
set_option maxRecDepth 100000 in
set_option maxHeartbeats 4000000 in
theorem data_s40f (m : Mg) (r : Int) (d : ByteArray) (a b len : Int) (w : World) (hm : Hm w) (hr : 0 ≤ m.rs ∧ m.rs < 4294967296) (ir : 0 ≤ r ∧ r < 4294967296) (hd : ¬ (1000 : Int) < (m.da.size : Int)) (he : ¬ (1000 : Int) < (d.size : Int)) (h1 : m.kd = 4) (h2 : m.cd = 0) (e6 : (six m a b len).2 = false) : Calls Tryd.prog 10 #[.agg m.vals.toArray, .int .u32 r, .string d, .int .i64 a, .int .i64 b, .int .i64 len] w (fun e w' => e = .returned (.bool true) ∧ Below w.heap.size w w') := by
  have HMB : Hid (∀ W, Below w.heap.size w W → Hm W) := Lib.hid (fun W hW => hm.below hW)
  obtain ⟨s1, s2, s3, s4, s5⟩ := six_data (kd := m.kd) (cd := m.cd) (r := m.rs) (q := r) (d := m.da) (e := d) (a := a) (b := b) (len := len) (by omega)
  rw [mg_eta] at s1 s2 s3 s5
  obtain ⟨X1, hX1⟩ : ∃ V, V = (six m a b len).1.vals := ⟨_, rfl⟩
  have HI_X1 : Hid ((Tryd.prog.info? 24).map (·.size) = some X1.length) := Lib.hid (by rw [hX1]; exact Tryd.infoMg _)
  have HO_X1 : Hid (X1.toArray.all (·.oneCell') = true) := Lib.hid (by rw [hX1]; exact mg_one _)
  have HL_X1 : Hid (X1.length = 4) := Lib.hid (by rw [hX1]; rfl)
  obtain ⟨X2, hX2⟩ : ∃ V, V = (six (⟨m.kd, m.cd, r, d⟩ : Mg) a b len).1.vals := ⟨_, rfl⟩
  have HI_X2 : Hid ((Tryd.prog.info? 24).map (·.size) = some X2.length) := Lib.hid (by rw [hX2]; exact Tryd.infoMg _)
  have HO_X2 : Hid (X2.toArray.all (·.oneCell') = true) := Lib.hid (by rw [hX2]; exact mg_one _)
  have HL_X2 : Hid (X2.length = 4) := Lib.hid (by rw [hX2]; rfl)
  obtain ⟨Y1, hY1⟩ : ∃ V, V = (four m a b).1.vals := ⟨_, rfl⟩
  have HI_Y1 : Hid ((Tryd.prog.info? 24).map (·.size) = some Y1.length) := Lib.hid (by rw [hY1]; exact Tryd.infoMg _)
  have HO_Y1 : Hid (Y1.toArray.all (·.oneCell') = true) := Lib.hid (by rw [hY1]; exact mg_one _)
  have HL_Y1 : Hid (Y1.length = 4) := Lib.hid (by rw [hY1]; rfl)
  obtain ⟨Y2, hY2⟩ : ∃ V, V = (four (⟨m.kd, m.cd, r, d⟩ : Mg) a b).1.vals := ⟨_, rfl⟩
  have HI_Y2 : Hid ((Tryd.prog.info? 24).map (·.size) = some Y2.length) := Lib.hid (by rw [hY2]; exact Tryd.infoMg _)
  have HO_Y2 : Hid (Y2.toArray.all (·.oneCell') = true) := Lib.hid (by rw [hY2]; exact mg_one _)
  have HL_Y2 : Hid (Y2.length = 4) := Lib.hid (by rw [hY2]; rfl)
  have CA : Hid (∀ W, Below w.heap.size w W → Calls Tryd.prog 11 #[.agg m.vals.toArray, .int .i64 a, .int .i64 b, .int .i64 len] W (fun e w' => e = .returned (.tuple #[.agg X1.toArray, .bool false]) ∧ Below W.heap.size W w')) := Lib.hid (fun W hW => by have hmW := HMB.out W hW; rw [hX1, ← e6]; exact psix_any m a b len W hr)
  have CB : Hid (∀ W, Below w.heap.size w W → Calls Tryd.prog 11 #[.agg (⟨m.kd, m.cd, r, d⟩ : Mg).vals.toArray, .int .i64 a, .int .i64 b, .int .i64 len] W (fun e w' => e = .returned (.tuple #[.agg X2.toArray, .bool false]) ∧ Below W.heap.size W w')) := Lib.hid (fun W hW => by have hmW := HMB.out W hW; rw [hX2, ← e6, s1]; exact psix_any (⟨m.kd, m.cd, r, d⟩ : Mg) a b len W ir)
  have CC : Hid (∀ W, Calls Tryd.prog 12 #[.agg m.vals.toArray, .int .i64 a, .int .i64 b] W (fun e w' => e = .returned (.tuple #[.agg Y1.toArray, .bool (four m a b).2]) ∧ Below W.heap.size W w')) := Lib.hid (fun W => by rw [hY1]; exact pfour_any m a b W hr)
  have CD : Hid (∀ W, Calls Tryd.prog 12 #[.agg (⟨m.kd, m.cd, r, d⟩ : Mg).vals.toArray, .int .i64 a, .int .i64 b] W (fun e w' => e = .returned (.tuple #[.agg Y2.toArray, .bool (four (⟨m.kd, m.cd, r, d⟩ : Mg) a b).2]) ∧ Below W.heap.size W w')) := Lib.hid (fun W => by rw [hY2]; exact pfour_any (⟨m.kd, m.cd, r, d⟩ : Mg) a b W ir)
  have HX1_0 : Hid (X1[0]? = some (.int .i64 (six m a b len).1.kd)) := Lib.hid (by rw [hX1]; rfl)
  have HX2_0 : Hid (X2[0]? = some (.int .i64 (six m a b len).1.kd)) := Lib.hid (by rw [hX2, s2]; rfl)
  have HX1_1 : Hid (X1[1]? = some (.int .i64 (six m a b len).1.cd)) := Lib.hid (by rw [hX1]; rfl)
  have HX2_1 : Hid (X2[1]? = some (.int .i64 (six m a b len).1.cd)) := Lib.hid (by rw [hX2, s3]; rfl)
  have HX1_2 : Hid (X1[2]? = some (.int .u32 (six m a b len).1.rs)) := Lib.hid (by rw [hX1]; rfl)
  have HX2_2 : Hid (X2[2]? = some (.int .u32 (six m a b len).1.rs)) := Lib.hid (by rw [hX2, s5 (by omega) (by omega) (by omega)]; rfl)
  clear hX1 hX2 hY1 hY2 s1 s2 s3 s4 s5
  clear e6
  generalize (six m a b len).1.kd = kd6 at *
  generalize (six m a b len).1.cd = cd6 at *
  generalize (six m a b len).1.rs = rs6 at *
  generalize (four m a b).1.kd = kd4 at *
  generalize (four m a b).1.cd = cd4 at *
  generalize (four m a b).2 = q4 at *
  generalize (four (⟨m.kd, m.cd, r, d⟩ : Mg) a b).2 = q4' at *
  have HQ0 := Lib.hid h1
  have HQ1 := Lib.hid h2
  have HE2 := Lib.hid (nm_vals2 m r)
  have HE3 := Lib.hid (nm_vals3 m r d)
  have HI_N2 : Hid ((Tryd.prog.info? 24).map (·.size) = some (⟨m.kd, m.cd, r, m.da⟩ : Mg).vals.length) := Lib.hid (Tryd.infoMg _)
  have HL_N2 : Hid ((⟨m.kd, m.cd, r, m.da⟩ : Mg).vals.length = 4) := Lib.hid rfl
  have HI_N3 : Hid ((Tryd.prog.info? 24).map (·.size) = some (⟨m.kd, m.cd, r, d⟩ : Mg).vals.length) := Lib.hid (Tryd.infoMg _)
  generalize (⟨m.kd, m.cd, r, m.da⟩ : Mg).vals = N2 at *
  generalize (⟨m.kd, m.cd, r, d⟩ : Mg).vals = N3 at *
  have HI_VM : Hid ((Tryd.prog.info? 24).map (·.size) = some m.vals.length) := Lib.hid (Tryd.infoMg _)
  have HO_VM : Hid (m.vals.toArray.all (·.oneCell') = true) := Lib.hid (mg_one _)
  have HL_VM : Hid (m.vals.length = 4) := Lib.hid rfl
  have HM0 : Hid (m.vals[0]? = some (.int .i64 4)) := Lib.hid (by rw [← HQ0.out]; rfl)
  have HM1 : Hid (m.vals[1]? = some (.int .i64 0)) := Lib.hid (by rw [← HQ1.out]; rfl)
  have HM2 : Hid (m.vals[2]? = some (.int .u32 m.rs)) := Lib.hid (rfl)
  have HM3 : Hid (m.vals[3]? = some (.string m.da)) := Lib.hid (rfl)
  have HK1 : Hid (Kp w w.heap.size [(w.heap.size, 24, m.vals)] (w.alloc (.cells m.vals.toArray 24))) := Lib.hid ((Kp.start w).new 24 m.vals)
  clear h1 h2
  generalize m.vals = VM at *
  generalize hw1 : w.alloc (.cells VM.toArray 24) = w1 at *
  go_enter Tryd.func10, Tryd.ntmps10
  go_upto_region 1 with (fail)
  clear hw1
  go_wp2_with (fail)
  refine (awake14_true _ (HMB.out _ HK1.out.2.1)).mono ?_
  rintro e w2 ⟨rfl, bb⟩
  have HK2 := Lib.hid (HK1.out.below bb (Nat.le_refl _))
  clear bb HK1
  have c3 : w2.cell? ⟨w.heap.size, 3, none⟩ = some (.string m.da) := HK2.out.hd.at HM3.out
  go_upto_region 5 with (fail)
  clear c3
  have HG9 : Hid (w.heap.size < w2.heap.size) := Lib.hid HK2.out.hd.lt
  have hr0 := HK2.out.hd.range
  have ht := (bk_new w2 24 ([.int .i64 0, .int .i64 0, .int .u32 0, .string ⟨#[]⟩] : List Value).toArray).there VM.toArray.size (by have := HL_VM.out; simp; omega)
  go_upto_region 6 with (((with_reducible (change wpList _ _ _ _ _ _)); (first | (refine wpList_load_mid rfl 24 _ rfl (w.heap.size) 0 rfl (VM) _ hr0 Tryd.underlying24 rfl HI_VM.out ?_) | (refine wpList_store_mid rfl 24 _ _ rfl (w2.heap.size) 0 VM.toArray rfl rfl ht (by simpa using HI_VM.out) HO_VM.out ?_))))
  have HK3 := Lib.hid (HK2.out.put 24 ([.int .i64 0, .int .i64 0, .int .u32 0, .string ⟨#[]⟩] : List Value).toArray VM (by have := HL_VM.out; simp; omega))
  clear ht HK2
  generalize (w2.alloc (.cells ([.int .i64 0, .int .i64 0, .int .u32 0, .string ⟨#[]⟩] : List Value).toArray 24)).setCells w2.heap.size 0 VM = w3 at *
  generalize w2.heap.size = g9 at *
  clear hr0
  have hne : ∀ x ∈ ([(w.heap.size, 24, VM)] : List (Nat × TypeId × List Value)), x.1 ≠ g9 := by
    have hg := HG9.out
    intro x hx
    simp only [List.mem_cons, List.not_mem_nil, or_false] at hx
    rcases hx with rfl
    show _ ≠ g9
    omega
  have hgB : w.heap.size ≤ g9 := by have := HG9.out; omega
  have HNE := Lib.hid (And.intro hne hgB)
  clear hne hgB
  obtain ⟨uu, hu, hz⟩ := HK3.out.some1 2 (by have := HL_VM.out; omega)
  go_upto_region 7 with (fail)
  have hk := HK3.out.set1 HNE.out.1 HNE.out.2 2 (.int .u32 r)
  rw [HE2.out] at hk
  have HK4 := Lib.hid hk
  clear hk hu hz HK3
  generalize w3.setCell ⟨g9, 2, none⟩ (.int .u32 r) = w4 at *
  obtain ⟨uu, hu, hz⟩ := HK4.out.some1 3 (by have := HL_N2.out; omega)
  go_upto_region 8 with (fail)
  have hk := HK4.out.set1 HNE.out.1 HNE.out.2 3 (.string d)
  rw [HE3.out] at hk
  have HK5 := Lib.hid hk
  clear hk hu hz HK4
  generalize w4.setCell ⟨g9, 3, none⟩ (.string d) = w5 at *
  have hr0 := HK5.out.tl.hd.range
  go_wp2_with (((with_reducible (change wpList _ _ _ _ _ _)); ((refine wpList_load_mid rfl 24 _ rfl (w.heap.size) 0 rfl (VM) _ hr0 Tryd.underlying24 rfl HI_VM.out ?_))))
  clear hr0
  refine (CA.out _ HK5.out.2.1).mono ?_
  rintro e w6 ⟨rfl, bb⟩
  have HK6 := Lib.hid (HK5.out.below bb (Nat.le_refl _))
  clear bb HK5
  have ht := (bk_new w6 24 ([.int .i64 0, .int .i64 0, .int .u32 0, .string ⟨#[]⟩] : List Value).toArray).there X1.toArray.size (by have := HL_X1.out; simp; omega)
  go_upto_region 9 with (((with_reducible (change wpList _ _ _ _ _ _)); ((refine wpList_store_mid rfl 24 _ _ rfl (w6.heap.size) 0 X1.toArray rfl rfl ht (by simpa using HI_X1.out) HO_X1.out ?_))))
  have HK7 := Lib.hid (HK6.out.put 24 ([.int .i64 0, .int .i64 0, .int .u32 0, .string ⟨#[]⟩] : List Value).toArray X1 (by have := HL_X1.out; simp; omega))
  clear ht HK6
  generalize (w6.alloc (.cells ([.int .i64 0, .int .i64 0, .int .u32 0, .string ⟨#[]⟩] : List Value).toArray 24)).setCells w6.heap.size 0 X1 = w7 at *
  generalize w6.heap.size = g1 at *
  have hr0 := HK7.out.tl.hd.range
  go_wp2_with (((with_reducible (change wpList _ _ _ _ _ _)); ((refine wpList_load_mid rfl 24 _ rfl (g9) 0 rfl (N3) _ hr0 Tryd.underlying24 rfl HI_N3.out ?_))))
  clear hr0
  refine (CB.out _ HK7.out.2.1).mono ?_
  rintro e w8 ⟨rfl, bb⟩
  have HK8 := Lib.hid (HK7.out.below bb (Nat.le_refl _))
  clear bb HK7
  have ht := (bk_new w8 24 ([.int .i64 0, .int .i64 0, .int .u32 0, .string ⟨#[]⟩] : List Value).toArray).there X2.toArray.size (by have := HL_X2.out; simp; omega)
  go_upto_region 10 with (((with_reducible (change wpList _ _ _ _ _ _)); ((refine wpList_store_mid rfl 24 _ _ rfl (w8.heap.size) 0 X2.toArray rfl rfl ht (by simpa using HI_X2.out) HO_X2.out ?_))))
  have HK9 := Lib.hid (HK8.out.put 24 ([.int .i64 0, .int .i64 0, .int .u32 0, .string ⟨#[]⟩] : List Value).toArray X2 (by have := HL_X2.out; simp; omega))
  clear ht HK8
  generalize (w8.alloc (.cells ([.int .i64 0, .int .i64 0, .int .u32 0, .string ⟨#[]⟩] : List Value).toArray 24)).setCells w8.heap.size 0 X2 = w9 at *
  generalize w8.heap.size = g2 at *
  have c0 : w9.cell? ⟨w.heap.size, 0, none⟩ = some (.int .i64 4) := HK9.out.tl.tl.tl.hd.at HM0.out
  have c1 : w9.cell? ⟨w.heap.size, 1, none⟩ = some (.int .i64 0) := HK9.out.tl.tl.tl.hd.at HM1.out
  have dg10 : w9.cell? ⟨g1, 0, none⟩ = some (.int .i64 kd6) := HK9.out.tl.hd.at HX1_0.out
  have dg20 : w9.cell? ⟨g2, 0, none⟩ = some (.int .i64 kd6) := HK9.out.hd.at HX2_0.out
  have dg11 : w9.cell? ⟨g1, 1, none⟩ = some (.int .i64 cd6) := HK9.out.tl.hd.at HX1_1.out
  have dg21 : w9.cell? ⟨g2, 1, none⟩ = some (.int .i64 cd6) := HK9.out.hd.at HX2_1.out
  have dg12 : w9.cell? ⟨g1, 2, none⟩ = some (.int .u32 rs6) := HK9.out.tl.hd.at HX1_2.out
  have dg22 : w9.cell? ⟨g2, 2, none⟩ = some (.int .u32 rs6) := HK9.out.hd.at HX2_2.out
  go_upto_region 12 with (fail)
  go_upto_region 14 with (fail)
  clear c0 c1 dg10 dg20 dg11 dg21 dg12 dg22
  have hr0 := HK9.out.tl.tl.tl.hd.range
  go_wp2_with (((with_reducible (change wpList _ _ _ _ _ _)); ((refine wpList_load_mid rfl 24 _ rfl (w.heap.size) 0 rfl (VM) _ hr0 Tryd.underlying24 rfl HI_VM.out ?_))))
  clear hr0
  refine (CC.out _).mono ?_
  rintro e w10 ⟨rfl, bb⟩
  have HK10 := Lib.hid (HK9.out.below bb (Nat.le_refl _))
  clear bb HK9
  have ht := (bk_new w10 24 ([.int .i64 0, .int .i64 0, .int .u32 0, .string ⟨#[]⟩] : List Value).toArray).there Y1.toArray.size (by have := HL_Y1.out; simp; omega)
  go_upto_region 15 with (((with_reducible (change wpList _ _ _ _ _ _)); ((refine wpList_store_mid rfl 24 _ _ rfl (w10.heap.size) 0 Y1.toArray rfl rfl ht (by simpa using HI_Y1.out) HO_Y1.out ?_))))
  have HK11 := Lib.hid (HK10.out.put 24 ([.int .i64 0, .int .i64 0, .int .u32 0, .string ⟨#[]⟩] : List Value).toArray Y1 (by have := HL_Y1.out; simp; omega))
  clear ht HK10
  generalize (w10.alloc (.cells ([.int .i64 0, .int .i64 0, .int .u32 0, .string ⟨#[]⟩] : List Value).toArray 24)).setCells w10.heap.size 0 Y1 = w11 at *
  generalize w10.heap.size = g3 at *
  have hr0 := HK11.out.tl.tl.tl.hd.range
  go_wp2_with (((with_reducible (change wpList _ _ _ _ _ _)); ((refine wpList_load_mid rfl 24 _ rfl (g9) 0 rfl (N3) _ hr0 Tryd.underlying24 rfl HI_N3.out ?_))))
  clear hr0
  refine (CD.out _).mono ?_
  rintro e w12 ⟨rfl, bb⟩
  have HK12 := Lib.hid (HK11.out.below bb (Nat.le_refl _))
  clear bb HK11
  have ht := (bk_new w12 24 ([.int .i64 0, .int .i64 0, .int .u32 0, .string ⟨#[]⟩] : List Value).toArray).there Y2.toArray.size (by have := HL_Y2.out; simp; omega)
  go_upto_region 16 with (((with_reducible (change wpList _ _ _ _ _ _)); ((refine wpList_store_mid rfl 24 _ _ rfl (w12.heap.size) 0 Y2.toArray rfl rfl ht (by simpa using HI_Y2.out) HO_Y2.out ?_))))
  have HK13 := Lib.hid (HK12.out.put 24 ([.int .i64 0, .int .i64 0, .int .u32 0, .string ⟨#[]⟩] : List Value).toArray Y2 (by have := HL_Y2.out; simp; omega))
  clear ht HK12
  generalize (w12.alloc (.cells ([.int .i64 0, .int .i64 0, .int .u32 0, .string ⟨#[]⟩] : List Value).toArray 24)).setCells w12.heap.size 0 Y2 = w13 at *
  generalize w12.heap.size = g4 at *
  have c0 : w13.cell? ⟨w.heap.size, 0, none⟩ = some (.int .i64 4) := HK13.out.tl.tl.tl.tl.tl.hd.at HM0.out
  have c1 : w13.cell? ⟨w.heap.size, 1, none⟩ = some (.int .i64 0) := HK13.out.tl.tl.tl.tl.tl.hd.at HM1.out
  go_wp2_with (fail)
  go_ret
  refine ⟨?_, HK13.out.2.1⟩
  first | rfl | (simp; done) | (simp; omega)
set_option maxRecDepth 100000 in
set_option maxHeartbeats 4000000 in
theorem data_s8tt (m : Mg) (r : Int) (d : ByteArray) (a b len : Int) (w : World) (hm : Hm w) (hr : 0 ≤ m.rs ∧ m.rs < 4294967296) (ir : 0 ≤ r ∧ r < 4294967296) (hd : ¬ (1000 : Int) < (m.da.size : Int)) (he : ¬ (1000 : Int) < (d.size : Int)) (h1 : m.kd = 8) (e6 : (six m a b len).2 = true) (e4 : (four m a b).2 = true) : Calls Tryd.prog 10 #[.agg m.vals.toArray, .int .u32 r, .string d, .int .i64 a, .int .i64 b, .int .i64 len] w (fun e w' => e = .returned (.bool true) ∧ Below w.heap.size w w') := by
  have HMB : Hid (∀ W, Below w.heap.size w W → Hm W) := Lib.hid (fun W hW => hm.below hW)
  obtain ⟨s1, s2, s3, s4, s5⟩ := six_data (kd := m.kd) (cd := m.cd) (r := m.rs) (q := r) (d := m.da) (e := d) (a := a) (b := b) (len := len) (by omega)
  rw [mg_eta] at s1 s2 s3 s5
  obtain ⟨f1, f2, f3, f4⟩ := four_data (kd := m.kd) (cd := m.cd) (r := m.rs) (q := r) (d := m.da) (e := d) (a := a) (b := b) (by omega)
  rw [mg_eta] at f1 f2 f3
  obtain ⟨X1, hX1⟩ : ∃ V, V = (six m a b len).1.vals := ⟨_, rfl⟩
  have HI_X1 : Hid ((Tryd.prog.info? 24).map (·.size) = some X1.length) := Lib.hid (by rw [hX1]; exact Tryd.infoMg _)
  have HO_X1 : Hid (X1.toArray.all (·.oneCell') = true) := Lib.hid (by rw [hX1]; exact mg_one _)
  have HL_X1 : Hid (X1.length = 4) := Lib.hid (by rw [hX1]; rfl)
  obtain ⟨X2, hX2⟩ : ∃ V, V = (six (⟨m.kd, m.cd, r, d⟩ : Mg) a b len).1.vals := ⟨_, rfl⟩
  have HI_X2 : Hid ((Tryd.prog.info? 24).map (·.size) = some X2.length) := Lib.hid (by rw [hX2]; exact Tryd.infoMg _)
  have HO_X2 : Hid (X2.toArray.all (·.oneCell') = true) := Lib.hid (by rw [hX2]; exact mg_one _)
  have HL_X2 : Hid (X2.length = 4) := Lib.hid (by rw [hX2]; rfl)
  obtain ⟨Y1, hY1⟩ : ∃ V, V = (four m a b).1.vals := ⟨_, rfl⟩
  have HI_Y1 : Hid ((Tryd.prog.info? 24).map (·.size) = some Y1.length) := Lib.hid (by rw [hY1]; exact Tryd.infoMg _)
  have HO_Y1 : Hid (Y1.toArray.all (·.oneCell') = true) := Lib.hid (by rw [hY1]; exact mg_one _)
  have HL_Y1 : Hid (Y1.length = 4) := Lib.hid (by rw [hY1]; rfl)
  obtain ⟨Y2, hY2⟩ : ∃ V, V = (four (⟨m.kd, m.cd, r, d⟩ : Mg) a b).1.vals := ⟨_, rfl⟩
  have HI_Y2 : Hid ((Tryd.prog.info? 24).map (·.size) = some Y2.length) := Lib.hid (by rw [hY2]; exact Tryd.infoMg _)
  have HO_Y2 : Hid (Y2.toArray.all (·.oneCell') = true) := Lib.hid (by rw [hY2]; exact mg_one _)
  have HL_Y2 : Hid (Y2.length = 4) := Lib.hid (by rw [hY2]; rfl)
  have CA : Hid (∀ W, Below w.heap.size w W → Calls Tryd.prog 11 #[.agg m.vals.toArray, .int .i64 a, .int .i64 b, .int .i64 len] W (fun e w' => e = .returned (.tuple #[.agg X1.toArray, .bool true]) ∧ Below W.heap.size W w')) := Lib.hid (fun W hW => by have hmW := HMB.out W hW; rw [hX1, ← e6]; exact psix_any m a b len W hr)
  have CB : Hid (∀ W, Below w.heap.size w W → Calls Tryd.prog 11 #[.agg (⟨m.kd, m.cd, r, d⟩ : Mg).vals.toArray, .int .i64 a, .int .i64 b, .int .i64 len] W (fun e w' => e = .returned (.tuple #[.agg X2.toArray, .bool true]) ∧ Below W.heap.size W w')) := Lib.hid (fun W hW => by have hmW := HMB.out W hW; rw [hX2, ← e6, s1]; exact psix_any (⟨m.kd, m.cd, r, d⟩ : Mg) a b len W ir)
  have CC : Hid (∀ W, Calls Tryd.prog 12 #[.agg m.vals.toArray, .int .i64 a, .int .i64 b] W (fun e w' => e = .returned (.tuple #[.agg Y1.toArray, .bool true]) ∧ Below W.heap.size W w')) := Lib.hid (fun W => by rw [hY1, ← e4]; exact pfour_any m a b W hr)
  have CD : Hid (∀ W, Calls Tryd.prog 12 #[.agg (⟨m.kd, m.cd, r, d⟩ : Mg).vals.toArray, .int .i64 a, .int .i64 b] W (fun e w' => e = .returned (.tuple #[.agg Y2.toArray, .bool true]) ∧ Below W.heap.size W w')) := Lib.hid (fun W => by rw [hY2, ← e4, f1]; exact pfour_any (⟨m.kd, m.cd, r, d⟩ : Mg) a b W ir)
  have s4' := s4 (s1 ▸ e6)
  have f4' := f4 (f1 ▸ e4)
  have HX1_0 : Hid (X1[0]? = some (.int .i64 (six m a b len).1.kd)) := Lib.hid (by rw [hX1]; rfl)
  have HX2_0 : Hid (X2[0]? = some (.int .i64 (six m a b len).1.kd)) := Lib.hid (by rw [hX2, s2]; rfl)
  have HX1_1 : Hid (X1[1]? = some (.int .i64 (six m a b len).1.cd)) := Lib.hid (by rw [hX1]; rfl)
  have HX2_1 : Hid (X2[1]? = some (.int .i64 (six m a b len).1.cd)) := Lib.hid (by rw [hX2, s3]; rfl)
  have HX1_2 : Hid (X1[2]? = some (.int .u32 (six m a b len).1.rs)) := Lib.hid (by rw [hX1]; rfl)
  have HX2_2 : Hid (X2[2]? = some (.int .u32 (six (⟨m.kd, m.cd, r, d⟩ : Mg) a b len).1.rs)) := Lib.hid (by rw [hX2]; rfl)
  have HX2_3 : Hid (X2[3]? = some (.string d)) := Lib.hid (by rw [hX2]; exact congrArg (fun x => some (Value.string x)) s4')
  have HY1_0 : Hid (Y1[0]? = some (.int .i64 (four m a b).1.kd)) := Lib.hid (by rw [hY1]; rfl)
  have HY2_0 : Hid (Y2[0]? = some (.int .i64 (four m a b).1.kd)) := Lib.hid (by rw [hY2, f2]; rfl)
  have HY1_1 : Hid (Y1[1]? = some (.int .i64 (four m a b).1.cd)) := Lib.hid (by rw [hY1]; rfl)
  have HY2_1 : Hid (Y2[1]? = some (.int .i64 (four m a b).1.cd)) := Lib.hid (by rw [hY2, f3]; rfl)
  have HY2_3 : Hid (Y2[3]? = some (.string d)) := Lib.hid (by rw [hY2]; exact congrArg (fun x => some (Value.string x)) f4')
  clear hX1 hX2 hY1 hY2 s1 s2 s3 s4 s5 f1 f2 f3 f4 s4' f4'
  clear e6
  clear e4
  generalize (six m a b len).1.kd = kd6 at *
  generalize (six m a b len).1.cd = cd6 at *
  generalize (six m a b len).1.rs = rs6 at *
  generalize (four m a b).1.kd = kd4 at *
  generalize (four m a b).1.cd = cd4 at *
  generalize (six (⟨m.kd, m.cd, r, d⟩ : Mg) a b len).1.rs = rs6' at *
  have HQ0 := Lib.hid h1
  have HE2 := Lib.hid (nm_vals2 m r)
  have HE3 := Lib.hid (nm_vals3 m r d)
  have HI_N2 : Hid ((Tryd.prog.info? 24).map (·.size) = some (⟨m.kd, m.cd, r, m.da⟩ : Mg).vals.length) := Lib.hid (Tryd.infoMg _)
  have HL_N2 : Hid ((⟨m.kd, m.cd, r, m.da⟩ : Mg).vals.length = 4) := Lib.hid rfl
  have HI_N3 : Hid ((Tryd.prog.info? 24).map (·.size) = some (⟨m.kd, m.cd, r, d⟩ : Mg).vals.length) := Lib.hid (Tryd.infoMg _)
  generalize (⟨m.kd, m.cd, r, m.da⟩ : Mg).vals = N2 at *
  generalize (⟨m.kd, m.cd, r, d⟩ : Mg).vals = N3 at *
  have HI_VM : Hid ((Tryd.prog.info? 24).map (·.size) = some m.vals.length) := Lib.hid (Tryd.infoMg _)
  have HO_VM : Hid (m.vals.toArray.all (·.oneCell') = true) := Lib.hid (mg_one _)
  have HL_VM : Hid (m.vals.length = 4) := Lib.hid rfl
  have HM0 : Hid (m.vals[0]? = some (.int .i64 8)) := Lib.hid (by rw [← HQ0.out]; rfl)
  have HM1 : Hid (m.vals[1]? = some (.int .i64 m.cd)) := Lib.hid (rfl)
  have HM2 : Hid (m.vals[2]? = some (.int .u32 m.rs)) := Lib.hid (rfl)
  have HM3 : Hid (m.vals[3]? = some (.string m.da)) := Lib.hid (rfl)
  have HK1 : Hid (Kp w w.heap.size [(w.heap.size, 24, m.vals)] (w.alloc (.cells m.vals.toArray 24))) := Lib.hid ((Kp.start w).new 24 m.vals)
  clear h1
  generalize m.vals = VM at *
  generalize hw1 : w.alloc (.cells VM.toArray 24) = w1 at *
  go_enter Tryd.func10, Tryd.ntmps10
  go_upto_region 1 with (fail)
  clear hw1
  go_wp2_with (fail)
  refine (awake14_true _ (HMB.out _ HK1.out.2.1)).mono ?_
  rintro e w2 ⟨rfl, bb⟩
  have HK2 := Lib.hid (HK1.out.below bb (Nat.le_refl _))
  clear bb HK1
  have c3 : w2.cell? ⟨w.heap.size, 3, none⟩ = some (.string m.da) := HK2.out.hd.at HM3.out
  go_upto_region 5 with (fail)
  clear c3
  have HG9 : Hid (w.heap.size < w2.heap.size) := Lib.hid HK2.out.hd.lt
  have hr0 := HK2.out.hd.range
  have ht := (bk_new w2 24 ([.int .i64 0, .int .i64 0, .int .u32 0, .string ⟨#[]⟩] : List Value).toArray).there VM.toArray.size (by have := HL_VM.out; simp; omega)
  go_upto_region 6 with (((with_reducible (change wpList _ _ _ _ _ _)); (first | (refine wpList_load_mid rfl 24 _ rfl (w.heap.size) 0 rfl (VM) _ hr0 Tryd.underlying24 rfl HI_VM.out ?_) | (refine wpList_store_mid rfl 24 _ _ rfl (w2.heap.size) 0 VM.toArray rfl rfl ht (by simpa using HI_VM.out) HO_VM.out ?_))))
  have HK3 := Lib.hid (HK2.out.put 24 ([.int .i64 0, .int .i64 0, .int .u32 0, .string ⟨#[]⟩] : List Value).toArray VM (by have := HL_VM.out; simp; omega))
  clear ht HK2
  generalize (w2.alloc (.cells ([.int .i64 0, .int .i64 0, .int .u32 0, .string ⟨#[]⟩] : List Value).toArray 24)).setCells w2.heap.size 0 VM = w3 at *
  generalize w2.heap.size = g9 at *
  clear hr0
  have hne : ∀ x ∈ ([(w.heap.size, 24, VM)] : List (Nat × TypeId × List Value)), x.1 ≠ g9 := by
    have hg := HG9.out
    intro x hx
    simp only [List.mem_cons, List.not_mem_nil, or_false] at hx
    rcases hx with rfl
    show _ ≠ g9
    omega
  have hgB : w.heap.size ≤ g9 := by have := HG9.out; omega
  have HNE := Lib.hid (And.intro hne hgB)
  clear hne hgB
  obtain ⟨uu, hu, hz⟩ := HK3.out.some1 2 (by have := HL_VM.out; omega)
  go_upto_region 7 with (fail)
  have hk := HK3.out.set1 HNE.out.1 HNE.out.2 2 (.int .u32 r)
  rw [HE2.out] at hk
  have HK4 := Lib.hid hk
  clear hk hu hz HK3
  generalize w3.setCell ⟨g9, 2, none⟩ (.int .u32 r) = w4 at *
  obtain ⟨uu, hu, hz⟩ := HK4.out.some1 3 (by have := HL_N2.out; omega)
  go_upto_region 8 with (fail)
  have hk := HK4.out.set1 HNE.out.1 HNE.out.2 3 (.string d)
  rw [HE3.out] at hk
  have HK5 := Lib.hid hk
  clear hk hu hz HK4
  generalize w4.setCell ⟨g9, 3, none⟩ (.string d) = w5 at *
  have hr0 := HK5.out.tl.hd.range
  go_wp2_with (((with_reducible (change wpList _ _ _ _ _ _)); ((refine wpList_load_mid rfl 24 _ rfl (w.heap.size) 0 rfl (VM) _ hr0 Tryd.underlying24 rfl HI_VM.out ?_))))
  clear hr0
  refine (CA.out _ HK5.out.2.1).mono ?_
  rintro e w6 ⟨rfl, bb⟩
  have HK6 := Lib.hid (HK5.out.below bb (Nat.le_refl _))
  clear bb HK5
  have ht := (bk_new w6 24 ([.int .i64 0, .int .i64 0, .int .u32 0, .string ⟨#[]⟩] : List Value).toArray).there X1.toArray.size (by have := HL_X1.out; simp; omega)
  go_upto_region 9 with (((with_reducible (change wpList _ _ _ _ _ _)); ((refine wpList_store_mid rfl 24 _ _ rfl (w6.heap.size) 0 X1.toArray rfl rfl ht (by simpa using HI_X1.out) HO_X1.out ?_))))
  have HK7 := Lib.hid (HK6.out.put 24 ([.int .i64 0, .int .i64 0, .int .u32 0, .string ⟨#[]⟩] : List Value).toArray X1 (by have := HL_X1.out; simp; omega))
  clear ht HK6
  generalize (w6.alloc (.cells ([.int .i64 0, .int .i64 0, .int .u32 0, .string ⟨#[]⟩] : List Value).toArray 24)).setCells w6.heap.size 0 X1 = w7 at *
  generalize w6.heap.size = g1 at *
  have hr0 := HK7.out.tl.hd.range
  go_wp2_with (((with_reducible (change wpList _ _ _ _ _ _)); ((refine wpList_load_mid rfl 24 _ rfl (g9) 0 rfl (N3) _ hr0 Tryd.underlying24 rfl HI_N3.out ?_))))
  clear hr0
  refine (CB.out _ HK7.out.2.1).mono ?_
  rintro e w8 ⟨rfl, bb⟩
  have HK8 := Lib.hid (HK7.out.below bb (Nat.le_refl _))
  clear bb HK7
  have ht := (bk_new w8 24 ([.int .i64 0, .int .i64 0, .int .u32 0, .string ⟨#[]⟩] : List Value).toArray).there X2.toArray.size (by have := HL_X2.out; simp; omega)
  go_upto_region 10 with (((with_reducible (change wpList _ _ _ _ _ _)); ((refine wpList_store_mid rfl 24 _ _ rfl (w8.heap.size) 0 X2.toArray rfl rfl ht (by simpa using HI_X2.out) HO_X2.out ?_))))
  have HK9 := Lib.hid (HK8.out.put 24 ([.int .i64 0, .int .i64 0, .int .u32 0, .string ⟨#[]⟩] : List Value).toArray X2 (by have := HL_X2.out; simp; omega))
  clear ht HK8
  generalize (w8.alloc (.cells ([.int .i64 0, .int .i64 0, .int .u32 0, .string ⟨#[]⟩] : List Value).toArray 24)).setCells w8.heap.size 0 X2 = w9 at *
  generalize w8.heap.size = g2 at *
  have c0 : w9.cell? ⟨w.heap.size, 0, none⟩ = some (.int .i64 8) := HK9.out.tl.tl.tl.hd.at HM0.out
  have c1 : w9.cell? ⟨w.heap.size, 1, none⟩ = some (.int .i64 m.cd) := HK9.out.tl.tl.tl.hd.at HM1.out
  have dg10 : w9.cell? ⟨g1, 0, none⟩ = some (.int .i64 kd6) := HK9.out.tl.hd.at HX1_0.out
  have dg20 : w9.cell? ⟨g2, 0, none⟩ = some (.int .i64 kd6) := HK9.out.hd.at HX2_0.out
  have dg11 : w9.cell? ⟨g1, 1, none⟩ = some (.int .i64 cd6) := HK9.out.tl.hd.at HX1_1.out
  have dg21 : w9.cell? ⟨g2, 1, none⟩ = some (.int .i64 cd6) := HK9.out.hd.at HX2_1.out
  have dg12 : w9.cell? ⟨g1, 2, none⟩ = some (.int .u32 rs6) := HK9.out.tl.hd.at HX1_2.out
  have dg22 : w9.cell? ⟨g2, 2, none⟩ = some (.int .u32 rs6') := HK9.out.hd.at HX2_2.out
  have dg23 : w9.cell? ⟨g2, 3, none⟩ = some (.string d) := HK9.out.hd.at HX2_3.out
  go_upto_region 12 with (fail)
  go_upto_region 14 with (fail)
  clear c0 c1 dg10 dg20 dg11 dg21 dg12 dg22 dg23
  have hr0 := HK9.out.tl.tl.tl.hd.range
  go_wp2_with (((with_reducible (change wpList _ _ _ _ _ _)); ((refine wpList_load_mid rfl 24 _ rfl (w.heap.size) 0 rfl (VM) _ hr0 Tryd.underlying24 rfl HI_VM.out ?_))))
  clear hr0
  refine (CC.out _).mono ?_
  rintro e w10 ⟨rfl, bb⟩
  have HK10 := Lib.hid (HK9.out.below bb (Nat.le_refl _))
  clear bb HK9
  have ht := (bk_new w10 24 ([.int .i64 0, .int .i64 0, .int .u32 0, .string ⟨#[]⟩] : List Value).toArray).there Y1.toArray.size (by have := HL_Y1.out; simp; omega)
  go_upto_region 15 with (((with_reducible (change wpList _ _ _ _ _ _)); ((refine wpList_store_mid rfl 24 _ _ rfl (w10.heap.size) 0 Y1.toArray rfl rfl ht (by simpa using HI_Y1.out) HO_Y1.out ?_))))
  have HK11 := Lib.hid (HK10.out.put 24 ([.int .i64 0, .int .i64 0, .int .u32 0, .string ⟨#[]⟩] : List Value).toArray Y1 (by have := HL_Y1.out; simp; omega))
  clear ht HK10
  generalize (w10.alloc (.cells ([.int .i64 0, .int .i64 0, .int .u32 0, .string ⟨#[]⟩] : List Value).toArray 24)).setCells w10.heap.size 0 Y1 = w11 at *
  generalize w10.heap.size = g3 at *
  have hr0 := HK11.out.tl.tl.tl.hd.range
  go_wp2_with (((with_reducible (change wpList _ _ _ _ _ _)); ((refine wpList_load_mid rfl 24 _ rfl (g9) 0 rfl (N3) _ hr0 Tryd.underlying24 rfl HI_N3.out ?_))))
  clear hr0
  refine (CD.out _).mono ?_
  rintro e w12 ⟨rfl, bb⟩
  have HK12 := Lib.hid (HK11.out.below bb (Nat.le_refl _))
  clear bb HK11
  have ht := (bk_new w12 24 ([.int .i64 0, .int .i64 0, .int .u32 0, .string ⟨#[]⟩] : List Value).toArray).there Y2.toArray.size (by have := HL_Y2.out; simp; omega)
  go_upto_region 16 with (((with_reducible (change wpList _ _ _ _ _ _)); ((refine wpList_store_mid rfl 24 _ _ rfl (w12.heap.size) 0 Y2.toArray rfl rfl ht (by simpa using HI_Y2.out) HO_Y2.out ?_))))
  have HK13 := Lib.hid (HK12.out.put 24 ([.int .i64 0, .int .i64 0, .int .u32 0, .string ⟨#[]⟩] : List Value).toArray Y2 (by have := HL_Y2.out; simp; omega))
  clear ht HK12
  generalize (w12.alloc (.cells ([.int .i64 0, .int .i64 0, .int .u32 0, .string ⟨#[]⟩] : List Value).toArray 24)).setCells w12.heap.size 0 Y2 = w13 at *
  generalize w12.heap.size = g4 at *
  have c0 : w13.cell? ⟨w.heap.size, 0, none⟩ = some (.int .i64 8) := HK13.out.tl.tl.tl.tl.tl.hd.at HM0.out
  have c1 : w13.cell? ⟨w.heap.size, 1, none⟩ = some (.int .i64 m.cd) := HK13.out.tl.tl.tl.tl.tl.hd.at HM1.out
  have dg30 : w13.cell? ⟨g3, 0, none⟩ = some (.int .i64 kd4) := HK13.out.tl.hd.at HY1_0.out
  have dg40 : w13.cell? ⟨g4, 0, none⟩ = some (.int .i64 kd4) := HK13.out.hd.at HY2_0.out
  have dg31 : w13.cell? ⟨g3, 1, none⟩ = some (.int .i64 cd4) := HK13.out.tl.hd.at HY1_1.out
  have dg41 : w13.cell? ⟨g4, 1, none⟩ = some (.int .i64 cd4) := HK13.out.hd.at HY2_1.out
  have dg43 : w13.cell? ⟨g4, 3, none⟩ = some (.string d) := HK13.out.hd.at HY2_3.out
  go_wp2_with (fail)
  go_ret
  refine ⟨?_, HK13.out.2.1⟩
  first | rfl | (simp; done) | (simp; omega)
set_option maxRecDepth 100000 in
set_option maxHeartbeats 4000000 in
theorem data_s8tf (m : Mg) (r : Int) (d : ByteArray) (a b len : Int) (w : World) (hm : Hm w) (hr : 0 ≤ m.rs ∧ m.rs < 4294967296) (ir : 0 ≤ r ∧ r < 4294967296) (hd : ¬ (1000 : Int) < (m.da.size : Int)) (he : ¬ (1000 : Int) < (d.size : Int)) (h1 : m.kd = 8) (e6 : (six m a b len).2 = true) (e4 : (four m a b).2 = false) : Calls Tryd.prog 10 #[.agg m.vals.toArray, .int .u32 r, .string d, .int .i64 a, .int .i64 b, .int .i64 len] w (fun e w' => e = .returned (.bool true) ∧ Below w.heap.size w w') := by
  have HMB : Hid (∀ W, Below w.heap.size w W → Hm W) := Lib.hid (fun W hW => hm.below hW)
  obtain ⟨s1, s2, s3, s4, s5⟩ := six_data (kd := m.kd) (cd := m.cd) (r := m.rs) (q := r) (d := m.da) (e := d) (a := a) (b := b) (len := len) (by omega)
  rw [mg_eta] at s1 s2 s3 s5
  obtain ⟨f1, f2, f3, f4⟩ := four_data (kd := m.kd) (cd := m.cd) (r := m.rs) (q := r) (d := m.da) (e := d) (a := a) (b := b) (by omega)
  rw [mg_eta] at f1 f2 f3
  obtain ⟨X1, hX1⟩ : ∃ V, V = (six m a b len).1.vals := ⟨_, rfl⟩
  have HI_X1 : Hid ((Tryd.prog.info? 24).map (·.size) = some X1.length) := Lib.hid (by rw [hX1]; exact Tryd.infoMg _)
  have HO_X1 : Hid (X1.toArray.all (·.oneCell') = true) := Lib.hid (by rw [hX1]; exact mg_one _)
  have HL_X1 : Hid (X1.length = 4) := Lib.hid (by rw [hX1]; rfl)
  obtain ⟨X2, hX2⟩ : ∃ V, V = (six (⟨m.kd, m.cd, r, d⟩ : Mg) a b len).1.vals := ⟨_, rfl⟩
  have HI_X2 : Hid ((Tryd.prog.info? 24).map (·.size) = some X2.length) := Lib.hid (by rw [hX2]; exact Tryd.infoMg _)
  have HO_X2 : Hid (X2.toArray.all (·.oneCell') = true) := Lib.hid (by rw [hX2]; exact mg_one _)
  have HL_X2 : Hid (X2.length = 4) := Lib.hid (by rw [hX2]; rfl)
  obtain ⟨Y1, hY1⟩ : ∃ V, V = (four m a b).1.vals := ⟨_, rfl⟩
  have HI_Y1 : Hid ((Tryd.prog.info? 24).map (·.size) = some Y1.length) := Lib.hid (by rw [hY1]; exact Tryd.infoMg _)
  have HO_Y1 : Hid (Y1.toArray.all (·.oneCell') = true) := Lib.hid (by rw [hY1]; exact mg_one _)
  have HL_Y1 : Hid (Y1.length = 4) := Lib.hid (by rw [hY1]; rfl)
  obtain ⟨Y2, hY2⟩ : ∃ V, V = (four (⟨m.kd, m.cd, r, d⟩ : Mg) a b).1.vals := ⟨_, rfl⟩
  have HI_Y2 : Hid ((Tryd.prog.info? 24).map (·.size) = some Y2.length) := Lib.hid (by rw [hY2]; exact Tryd.infoMg _)
  have HO_Y2 : Hid (Y2.toArray.all (·.oneCell') = true) := Lib.hid (by rw [hY2]; exact mg_one _)
  have HL_Y2 : Hid (Y2.length = 4) := Lib.hid (by rw [hY2]; rfl)
  have CA : Hid (∀ W, Below w.heap.size w W → Calls Tryd.prog 11 #[.agg m.vals.toArray, .int .i64 a, .int .i64 b, .int .i64 len] W (fun e w' => e = .returned (.tuple #[.agg X1.toArray, .bool true]) ∧ Below W.heap.size W w')) := Lib.hid (fun W hW => by have hmW := HMB.out W hW; rw [hX1, ← e6]; exact psix_any m a b len W hr)
  have CB : Hid (∀ W, Below w.heap.size w W → Calls Tryd.prog 11 #[.agg (⟨m.kd, m.cd, r, d⟩ : Mg).vals.toArray, .int .i64 a, .int .i64 b, .int .i64 len] W (fun e w' => e = .returned (.tuple #[.agg X2.toArray, .bool true]) ∧ Below W.heap.size W w')) := Lib.hid (fun W hW => by have hmW := HMB.out W hW; rw [hX2, ← e6, s1]; exact psix_any (⟨m.kd, m.cd, r, d⟩ : Mg) a b len W ir)
  have CC : Hid (∀ W, Calls Tryd.prog 12 #[.agg m.vals.toArray, .int .i64 a, .int .i64 b] W (fun e w' => e = .returned (.tuple #[.agg Y1.toArray, .bool false]) ∧ Below W.heap.size W w')) := Lib.hid (fun W => by rw [hY1, ← e4]; exact pfour_any m a b W hr)
  have CD : Hid (∀ W, Calls Tryd.prog 12 #[.agg (⟨m.kd, m.cd, r, d⟩ : Mg).vals.toArray, .int .i64 a, .int .i64 b] W (fun e w' => e = .returned (.tuple #[.agg Y2.toArray, .bool false]) ∧ Below W.heap.size W w')) := Lib.hid (fun W => by rw [hY2, ← e4, f1]; exact pfour_any (⟨m.kd, m.cd, r, d⟩ : Mg) a b W ir)
  have s4' := s4 (s1 ▸ e6)
  have HX1_0 : Hid (X1[0]? = some (.int .i64 (six m a b len).1.kd)) := Lib.hid (by rw [hX1]; rfl)
  have HX2_0 : Hid (X2[0]? = some (.int .i64 (six m a b len).1.kd)) := Lib.hid (by rw [hX2, s2]; rfl)
  have HX1_1 : Hid (X1[1]? = some (.int .i64 (six m a b len).1.cd)) := Lib.hid (by rw [hX1]; rfl)
  have HX2_1 : Hid (X2[1]? = some (.int .i64 (six m a b len).1.cd)) := Lib.hid (by rw [hX2, s3]; rfl)
  have HX1_2 : Hid (X1[2]? = some (.int .u32 (six m a b len).1.rs)) := Lib.hid (by rw [hX1]; rfl)
  have HX2_2 : Hid (X2[2]? = some (.int .u32 (six (⟨m.kd, m.cd, r, d⟩ : Mg) a b len).1.rs)) := Lib.hid (by rw [hX2]; rfl)
  have HX2_3 : Hid (X2[3]? = some (.string d)) := Lib.hid (by rw [hX2]; exact congrArg (fun x => some (Value.string x)) s4')
  have HY1_0 : Hid (Y1[0]? = some (.int .i64 (four m a b).1.kd)) := Lib.hid (by rw [hY1]; rfl)
  have HY2_0 : Hid (Y2[0]? = some (.int .i64 (four m a b).1.kd)) := Lib.hid (by rw [hY2, f2]; rfl)
  have HY1_1 : Hid (Y1[1]? = some (.int .i64 (four m a b).1.cd)) := Lib.hid (by rw [hY1]; rfl)
  have HY2_1 : Hid (Y2[1]? = some (.int .i64 (four m a b).1.cd)) := Lib.hid (by rw [hY2, f3]; rfl)
  clear hX1 hX2 hY1 hY2 s1 s2 s3 s4 s5 f1 f2 f3 f4 s4'
  clear e6
  clear e4
  generalize (six m a b len).1.kd = kd6 at *
  generalize (six m a b len).1.cd = cd6 at *
  generalize (six m a b len).1.rs = rs6 at *
  generalize (four m a b).1.kd = kd4 at *
  generalize (four m a b).1.cd = cd4 at *
  generalize (six (⟨m.kd, m.cd, r, d⟩ : Mg) a b len).1.rs = rs6' at *
  have HQ0 := Lib.hid h1
  have HE2 := Lib.hid (nm_vals2 m r)
  have HE3 := Lib.hid (nm_vals3 m r d)
  have HI_N2 : Hid ((Tryd.prog.info? 24).map (·.size) = some (⟨m.kd, m.cd, r, m.da⟩ : Mg).vals.length) := Lib.hid (Tryd.infoMg _)
  have HL_N2 : Hid ((⟨m.kd, m.cd, r, m.da⟩ : Mg).vals.length = 4) := Lib.hid rfl
  have HI_N3 : Hid ((Tryd.prog.info? 24).map (·.size) = some (⟨m.kd, m.cd, r, d⟩ : Mg).vals.length) := Lib.hid (Tryd.infoMg _)
  generalize (⟨m.kd, m.cd, r, m.da⟩ : Mg).vals = N2 at *
  generalize (⟨m.kd, m.cd, r, d⟩ : Mg).vals = N3 at *
  have HI_VM : Hid ((Tryd.prog.info? 24).map (·.size) = some m.vals.length) := Lib.hid (Tryd.infoMg _)
  have HO_VM : Hid (m.vals.toArray.all (·.oneCell') = true) := Lib.hid (mg_one _)
  have HL_VM : Hid (m.vals.length = 4) := Lib.hid rfl
  have HM0 : Hid (m.vals[0]? = some (.int .i64 8)) := Lib.hid (by rw [← HQ0.out]; rfl)
  have HM1 : Hid (m.vals[1]? = some (.int .i64 m.cd)) := Lib.hid (rfl)
  have HM2 : Hid (m.vals[2]? = some (.int .u32 m.rs)) := Lib.hid (rfl)
  have HM3 : Hid (m.vals[3]? = some (.string m.da)) := Lib.hid (rfl)
  have HK1 : Hid (Kp w w.heap.size [(w.heap.size, 24, m.vals)] (w.alloc (.cells m.vals.toArray 24))) := Lib.hid ((Kp.start w).new 24 m.vals)
  clear h1
  generalize m.vals = VM at *
  generalize hw1 : w.alloc (.cells VM.toArray 24) = w1 at *
  go_enter Tryd.func10, Tryd.ntmps10
  go_upto_region 1 with (fail)
  clear hw1
  go_wp2_with (fail)
  refine (awake14_true _ (HMB.out _ HK1.out.2.1)).mono ?_
  rintro e w2 ⟨rfl, bb⟩
  have HK2 := Lib.hid (HK1.out.below bb (Nat.le_refl _))
  clear bb HK1
  have c3 : w2.cell? ⟨w.heap.size, 3, none⟩ = some (.string m.da) := HK2.out.hd.at HM3.out
  go_upto_region 5 with (fail)
  clear c3
  have HG9 : Hid (w.heap.size < w2.heap.size) := Lib.hid HK2.out.hd.lt
  have hr0 := HK2.out.hd.range
  have ht := (bk_new w2 24 ([.int .i64 0, .int .i64 0, .int .u32 0, .string ⟨#[]⟩] : List Value).toArray).there VM.toArray.size (by have := HL_VM.out; simp; omega)
  go_upto_region 6 with (((with_reducible (change wpList _ _ _ _ _ _)); (first | (refine wpList_load_mid rfl 24 _ rfl (w.heap.size) 0 rfl (VM) _ hr0 Tryd.underlying24 rfl HI_VM.out ?_) | (refine wpList_store_mid rfl 24 _ _ rfl (w2.heap.size) 0 VM.toArray rfl rfl ht (by simpa using HI_VM.out) HO_VM.out ?_))))
  have HK3 := Lib.hid (HK2.out.put 24 ([.int .i64 0, .int .i64 0, .int .u32 0, .string ⟨#[]⟩] : List Value).toArray VM (by have := HL_VM.out; simp; omega))
  clear ht HK2
  generalize (w2.alloc (.cells ([.int .i64 0, .int .i64 0, .int .u32 0, .string ⟨#[]⟩] : List Value).toArray 24)).setCells w2.heap.size 0 VM = w3 at *
  generalize w2.heap.size = g9 at *
  clear hr0
  have hne : ∀ x ∈ ([(w.heap.size, 24, VM)] : List (Nat × TypeId × List Value)), x.1 ≠ g9 := by
    have hg := HG9.out
    intro x hx
    simp only [List.mem_cons, List.not_mem_nil, or_false] at hx
    rcases hx with rfl
    show _ ≠ g9
    omega
  have hgB : w.heap.size ≤ g9 := by have := HG9.out; omega
  have HNE := Lib.hid (And.intro hne hgB)
  clear hne hgB
  obtain ⟨uu, hu, hz⟩ := HK3.out.some1 2 (by have := HL_VM.out; omega)
  go_upto_region 7 with (fail)
  have hk := HK3.out.set1 HNE.out.1 HNE.out.2 2 (.int .u32 r)
  rw [HE2.out] at hk
  have HK4 := Lib.hid hk
  clear hk hu hz HK3
  generalize w3.setCell ⟨g9, 2, none⟩ (.int .u32 r) = w4 at *
  obtain ⟨uu, hu, hz⟩ := HK4.out.some1 3 (by have := HL_N2.out; omega)
  go_upto_region 8 with (fail)
  have hk := HK4.out.set1 HNE.out.1 HNE.out.2 3 (.string d)
  rw [HE3.out] at hk
  have HK5 := Lib.hid hk
  clear hk hu hz HK4
  generalize w4.setCell ⟨g9, 3, none⟩ (.string d) = w5 at *
  have hr0 := HK5.out.tl.hd.range
  go_wp2_with (((with_reducible (change wpList _ _ _ _ _ _)); ((refine wpList_load_mid rfl 24 _ rfl (w.heap.size) 0 rfl (VM) _ hr0 Tryd.underlying24 rfl HI_VM.out ?_))))
  clear hr0
  refine (CA.out _ HK5.out.2.1).mono ?_
  rintro e w6 ⟨rfl, bb⟩
  have HK6 := Lib.hid (HK5.out.below bb (Nat.le_refl _))
  clear bb HK5
  have ht := (bk_new w6 24 ([.int .i64 0, .int .i64 0, .int .u32 0, .string ⟨#[]⟩] : List Value).toArray).there X1.toArray.size (by have := HL_X1.out; simp; omega)
  go_upto_region 9 with (((with_reducible (change wpList _ _ _ _ _ _)); ((refine wpList_store_mid rfl 24 _ _ rfl (w6.heap.size) 0 X1.toArray rfl rfl ht (by simpa using HI_X1.out) HO_X1.out ?_))))
  have HK7 := Lib.hid (HK6.out.put 24 ([.int .i64 0, .int .i64 0, .int .u32 0, .string ⟨#[]⟩] : List Value).toArray X1 (by have := HL_X1.out; simp; omega))
  clear ht HK6
  generalize (w6.alloc (.cells ([.int .i64 0, .int .i64 0, .int .u32 0, .string ⟨#[]⟩] : List Value).toArray 24)).setCells w6.heap.size 0 X1 = w7 at *
  generalize w6.heap.size = g1 at *
  have hr0 := HK7.out.tl.hd.range
  go_wp2_with (((with_reducible (change wpList _ _ _ _ _ _)); ((refine wpList_load_mid rfl 24 _ rfl (g9) 0 rfl (N3) _ hr0 Tryd.underlying24 rfl HI_N3.out ?_))))
  clear hr0
  refine (CB.out _ HK7.out.2.1).mono ?_
  rintro e w8 ⟨rfl, bb⟩
  have HK8 := Lib.hid (HK7.out.below bb (Nat.le_refl _))
  clear bb HK7
  have ht := (bk_new w8 24 ([.int .i64 0, .int .i64 0, .int .u32 0, .string ⟨#[]⟩] : List Value).toArray).there X2.toArray.size (by have := HL_X2.out; simp; omega)
  go_upto_region 10 with (((with_reducible (change wpList _ _ _ _ _ _)); ((refine wpList_store_mid rfl 24 _ _ rfl (w8.heap.size) 0 X2.toArray rfl rfl ht (by simpa using HI_X2.out) HO_X2.out ?_))))
  have HK9 := Lib.hid (HK8.out.put 24 ([.int .i64 0, .int .i64 0, .int .u32 0, .string ⟨#[]⟩] : List Value).toArray X2 (by have := HL_X2.out; simp; omega))
  clear ht HK8
  generalize (w8.alloc (.cells ([.int .i64 0, .int .i64 0, .int .u32 0, .string ⟨#[]⟩] : List Value).toArray 24)).setCells w8.heap.size 0 X2 = w9 at *
  generalize w8.heap.size = g2 at *
  have c0 : w9.cell? ⟨w.heap.size, 0, none⟩ = some (.int .i64 8) := HK9.out.tl.tl.tl.hd.at HM0.out
  have c1 : w9.cell? ⟨w.heap.size, 1, none⟩ = some (.int .i64 m.cd) := HK9.out.tl.tl.tl.hd.at HM1.out
  have dg10 : w9.cell? ⟨g1, 0, none⟩ = some (.int .i64 kd6) := HK9.out.tl.hd.at HX1_0.out
  have dg20 : w9.cell? ⟨g2, 0, none⟩ = some (.int .i64 kd6) := HK9.out.hd.at HX2_0.out
  have dg11 : w9.cell? ⟨g1, 1, none⟩ = some (.int .i64 cd6) := HK9.out.tl.hd.at HX1_1.out
  have dg21 : w9.cell? ⟨g2, 1, none⟩ = some (.int .i64 cd6) := HK9.out.hd.at HX2_1.out
  have dg12 : w9.cell? ⟨g1, 2, none⟩ = some (.int .u32 rs6) := HK9.out.tl.hd.at HX1_2.out
  have dg22 : w9.cell? ⟨g2, 2, none⟩ = some (.int .u32 rs6') := HK9.out.hd.at HX2_2.out
  have dg23 : w9.cell? ⟨g2, 3, none⟩ = some (.string d) := HK9.out.hd.at HX2_3.out
  go_upto_region 12 with (fail)
  go_upto_region 14 with (fail)
  clear c0 c1 dg10 dg20 dg11 dg21 dg12 dg22 dg23
  have hr0 := HK9.out.tl.tl.tl.hd.range
  go_wp2_with (((with_reducible (change wpList _ _ _ _ _ _)); ((refine wpList_load_mid rfl 24 _ rfl (w.heap.size) 0 rfl (VM) _ hr0 Tryd.underlying24 rfl HI_VM.out ?_))))
  clear hr0
  refine (CC.out _).mono ?_
  rintro e w10 ⟨rfl, bb⟩
  have HK10 := Lib.hid (HK9.out.below bb (Nat.le_refl _))
  clear bb HK9
  have ht := (bk_new w10 24 ([.int .i64 0, .int .i64 0, .int .u32 0, .string ⟨#[]⟩] : List Value).toArray).there Y1.toArray.size (by have := HL_Y1.out; simp; omega)
  go_upto_region 15 with (((with_reducible (change wpList _ _ _ _ _ _)); ((refine wpList_store_mid rfl 24 _ _ rfl (w10.heap.size) 0 Y1.toArray rfl rfl ht (by simpa using HI_Y1.out) HO_Y1.out ?_))))
  have HK11 := Lib.hid (HK10.out.put 24 ([.int .i64 0, .int .i64 0, .int .u32 0, .string ⟨#[]⟩] : List Value).toArray Y1 (by have := HL_Y1.out; simp; omega))
  clear ht HK10
  generalize (w10.alloc (.cells ([.int .i64 0, .int .i64 0, .int .u32 0, .string ⟨#[]⟩] : List Value).toArray 24)).setCells w10.heap.size 0 Y1 = w11 at *
  generalize w10.heap.size = g3 at *
  have hr0 := HK11.out.tl.tl.tl.hd.range
  go_wp2_with (((with_reducible (change wpList _ _ _ _ _ _)); ((refine wpList_load_mid rfl 24 _ rfl (g9) 0 rfl (N3) _ hr0 Tryd.underlying24 rfl HI_N3.out ?_))))
  clear hr0
  refine (CD.out _).mono ?_
  rintro e w12 ⟨rfl, bb⟩
  have HK12 := Lib.hid (HK11.out.below bb (Nat.le_refl _))
  clear bb HK11
  have ht := (bk_new w12 24 ([.int .i64 0, .int .i64 0, .int .u32 0, .string ⟨#[]⟩] : List Value).toArray).there Y2.toArray.size (by have := HL_Y2.out; simp; omega)
  go_upto_region 16 with (((with_reducible (change wpList _ _ _ _ _ _)); ((refine wpList_store_mid rfl 24 _ _ rfl (w12.heap.size) 0 Y2.toArray rfl rfl ht (by simpa using HI_Y2.out) HO_Y2.out ?_))))
  have HK13 := Lib.hid (HK12.out.put 24 ([.int .i64 0, .int .i64 0, .int .u32 0, .string ⟨#[]⟩] : List Value).toArray Y2 (by have := HL_Y2.out; simp; omega))
  clear ht HK12
  generalize (w12.alloc (.cells ([.int .i64 0, .int .i64 0, .int .u32 0, .string ⟨#[]⟩] : List Value).toArray 24)).setCells w12.heap.size 0 Y2 = w13 at *
  generalize w12.heap.size = g4 at *
  have c0 : w13.cell? ⟨w.heap.size, 0, none⟩ = some (.int .i64 8) := HK13.out.tl.tl.tl.tl.tl.hd.at HM0.out
  have c1 : w13.cell? ⟨w.heap.size, 1, none⟩ = some (.int .i64 m.cd) := HK13.out.tl.tl.tl.tl.tl.hd.at HM1.out
  have dg30 : w13.cell? ⟨g3, 0, none⟩ = some (.int .i64 kd4) := HK13.out.tl.hd.at HY1_0.out
  have dg40 : w13.cell? ⟨g4, 0, none⟩ = some (.int .i64 kd4) := HK13.out.hd.at HY2_0.out
  have dg31 : w13.cell? ⟨g3, 1, none⟩ = some (.int .i64 cd4) := HK13.out.tl.hd.at HY1_1.out
  have dg41 : w13.cell? ⟨g4, 1, none⟩ = some (.int .i64 cd4) := HK13.out.hd.at HY2_1.out
  go_wp2_with (fail)
  go_ret
  refine ⟨?_, HK13.out.2.1⟩
  first | rfl | (simp; done) | (simp; omega)
set_option maxRecDepth 100000 in
set_option maxHeartbeats 4000000 in
theorem data_s8ft (m : Mg) (r : Int) (d : ByteArray) (a b len : Int) (w : World) (hm : Hm w) (hr : 0 ≤ m.rs ∧ m.rs < 4294967296) (ir : 0 ≤ r ∧ r < 4294967296) (hd : ¬ (1000 : Int) < (m.da.size : Int)) (he : ¬ (1000 : Int) < (d.size : Int)) (h1 : m.kd = 8) (e6 : (six m a b len).2 = false) (e4 : (four m a b).2 = true) : Calls Tryd.prog 10 #[.agg m.vals.toArray, .int .u32 r, .string d, .int .i64 a, .int .i64 b, .int .i64 len] w (fun e w' => e = .returned (.bool true) ∧ Below w.heap.size w w') := by
  have HMB : Hid (∀ W, Below w.heap.size w W → Hm W) := Lib.hid (fun W hW => hm.below hW)
  obtain ⟨s1, s2, s3, s4, s5⟩ := six_data (kd := m.kd) (cd := m.cd) (r := m.rs) (q := r) (d := m.da) (e := d) (a := a) (b := b) (len := len) (by omega)
  rw [mg_eta] at s1 s2 s3 s5
  obtain ⟨f1, f2, f3, f4⟩ := four_data (kd := m.kd) (cd := m.cd) (r := m.rs) (q := r) (d := m.da) (e := d) (a := a) (b := b) (by omega)
  rw [mg_eta] at f1 f2 f3
  obtain ⟨X1, hX1⟩ : ∃ V, V = (six m a b len).1.vals := ⟨_, rfl⟩
  have HI_X1 : Hid ((Tryd.prog.info? 24).map (·.size) = some X1.length) := Lib.hid (by rw [hX1]; exact Tryd.infoMg _)
  have HO_X1 : Hid (X1.toArray.all (·.oneCell') = true) := Lib.hid (by rw [hX1]; exact mg_one _)
  have HL_X1 : Hid (X1.length = 4) := Lib.hid (by rw [hX1]; rfl)
  obtain ⟨X2, hX2⟩ : ∃ V, V = (six (⟨m.kd, m.cd, r, d⟩ : Mg) a b len).1.vals := ⟨_, rfl⟩
  have HI_X2 : Hid ((Tryd.prog.info? 24).map (·.size) = some X2.length) := Lib.hid (by rw [hX2]; exact Tryd.infoMg _)
  have HO_X2 : Hid (X2.toArray.all (·.oneCell') = true) := Lib.hid (by rw [hX2]; exact mg_one _)
  have HL_X2 : Hid (X2.length = 4) := Lib.hid (by rw [hX2]; rfl)
  obtain ⟨Y1, hY1⟩ : ∃ V, V = (four m a b).1.vals := ⟨_, rfl⟩
  have HI_Y1 : Hid ((Tryd.prog.info? 24).map (·.size) = some Y1.length) := Lib.hid (by rw [hY1]; exact Tryd.infoMg _)
  have HO_Y1 : Hid (Y1.toArray.all (·.oneCell') = true) := Lib.hid (by rw [hY1]; exact mg_one _)
  have HL_Y1 : Hid (Y1.length = 4) := Lib.hid (by rw [hY1]; rfl)
  obtain ⟨Y2, hY2⟩ : ∃ V, V = (four (⟨m.kd, m.cd, r, d⟩ : Mg) a b).1.vals := ⟨_, rfl⟩
  have HI_Y2 : Hid ((Tryd.prog.info? 24).map (·.size) = some Y2.length) := Lib.hid (by rw [hY2]; exact Tryd.infoMg _)
  have HO_Y2 : Hid (Y2.toArray.all (·.oneCell') = true) := Lib.hid (by rw [hY2]; exact mg_one _)
  have HL_Y2 : Hid (Y2.length = 4) := Lib.hid (by rw [hY2]; rfl)
  have CA : Hid (∀ W, Below w.heap.size w W → Calls Tryd.prog 11 #[.agg m.vals.toArray, .int .i64 a, .int .i64 b, .int .i64 len] W (fun e w' => e = .returned (.tuple #[.agg X1.toArray, .bool false]) ∧ Below W.heap.size W w')) := Lib.hid (fun W hW => by have hmW := HMB.out W hW; rw [hX1, ← e6]; exact psix_any m a b len W hr)
  have CB : Hid (∀ W, Below w.heap.size w W → Calls Tryd.prog 11 #[.agg (⟨m.kd, m.cd, r, d⟩ : Mg).vals.toArray, .int .i64 a, .int .i64 b, .int .i64 len] W (fun e w' => e = .returned (.tuple #[.agg X2.toArray, .bool false]) ∧ Below W.heap.size W w')) := Lib.hid (fun W hW => by have hmW := HMB.out W hW; rw [hX2, ← e6, s1]; exact psix_any (⟨m.kd, m.cd, r, d⟩ : Mg) a b len W ir)
  have CC : Hid (∀ W, Calls Tryd.prog 12 #[.agg m.vals.toArray, .int .i64 a, .int .i64 b] W (fun e w' => e = .returned (.tuple #[.agg Y1.toArray, .bool true]) ∧ Below W.heap.size W w')) := Lib.hid (fun W => by rw [hY1, ← e4]; exact pfour_any m a b W hr)
  have CD : Hid (∀ W, Calls Tryd.prog 12 #[.agg (⟨m.kd, m.cd, r, d⟩ : Mg).vals.toArray, .int .i64 a, .int .i64 b] W (fun e w' => e = .returned (.tuple #[.agg Y2.toArray, .bool true]) ∧ Below W.heap.size W w')) := Lib.hid (fun W => by rw [hY2, ← e4, f1]; exact pfour_any (⟨m.kd, m.cd, r, d⟩ : Mg) a b W ir)
  have f4' := f4 (f1 ▸ e4)
  have HX1_0 : Hid (X1[0]? = some (.int .i64 (six m a b len).1.kd)) := Lib.hid (by rw [hX1]; rfl)
  have HX2_0 : Hid (X2[0]? = some (.int .i64 (six m a b len).1.kd)) := Lib.hid (by rw [hX2, s2]; rfl)
  have HX1_1 : Hid (X1[1]? = some (.int .i64 (six m a b len).1.cd)) := Lib.hid (by rw [hX1]; rfl)
  have HX2_1 : Hid (X2[1]? = some (.int .i64 (six m a b len).1.cd)) := Lib.hid (by rw [hX2, s3]; rfl)
  have HX1_2 : Hid (X1[2]? = some (.int .u32 (six m a b len).1.rs)) := Lib.hid (by rw [hX1]; rfl)
  have HX2_2 : Hid (X2[2]? = some (.int .u32 (six (⟨m.kd, m.cd, r, d⟩ : Mg) a b len).1.rs)) := Lib.hid (by rw [hX2]; rfl)
  have HY1_0 : Hid (Y1[0]? = some (.int .i64 (four m a b).1.kd)) := Lib.hid (by rw [hY1]; rfl)
  have HY2_0 : Hid (Y2[0]? = some (.int .i64 (four m a b).1.kd)) := Lib.hid (by rw [hY2, f2]; rfl)
  have HY1_1 : Hid (Y1[1]? = some (.int .i64 (four m a b).1.cd)) := Lib.hid (by rw [hY1]; rfl)
  have HY2_1 : Hid (Y2[1]? = some (.int .i64 (four m a b).1.cd)) := Lib.hid (by rw [hY2, f3]; rfl)
  have HY2_3 : Hid (Y2[3]? = some (.string d)) := Lib.hid (by rw [hY2]; exact congrArg (fun x => some (Value.string x)) f4')
  clear hX1 hX2 hY1 hY2 s1 s2 s3 s4 s5 f1 f2 f3 f4 f4'
  clear e6
  clear e4
  generalize (six m a b len).1.kd = kd6 at *
  generalize (six m a b len).1.cd = cd6 at *
  generalize (six m a b len).1.rs = rs6 at *
  generalize (four m a b).1.kd = kd4 at *
  generalize (four m a b).1.cd = cd4 at *
  generalize (six (⟨m.kd, m.cd, r, d⟩ : Mg) a b len).1.rs = rs6' at *
  have HQ0 := Lib.hid h1
  have HE2 := Lib.hid (nm_vals2 m r)
  have HE3 := Lib.hid (nm_vals3 m r d)
  have HI_N2 : Hid ((Tryd.prog.info? 24).map (·.size) = some (⟨m.kd, m.cd, r, m.da⟩ : Mg).vals.length) := Lib.hid (Tryd.infoMg _)
  have HL_N2 : Hid ((⟨m.kd, m.cd, r, m.da⟩ : Mg).vals.length = 4) := Lib.hid rfl
  have HI_N3 : Hid ((Tryd.prog.info? 24).map (·.size) = some (⟨m.kd, m.cd, r, d⟩ : Mg).vals.length) := Lib.hid (Tryd.infoMg _)
  generalize (⟨m.kd, m.cd, r, m.da⟩ : Mg).vals = N2 at *
  generalize (⟨m.kd, m.cd, r, d⟩ : Mg).vals = N3 at *
  have HI_VM : Hid ((Tryd.prog.info? 24).map (·.size) = some m.vals.length) := Lib.hid (Tryd.infoMg _)
  have HO_VM : Hid (m.vals.toArray.all (·.oneCell') = true) := Lib.hid (mg_one _)
  have HL_VM : Hid (m.vals.length = 4) := Lib.hid rfl
  have HM0 : Hid (m.vals[0]? = some (.int .i64 8)) := Lib.hid (by rw [← HQ0.out]; rfl)
  have HM1 : Hid (m.vals[1]? = some (.int .i64 m.cd)) := Lib.hid (rfl)
  have HM2 : Hid (m.vals[2]? = some (.int .u32 m.rs)) := Lib.hid (rfl)
  have HM3 : Hid (m.vals[3]? = some (.string m.da)) := Lib.hid (rfl)
  have HK1 : Hid (Kp w w.heap.size [(w.heap.size, 24, m.vals)] (w.alloc (.cells m.vals.toArray 24))) := Lib.hid ((Kp.start w).new 24 m.vals)
  clear h1
  generalize m.vals = VM at *
  generalize hw1 : w.alloc (.cells VM.toArray 24) = w1 at *
  go_enter Tryd.func10, Tryd.ntmps10
  go_upto_region 1 with (fail)
  clear hw1
  go_wp2_with (fail)
  refine (awake14_true _ (HMB.out _ HK1.out.2.1)).mono ?_
  rintro e w2 ⟨rfl, bb⟩
  have HK2 := Lib.hid (HK1.out.below bb (Nat.le_refl _))
  clear bb HK1
  have c3 : w2.cell? ⟨w.heap.size, 3, none⟩ = some (.string m.da) := HK2.out.hd.at HM3.out
  go_upto_region 5 with (fail)
  clear c3
  have HG9 : Hid (w.heap.size < w2.heap.size) := Lib.hid HK2.out.hd.lt
  have hr0 := HK2.out.hd.range
  have ht := (bk_new w2 24 ([.int .i64 0, .int .i64 0, .int .u32 0, .string ⟨#[]⟩] : List Value).toArray).there VM.toArray.size (by have := HL_VM.out; simp; omega)
  go_upto_region 6 with (((with_reducible (change wpList _ _ _ _ _ _)); (first | (refine wpList_load_mid rfl 24 _ rfl (w.heap.size) 0 rfl (VM) _ hr0 Tryd.underlying24 rfl HI_VM.out ?_) | (refine wpList_store_mid rfl 24 _ _ rfl (w2.heap.size) 0 VM.toArray rfl rfl ht (by simpa using HI_VM.out) HO_VM.out ?_))))
  have HK3 := Lib.hid (HK2.out.put 24 ([.int .i64 0, .int .i64 0, .int .u32 0, .string ⟨#[]⟩] : List Value).toArray VM (by have := HL_VM.out; simp; omega))
  clear ht HK2
  generalize (w2.alloc (.cells ([.int .i64 0, .int .i64 0, .int .u32 0, .string ⟨#[]⟩] : List Value).toArray 24)).setCells w2.heap.size 0 VM = w3 at *
  generalize w2.heap.size = g9 at *
  clear hr0
  have hne : ∀ x ∈ ([(w.heap.size, 24, VM)] : List (Nat × TypeId × List Value)), x.1 ≠ g9 := by
    have hg := HG9.out
    intro x hx
    simp only [List.mem_cons, List.not_mem_nil, or_false] at hx
    rcases hx with rfl
    show _ ≠ g9
    omega
  have hgB : w.heap.size ≤ g9 := by have := HG9.out; omega
  have HNE := Lib.hid (And.intro hne hgB)
  clear hne hgB
  obtain ⟨uu, hu, hz⟩ := HK3.out.some1 2 (by have := HL_VM.out; omega)
  go_upto_region 7 with (fail)
  have hk := HK3.out.set1 HNE.out.1 HNE.out.2 2 (.int .u32 r)
  rw [HE2.out] at hk
  have HK4 := Lib.hid hk
  clear hk hu hz HK3
  generalize w3.setCell ⟨g9, 2, none⟩ (.int .u32 r) = w4 at *
  obtain ⟨uu, hu, hz⟩ := HK4.out.some1 3 (by have := HL_N2.out; omega)
  go_upto_region 8 with (fail)
  have hk := HK4.out.set1 HNE.out.1 HNE.out.2 3 (.string d)
  rw [HE3.out] at hk
  have HK5 := Lib.hid hk
  clear hk hu hz HK4
  generalize w4.setCell ⟨g9, 3, none⟩ (.string d) = w5 at *
  have hr0 := HK5.out.tl.hd.range
  go_wp2_with (((with_reducible (change wpList _ _ _ _ _ _)); ((refine wpList_load_mid rfl 24 _ rfl (w.heap.size) 0 rfl (VM) _ hr0 Tryd.underlying24 rfl HI_VM.out ?_))))
  clear hr0
  refine (CA.out _ HK5.out.2.1).mono ?_
  rintro e w6 ⟨rfl, bb⟩
  have HK6 := Lib.hid (HK5.out.below bb (Nat.le_refl _))
  clear bb HK5
  have ht := (bk_new w6 24 ([.int .i64 0, .int .i64 0, .int .u32 0, .string ⟨#[]⟩] : List Value).toArray).there X1.toArray.size (by have := HL_X1.out; simp; omega)
  go_upto_region 9 with (((with_reducible (change wpList _ _ _ _ _ _)); ((refine wpList_store_mid rfl 24 _ _ rfl (w6.heap.size) 0 X1.toArray rfl rfl ht (by simpa using HI_X1.out) HO_X1.out ?_))))
  have HK7 := Lib.hid (HK6.out.put 24 ([.int .i64 0, .int .i64 0, .int .u32 0, .string ⟨#[]⟩] : List Value).toArray X1 (by have := HL_X1.out; simp; omega))
  clear ht HK6
  generalize (w6.alloc (.cells ([.int .i64 0, .int .i64 0, .int .u32 0, .string ⟨#[]⟩] : List Value).toArray 24)).setCells w6.heap.size 0 X1 = w7 at *
  generalize w6.heap.size = g1 at *
  have hr0 := HK7.out.tl.hd.range
  go_wp2_with (((with_reducible (change wpList _ _ _ _ _ _)); ((refine wpList_load_mid rfl 24 _ rfl (g9) 0 rfl (N3) _ hr0 Tryd.underlying24 rfl HI_N3.out ?_))))
  clear hr0
  refine (CB.out _ HK7.out.2.1).mono ?_
  rintro e w8 ⟨rfl, bb⟩
  have HK8 := Lib.hid (HK7.out.below bb (Nat.le_refl _))
  clear bb HK7
  have ht := (bk_new w8 24 ([.int .i64 0, .int .i64 0, .int .u32 0, .string ⟨#[]⟩] : List Value).toArray).there X2.toArray.size (by have := HL_X2.out; simp; omega)
  go_upto_region 10 with (((with_reducible (change wpList _ _ _ _ _ _)); ((refine wpList_store_mid rfl 24 _ _ rfl (w8.heap.size) 0 X2.toArray rfl rfl ht (by simpa using HI_X2.out) HO_X2.out ?_))))
  have HK9 := Lib.hid (HK8.out.put 24 ([.int .i64 0, .int .i64 0, .int .u32 0, .string ⟨#[]⟩] : List Value).toArray X2 (by have := HL_X2.out; simp; omega))
  clear ht HK8
  generalize (w8.alloc (.cells ([.int .i64 0, .int .i64 0, .int .u32 0, .string ⟨#[]⟩] : List Value).toArray 24)).setCells w8.heap.size 0 X2 = w9 at *
  generalize w8.heap.size = g2 at *
  have c0 : w9.cell? ⟨w.heap.size, 0, none⟩ = some (.int .i64 8) := HK9.out.tl.tl.tl.hd.at HM0.out
  have c1 : w9.cell? ⟨w.heap.size, 1, none⟩ = some (.int .i64 m.cd) := HK9.out.tl.tl.tl.hd.at HM1.out
  have dg10 : w9.cell? ⟨g1, 0, none⟩ = some (.int .i64 kd6) := HK9.out.tl.hd.at HX1_0.out
  have dg20 : w9.cell? ⟨g2, 0, none⟩ = some (.int .i64 kd6) := HK9.out.hd.at HX2_0.out
  have dg11 : w9.cell? ⟨g1, 1, none⟩ = some (.int .i64 cd6) := HK9.out.tl.hd.at HX1_1.out
  have dg21 : w9.cell? ⟨g2, 1, none⟩ = some (.int .i64 cd6) := HK9.out.hd.at HX2_1.out
  have dg12 : w9.cell? ⟨g1, 2, none⟩ = some (.int .u32 rs6) := HK9.out.tl.hd.at HX1_2.out
  have dg22 : w9.cell? ⟨g2, 2, none⟩ = some (.int .u32 rs6') := HK9.out.hd.at HX2_2.out
  go_upto_region 12 with (fail)
  go_upto_region 14 with (fail)
  clear c0 c1 dg10 dg20 dg11 dg21 dg12 dg22
  have hr0 := HK9.out.tl.tl.tl.hd.range
  go_wp2_with (((with_reducible (change wpList _ _ _ _ _ _)); ((refine wpList_load_mid rfl 24 _ rfl (w.heap.size) 0 rfl (VM) _ hr0 Tryd.underlying24 rfl HI_VM.out ?_))))
  clear hr0
  refine (CC.out _).mono ?_
  rintro e w10 ⟨rfl, bb⟩
  have HK10 := Lib.hid (HK9.out.below bb (Nat.le_refl _))
  clear bb HK9
  have ht := (bk_new w10 24 ([.int .i64 0, .int .i64 0, .int .u32 0, .string ⟨#[]⟩] : List Value).toArray).there Y1.toArray.size (by have := HL_Y1.out; simp; omega)
  go_upto_region 15 with (((with_reducible (change wpList _ _ _ _ _ _)); ((refine wpList_store_mid rfl 24 _ _ rfl (w10.heap.size) 0 Y1.toArray rfl rfl ht (by simpa using HI_Y1.out) HO_Y1.out ?_))))
  have HK11 := Lib.hid (HK10.out.put 24 ([.int .i64 0, .int .i64 0, .int .u32 0, .string ⟨#[]⟩] : List Value).toArray Y1 (by have := HL_Y1.out; simp; omega))
  clear ht HK10
  generalize (w10.alloc (.cells ([.int .i64 0, .int .i64 0, .int .u32 0, .string ⟨#[]⟩] : List Value).toArray 24)).setCells w10.heap.size 0 Y1 = w11 at *
  generalize w10.heap.size = g3 at *
  have hr0 := HK11.out.tl.tl.tl.hd.range
  go_wp2_with (((with_reducible (change wpList _ _ _ _ _ _)); ((refine wpList_load_mid rfl 24 _ rfl (g9) 0 rfl (N3) _ hr0 Tryd.underlying24 rfl HI_N3.out ?_))))
  clear hr0
  refine (CD.out _).mono ?_
  rintro e w12 ⟨rfl, bb⟩
  have HK12 := Lib.hid (HK11.out.below bb (Nat.le_refl _))
  clear bb HK11
  have ht := (bk_new w12 24 ([.int .i64 0, .int .i64 0, .int .u32 0, .string ⟨#[]⟩] : List Value).toArray).there Y2.toArray.size (by have := HL_Y2.out; simp; omega)
  go_upto_region 16 with (((with_reducible (change wpList _ _ _ _ _ _)); ((refine wpList_store_mid rfl 24 _ _ rfl (w12.heap.size) 0 Y2.toArray rfl rfl ht (by simpa using HI_Y2.out) HO_Y2.out ?_))))
  have HK13 := Lib.hid (HK12.out.put 24 ([.int .i64 0, .int .i64 0, .int .u32 0, .string ⟨#[]⟩] : List Value).toArray Y2 (by have := HL_Y2.out; simp; omega))
  clear ht HK12
  generalize (w12.alloc (.cells ([.int .i64 0, .int .i64 0, .int .u32 0, .string ⟨#[]⟩] : List Value).toArray 24)).setCells w12.heap.size 0 Y2 = w13 at *
  generalize w12.heap.size = g4 at *
  have c0 : w13.cell? ⟨w.heap.size, 0, none⟩ = some (.int .i64 8) := HK13.out.tl.tl.tl.tl.tl.hd.at HM0.out
  have c1 : w13.cell? ⟨w.heap.size, 1, none⟩ = some (.int .i64 m.cd) := HK13.out.tl.tl.tl.tl.tl.hd.at HM1.out
  have dg30 : w13.cell? ⟨g3, 0, none⟩ = some (.int .i64 kd4) := HK13.out.tl.hd.at HY1_0.out
  have dg40 : w13.cell? ⟨g4, 0, none⟩ = some (.int .i64 kd4) := HK13.out.hd.at HY2_0.out
  have dg31 : w13.cell? ⟨g3, 1, none⟩ = some (.int .i64 cd4) := HK13.out.tl.hd.at HY1_1.out
  have dg41 : w13.cell? ⟨g4, 1, none⟩ = some (.int .i64 cd4) := HK13.out.hd.at HY2_1.out
  have dg43 : w13.cell? ⟨g4, 3, none⟩ = some (.string d) := HK13.out.hd.at HY2_3.out
  go_wp2_with (fail)
  go_ret
  refine ⟨?_, HK13.out.2.1⟩
  first | rfl | (simp; done) | (simp; omega)
set_option maxRecDepth 100000 in
set_option maxHeartbeats 4000000 in
theorem data_s8ff (m : Mg) (r : Int) (d : ByteArray) (a b len : Int) (w : World) (hm : Hm w) (hr : 0 ≤ m.rs ∧ m.rs < 4294967296) (ir : 0 ≤ r ∧ r < 4294967296) (hd : ¬ (1000 : Int) < (m.da.size : Int)) (he : ¬ (1000 : Int) < (d.size : Int)) (h1 : m.kd = 8) (e6 : (six m a b len).2 = false) (e4 : (four m a b).2 = false) : Calls Tryd.prog 10 #[.agg m.vals.toArray, .int .u32 r, .string d, .int .i64 a, .int .i64 b, .int .i64 len] w (fun e w' => e = .returned (.bool true) ∧ Below w.heap.size w w') := by
  have HMB : Hid (∀ W, Below w.heap.size w W → Hm W) := Lib.hid (fun W hW => hm.below hW)
  obtain ⟨s1, s2, s3, s4, s5⟩ := six_data (kd := m.kd) (cd := m.cd) (r := m.rs) (q := r) (d := m.da) (e := d) (a := a) (b := b) (len := len) (by omega)
  rw [mg_eta] at s1 s2 s3 s5
  obtain ⟨f1, f2, f3, f4⟩ := four_data (kd := m.kd) (cd := m.cd) (r := m.rs) (q := r) (d := m.da) (e := d) (a := a) (b := b) (by omega)
  rw [mg_eta] at f1 f2 f3
  obtain ⟨X1, hX1⟩ : ∃ V, V = (six m a b len).1.vals := ⟨_, rfl⟩
  have HI_X1 : Hid ((Tryd.prog.info? 24).map (·.size) = some X1.length) := Lib.hid (by rw [hX1]; exact Tryd.infoMg _)
  have HO_X1 : Hid (X1.toArray.all (·.oneCell') = true) := Lib.hid (by rw [hX1]; exact mg_one _)
  have HL_X1 : Hid (X1.length = 4) := Lib.hid (by rw [hX1]; rfl)
  obtain ⟨X2, hX2⟩ : ∃ V, V = (six (⟨m.kd, m.cd, r, d⟩ : Mg) a b len).1.vals := ⟨_, rfl⟩
  have HI_X2 : Hid ((Tryd.prog.info? 24).map (·.size) = some X2.length) := Lib.hid (by rw [hX2]; exact Tryd.infoMg _)
  have HO_X2 : Hid (X2.toArray.all (·.oneCell') = true) := Lib.hid (by rw [hX2]; exact mg_one _)
  have HL_X2 : Hid (X2.length = 4) := Lib.hid (by rw [hX2]; rfl)
  obtain ⟨Y1, hY1⟩ : ∃ V, V = (four m a b).1.vals := ⟨_, rfl⟩
  have HI_Y1 : Hid ((Tryd.prog.info? 24).map (·.size) = some Y1.length) := Lib.hid (by rw [hY1]; exact Tryd.infoMg _)
  have HO_Y1 : Hid (Y1.toArray.all (·.oneCell') = true) := Lib.hid (by rw [hY1]; exact mg_one _)
  have HL_Y1 : Hid (Y1.length = 4) := Lib.hid (by rw [hY1]; rfl)
  obtain ⟨Y2, hY2⟩ : ∃ V, V = (four (⟨m.kd, m.cd, r, d⟩ : Mg) a b).1.vals := ⟨_, rfl⟩
  have HI_Y2 : Hid ((Tryd.prog.info? 24).map (·.size) = some Y2.length) := Lib.hid (by rw [hY2]; exact Tryd.infoMg _)
  have HO_Y2 : Hid (Y2.toArray.all (·.oneCell') = true) := Lib.hid (by rw [hY2]; exact mg_one _)
  have HL_Y2 : Hid (Y2.length = 4) := Lib.hid (by rw [hY2]; rfl)
  have CA : Hid (∀ W, Below w.heap.size w W → Calls Tryd.prog 11 #[.agg m.vals.toArray, .int .i64 a, .int .i64 b, .int .i64 len] W (fun e w' => e = .returned (.tuple #[.agg X1.toArray, .bool false]) ∧ Below W.heap.size W w')) := Lib.hid (fun W hW => by have hmW := HMB.out W hW; rw [hX1, ← e6]; exact psix_any m a b len W hr)
  have CB : Hid (∀ W, Below w.heap.size w W → Calls Tryd.prog 11 #[.agg (⟨m.kd, m.cd, r, d⟩ : Mg).vals.toArray, .int .i64 a, .int .i64 b, .int .i64 len] W (fun e w' => e = .returned (.tuple #[.agg X2.toArray, .bool false]) ∧ Below W.heap.size W w')) := Lib.hid (fun W hW => by have hmW := HMB.out W hW; rw [hX2, ← e6, s1]; exact psix_any (⟨m.kd, m.cd, r, d⟩ : Mg) a b len W ir)
  have CC : Hid (∀ W, Calls Tryd.prog 12 #[.agg m.vals.toArray, .int .i64 a, .int .i64 b] W (fun e w' => e = .returned (.tuple #[.agg Y1.toArray, .bool false]) ∧ Below W.heap.size W w')) := Lib.hid (fun W => by rw [hY1, ← e4]; exact pfour_any m a b W hr)
  have CD : Hid (∀ W, Calls Tryd.prog 12 #[.agg (⟨m.kd, m.cd, r, d⟩ : Mg).vals.toArray, .int .i64 a, .int .i64 b] W (fun e w' => e = .returned (.tuple #[.agg Y2.toArray, .bool false]) ∧ Below W.heap.size W w')) := Lib.hid (fun W => by rw [hY2, ← e4, f1]; exact pfour_any (⟨m.kd, m.cd, r, d⟩ : Mg) a b W ir)
  have HX1_0 : Hid (X1[0]? = some (.int .i64 (six m a b len).1.kd)) := Lib.hid (by rw [hX1]; rfl)
  have HX2_0 : Hid (X2[0]? = some (.int .i64 (six m a b len).1.kd)) := Lib.hid (by rw [hX2, s2]; rfl)
  have HX1_1 : Hid (X1[1]? = some (.int .i64 (six m a b len).1.cd)) := Lib.hid (by rw [hX1]; rfl)
  have HX2_1 : Hid (X2[1]? = some (.int .i64 (six m a b len).1.cd)) := Lib.hid (by rw [hX2, s3]; rfl)
  have HX1_2 : Hid (X1[2]? = some (.int .u32 (six m a b len).1.rs)) := Lib.hid (by rw [hX1]; rfl)
  have HX2_2 : Hid (X2[2]? = some (.int .u32 (six (⟨m.kd, m.cd, r, d⟩ : Mg) a b len).1.rs)) := Lib.hid (by rw [hX2]; rfl)
  have HY1_0 : Hid (Y1[0]? = some (.int .i64 (four m a b).1.kd)) := Lib.hid (by rw [hY1]; rfl)
  have HY2_0 : Hid (Y2[0]? = some (.int .i64 (four m a b).1.kd)) := Lib.hid (by rw [hY2, f2]; rfl)
  have HY1_1 : Hid (Y1[1]? = some (.int .i64 (four m a b).1.cd)) := Lib.hid (by rw [hY1]; rfl)
  have HY2_1 : Hid (Y2[1]? = some (.int .i64 (four m a b).1.cd)) := Lib.hid (by rw [hY2, f3]; rfl)
  clear hX1 hX2 hY1 hY2 s1 s2 s3 s4 s5 f1 f2 f3 f4
  clear e6
  clear e4
  generalize (six m a b len).1.kd = kd6 at *
  generalize (six m a b len).1.cd = cd6 at *
  generalize (six m a b len).1.rs = rs6 at *
  generalize (four m a b).1.kd = kd4 at *
  generalize (four m a b).1.cd = cd4 at *
  generalize (six (⟨m.kd, m.cd, r, d⟩ : Mg) a b len).1.rs = rs6' at *
  have HQ0 := Lib.hid h1
  have HE2 := Lib.hid (nm_vals2 m r)
  have HE3 := Lib.hid (nm_vals3 m r d)
  have HI_N2 : Hid ((Tryd.prog.info? 24).map (·.size) = some (⟨m.kd, m.cd, r, m.da⟩ : Mg).vals.length) := Lib.hid (Tryd.infoMg _)
  have HL_N2 : Hid ((⟨m.kd, m.cd, r, m.da⟩ : Mg).vals.length = 4) := Lib.hid rfl
  have HI_N3 : Hid ((Tryd.prog.info? 24).map (·.size) = some (⟨m.kd, m.cd, r, d⟩ : Mg).vals.length) := Lib.hid (Tryd.infoMg _)
  generalize (⟨m.kd, m.cd, r, m.da⟩ : Mg).vals = N2 at *
  generalize (⟨m.kd, m.cd, r, d⟩ : Mg).vals = N3 at *
  have HI_VM : Hid ((Tryd.prog.info? 24).map (·.size) = some m.vals.length) := Lib.hid (Tryd.infoMg _)
  have HO_VM : Hid (m.vals.toArray.all (·.oneCell') = true) := Lib.hid (mg_one _)
  have HL_VM : Hid (m.vals.length = 4) := Lib.hid rfl
  have HM0 : Hid (m.vals[0]? = some (.int .i64 8)) := Lib.hid (by rw [← HQ0.out]; rfl)
  have HM1 : Hid (m.vals[1]? = some (.int .i64 m.cd)) := Lib.hid (rfl)
  have HM2 : Hid (m.vals[2]? = some (.int .u32 m.rs)) := Lib.hid (rfl)
  have HM3 : Hid (m.vals[3]? = some (.string m.da)) := Lib.hid (rfl)
  have HK1 : Hid (Kp w w.heap.size [(w.heap.size, 24, m.vals)] (w.alloc (.cells m.vals.toArray 24))) := Lib.hid ((Kp.start w).new 24 m.vals)
  clear h1
  generalize m.vals = VM at *
  generalize hw1 : w.alloc (.cells VM.toArray 24) = w1 at *
  go_enter Tryd.func10, Tryd.ntmps10
  go_upto_region 1 with (fail)
  clear hw1
  go_wp2_with (fail)
  refine (awake14_true _ (HMB.out _ HK1.out.2.1)).mono ?_
  rintro e w2 ⟨rfl, bb⟩
  have HK2 := Lib.hid (HK1.out.below bb (Nat.le_refl _))
  clear bb HK1
  have c3 : w2.cell? ⟨w.heap.size, 3, none⟩ = some (.string m.da) := HK2.out.hd.at HM3.out
  go_upto_region 5 with (fail)
  clear c3
  have HG9 : Hid (w.heap.size < w2.heap.size) := Lib.hid HK2.out.hd.lt
  have hr0 := HK2.out.hd.range
  have ht := (bk_new w2 24 ([.int .i64 0, .int .i64 0, .int .u32 0, .string ⟨#[]⟩] : List Value).toArray).there VM.toArray.size (by have := HL_VM.out; simp; omega)
  go_upto_region 6 with (((with_reducible (change wpList _ _ _ _ _ _)); (first | (refine wpList_load_mid rfl 24 _ rfl (w.heap.size) 0 rfl (VM) _ hr0 Tryd.underlying24 rfl HI_VM.out ?_) | (refine wpList_store_mid rfl 24 _ _ rfl (w2.heap.size) 0 VM.toArray rfl rfl ht (by simpa using HI_VM.out) HO_VM.out ?_))))
  have HK3 := Lib.hid (HK2.out.put 24 ([.int .i64 0, .int .i64 0, .int .u32 0, .string ⟨#[]⟩] : List Value).toArray VM (by have := HL_VM.out; simp; omega))
  clear ht HK2
  generalize (w2.alloc (.cells ([.int .i64 0, .int .i64 0, .int .u32 0, .string ⟨#[]⟩] : List Value).toArray 24)).setCells w2.heap.size 0 VM = w3 at *
  generalize w2.heap.size = g9 at *
  clear hr0
  have hne : ∀ x ∈ ([(w.heap.size, 24, VM)] : List (Nat × TypeId × List Value)), x.1 ≠ g9 := by
    have hg := HG9.out
    intro x hx
    simp only [List.mem_cons, List.not_mem_nil, or_false] at hx
    rcases hx with rfl
    show _ ≠ g9
    omega
  have hgB : w.heap.size ≤ g9 := by have := HG9.out; omega
  have HNE := Lib.hid (And.intro hne hgB)
  clear hne hgB
  obtain ⟨uu, hu, hz⟩ := HK3.out.some1 2 (by have := HL_VM.out; omega)
  go_upto_region 7 with (fail)
  have hk := HK3.out.set1 HNE.out.1 HNE.out.2 2 (.int .u32 r)
  rw [HE2.out] at hk
  have HK4 := Lib.hid hk
  clear hk hu hz HK3
  generalize w3.setCell ⟨g9, 2, none⟩ (.int .u32 r) = w4 at *
  obtain ⟨uu, hu, hz⟩ := HK4.out.some1 3 (by have := HL_N2.out; omega)
  go_upto_region 8 with (fail)
  have hk := HK4.out.set1 HNE.out.1 HNE.out.2 3 (.string d)
  rw [HE3.out] at hk
  have HK5 := Lib.hid hk
  clear hk hu hz HK4
  generalize w4.setCell ⟨g9, 3, none⟩ (.string d) = w5 at *
  have hr0 := HK5.out.tl.hd.range
  go_wp2_with (((with_reducible (change wpList _ _ _ _ _ _)); ((refine wpList_load_mid rfl 24 _ rfl (w.heap.size) 0 rfl (VM) _ hr0 Tryd.underlying24 rfl HI_VM.out ?_))))
  clear hr0
  refine (CA.out _ HK5.out.2.1).mono ?_
  rintro e w6 ⟨rfl, bb⟩
  have HK6 := Lib.hid (HK5.out.below bb (Nat.le_refl _))
  clear bb HK5
  have ht := (bk_new w6 24 ([.int .i64 0, .int .i64 0, .int .u32 0, .string ⟨#[]⟩] : List Value).toArray).there X1.toArray.size (by have := HL_X1.out; simp; omega)
  go_upto_region 9 with (((with_reducible (change wpList _ _ _ _ _ _)); ((refine wpList_store_mid rfl 24 _ _ rfl (w6.heap.size) 0 X1.toArray rfl rfl ht (by simpa using HI_X1.out) HO_X1.out ?_))))
  have HK7 := Lib.hid (HK6.out.put 24 ([.int .i64 0, .int .i64 0, .int .u32 0, .string ⟨#[]⟩] : List Value).toArray X1 (by have := HL_X1.out; simp; omega))
  clear ht HK6
  generalize (w6.alloc (.cells ([.int .i64 0, .int .i64 0, .int .u32 0, .string ⟨#[]⟩] : List Value).toArray 24)).setCells w6.heap.size 0 X1 = w7 at *
  generalize w6.heap.size = g1 at *
  have hr0 := HK7.out.tl.hd.range
  go_wp2_with (((with_reducible (change wpList _ _ _ _ _ _)); ((refine wpList_load_mid rfl 24 _ rfl (g9) 0 rfl (N3) _ hr0 Tryd.underlying24 rfl HI_N3.out ?_))))
  clear hr0
  refine (CB.out _ HK7.out.2.1).mono ?_
  rintro e w8 ⟨rfl, bb⟩
  have HK8 := Lib.hid (HK7.out.below bb (Nat.le_refl _))
  clear bb HK7
  have ht := (bk_new w8 24 ([.int .i64 0, .int .i64 0, .int .u32 0, .string ⟨#[]⟩] : List Value).toArray).there X2.toArray.size (by have := HL_X2.out; simp; omega)
  go_upto_region 10 with (((with_reducible (change wpList _ _ _ _ _ _)); ((refine wpList_store_mid rfl 24 _ _ rfl (w8.heap.size) 0 X2.toArray rfl rfl ht (by simpa using HI_X2.out) HO_X2.out ?_))))
  have HK9 := Lib.hid (HK8.out.put 24 ([.int .i64 0, .int .i64 0, .int .u32 0, .string ⟨#[]⟩] : List Value).toArray X2 (by have := HL_X2.out; simp; omega))
  clear ht HK8
  generalize (w8.alloc (.cells ([.int .i64 0, .int .i64 0, .int .u32 0, .string ⟨#[]⟩] : List Value).toArray 24)).setCells w8.heap.size 0 X2 = w9 at *
  generalize w8.heap.size = g2 at *
  have c0 : w9.cell? ⟨w.heap.size, 0, none⟩ = some (.int .i64 8) := HK9.out.tl.tl.tl.hd.at HM0.out
  have c1 : w9.cell? ⟨w.heap.size, 1, none⟩ = some (.int .i64 m.cd) := HK9.out.tl.tl.tl.hd.at HM1.out
  have dg10 : w9.cell? ⟨g1, 0, none⟩ = some (.int .i64 kd6) := HK9.out.tl.hd.at HX1_0.out
  have dg20 : w9.cell? ⟨g2, 0, none⟩ = some (.int .i64 kd6) := HK9.out.hd.at HX2_0.out
  have dg11 : w9.cell? ⟨g1, 1, none⟩ = some (.int .i64 cd6) := HK9.out.tl.hd.at HX1_1.out
  have dg21 : w9.cell? ⟨g2, 1, none⟩ = some (.int .i64 cd6) := HK9.out.hd.at HX2_1.out
  have dg12 : w9.cell? ⟨g1, 2, none⟩ = some (.int .u32 rs6) := HK9.out.tl.hd.at HX1_2.out
  have dg22 : w9.cell? ⟨g2, 2, none⟩ = some (.int .u32 rs6') := HK9.out.hd.at HX2_2.out
  go_upto_region 12 with (fail)
  go_upto_region 14 with (fail)
  clear c0 c1 dg10 dg20 dg11 dg21 dg12 dg22
  have hr0 := HK9.out.tl.tl.tl.hd.range
  go_wp2_with (((with_reducible (change wpList _ _ _ _ _ _)); ((refine wpList_load_mid rfl 24 _ rfl (w.heap.size) 0 rfl (VM) _ hr0 Tryd.underlying24 rfl HI_VM.out ?_))))
  clear hr0
  refine (CC.out _).mono ?_
  rintro e w10 ⟨rfl, bb⟩
  have HK10 := Lib.hid (HK9.out.below bb (Nat.le_refl _))
  clear bb HK9
  have ht := (bk_new w10 24 ([.int .i64 0, .int .i64 0, .int .u32 0, .string ⟨#[]⟩] : List Value).toArray).there Y1.toArray.size (by have := HL_Y1.out; simp; omega)
  go_upto_region 15 with (((with_reducible (change wpList _ _ _ _ _ _)); ((refine wpList_store_mid rfl 24 _ _ rfl (w10.heap.size) 0 Y1.toArray rfl rfl ht (by simpa using HI_Y1.out) HO_Y1.out ?_))))
  have HK11 := Lib.hid (HK10.out.put 24 ([.int .i64 0, .int .i64 0, .int .u32 0, .string ⟨#[]⟩] : List Value).toArray Y1 (by have := HL_Y1.out; simp; omega))
  clear ht HK10
  generalize (w10.alloc (.cells ([.int .i64 0, .int .i64 0, .int .u32 0, .string ⟨#[]⟩] : List Value).toArray 24)).setCells w10.heap.size 0 Y1 = w11 at *
  generalize w10.heap.size = g3 at *
  have hr0 := HK11.out.tl.tl.tl.hd.range
  go_wp2_with (((with_reducible (change wpList _ _ _ _ _ _)); ((refine wpList_load_mid rfl 24 _ rfl (g9) 0 rfl (N3) _ hr0 Tryd.underlying24 rfl HI_N3.out ?_))))
  clear hr0
  refine (CD.out _).mono ?_
  rintro e w12 ⟨rfl, bb⟩
  have HK12 := Lib.hid (HK11.out.below bb (Nat.le_refl _))
  clear bb HK11
  have ht := (bk_new w12 24 ([.int .i64 0, .int .i64 0, .int .u32 0, .string ⟨#[]⟩] : List Value).toArray).there Y2.toArray.size (by have := HL_Y2.out; simp; omega)
  go_upto_region 16 with (((with_reducible (change wpList _ _ _ _ _ _)); ((refine wpList_store_mid rfl 24 _ _ rfl (w12.heap.size) 0 Y2.toArray rfl rfl ht (by simpa using HI_Y2.out) HO_Y2.out ?_))))
  have HK13 := Lib.hid (HK12.out.put 24 ([.int .i64 0, .int .i64 0, .int .u32 0, .string ⟨#[]⟩] : List Value).toArray Y2 (by have := HL_Y2.out; simp; omega))
  clear ht HK12
  generalize (w12.alloc (.cells ([.int .i64 0, .int .i64 0, .int .u32 0, .string ⟨#[]⟩] : List Value).toArray 24)).setCells w12.heap.size 0 Y2 = w13 at *
  generalize w12.heap.size = g4 at *
  have c0 : w13.cell? ⟨w.heap.size, 0, none⟩ = some (.int .i64 8) := HK13.out.tl.tl.tl.tl.tl.hd.at HM0.out
  have c1 : w13.cell? ⟨w.heap.size, 1, none⟩ = some (.int .i64 m.cd) := HK13.out.tl.tl.tl.tl.tl.hd.at HM1.out
  have dg30 : w13.cell? ⟨g3, 0, none⟩ = some (.int .i64 kd4) := HK13.out.tl.hd.at HY1_0.out
  have dg40 : w13.cell? ⟨g4, 0, none⟩ = some (.int .i64 kd4) := HK13.out.hd.at HY2_0.out
  have dg31 : w13.cell? ⟨g3, 1, none⟩ = some (.int .i64 cd4) := HK13.out.tl.hd.at HY1_1.out
  have dg41 : w13.cell? ⟨g4, 1, none⟩ = some (.int .i64 cd4) := HK13.out.hd.at HY2_1.out
  go_wp2_with (fail)
  go_ret
  refine ⟨?_, HK13.out.2.1⟩
  first | rfl | (simp; done) | (simp; omega)
end Go.Proofs.YtnehabpdpkjaeaaDoor
