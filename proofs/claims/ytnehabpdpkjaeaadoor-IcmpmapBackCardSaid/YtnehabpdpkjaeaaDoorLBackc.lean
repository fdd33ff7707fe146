/-
  Proved here: the law IcmpmapBack answers true (LBackc).
  Conditions: none.
-/
import Derived.Test.YtnehabpdpkjaeaaDoorLBacka
namespace Go.Proofs.YtnehabpdpkjaeaaDoor
open Go.RowKit

set_option maxRecDepth 100000 in
set_option maxHeartbeats 4000000 in
theorem back14_O_n (m : Mg) (a b len : Int) (w : World) (hm : Hm w) (hr : 0 ≤ m.rs ∧ m.rs < 4294967296) (hd : ¬ (70000 : Int) < (m.da.size : Int)) (g8 : m.kd ≠ 8) (g0 : m.kd ≠ 0) (gk : m.kd < 128) (k c q : Int) (kk : k = 1 ∨ k = 3 ∨ k = 4) (q0 : 0 ≤ q) (q1 : q ≤ 24) (e6 : six m a b len = ((⟨k, c, q, m.da⟩ : Mg), true)) (e4 : four m a b = (mg0, false)) : Calls Tryd.prog 7 #[.agg m.vals.toArray, .int .i64 a, .int .i64 b, .int .i64 len] w (fun e w' => e = .returned (.bool true) ∧ Below w.heap.size w w') := by
  have HMB : Hid (∀ W, Below w.heap.size w W → Hm W) := Lib.hid (fun W hW => hm.below hW)
  obtain ⟨VZ, hVZ⟩ : ∃ V, V = mg0.vals := ⟨_, rfl⟩
  have HI_VZ : Hid ((Tryd.prog.info? 24).map (·.size) = some VZ.length) := Lib.hid (by rw [hVZ]; exact Tryd.infoMg _)
  have HO_VZ : Hid (VZ.toArray.all (·.oneCell') = true) := Lib.hid (by rw [hVZ]; exact mg_one _)
  have HL_VZ : Hid (VZ.length = 4) := Lib.hid (by rw [hVZ]; rfl)
  have HNV_VZ : Hid (∀ W, (binOp .neq 24 (.agg VZ.toArray) (.agg VZ.toArray)).run Tryd.prog W = .ok (.bool false) W) := Lib.hid (fun W => by rw [hVZ]; exact neqM _ W)
  have HBZ : Hid (∀ W, (Instr.build 24 #[]).run Tryd.prog W = .ok (.agg VZ.toArray) W) := Lib.hid (fun W => by rw [hVZ]; exact mgBuild W)
  obtain ⟨VX, hVX⟩ : ∃ V, V = (⟨k, c, q, m.da⟩ : Mg).vals := ⟨_, rfl⟩
  have HI_VX : Hid ((Tryd.prog.info? 24).map (·.size) = some VX.length) := Lib.hid (by rw [hVX]; exact Tryd.infoMg _)
  have HO_VX : Hid (VX.toArray.all (·.oneCell') = true) := Lib.hid (by rw [hVX]; exact mg_one _)
  have HL_VX : Hid (VX.length = 4) := Lib.hid (by rw [hVX]; rfl)
  have CA : Hid (∀ W, Below w.heap.size w W → Calls Tryd.prog 11 #[.agg m.vals.toArray, .int .i64 a, .int .i64 b, .int .i64 len] W (fun e w' => e = .returned (.tuple #[.agg VX.toArray, .bool true]) ∧ Below W.heap.size W w')) := Lib.hid (fun W hW => by have hmW := HMB.out W hW; have h := psix_any m a b len W hr; rw [e6] at h; rw [hVX]; exact h)
  have CB : Hid (∀ W, Calls Tryd.prog 12 #[.agg m.vals.toArray, .int .i64 a, .int .i64 b] W (fun e w' => e = .returned (.tuple #[.agg VZ.toArray, .bool false]) ∧ Below W.heap.size W w')) := Lib.hid (fun W => by have h := pfour_any m a b W hr; rw [e4] at h; rw [hVZ]; exact h)
  have HNV_M : Hid (∀ W, (binOp .neq 24 (.agg m.vals.toArray) (.agg m.vals.toArray)).run Tryd.prog W = .ok (.bool false) W) := Lib.hid (fun W => neqM m W)
  obtain ⟨V6, hV6⟩ : ∃ V, V = (four (⟨k, c, q, m.da⟩ : Mg) a b).1.vals := ⟨_, rfl⟩
  have HI_V6 : Hid ((Tryd.prog.info? 24).map (·.size) = some V6.length) := Lib.hid (by rw [hV6]; exact Tryd.infoMg _)
  have HO_V6 : Hid (V6.toArray.all (·.oneCell') = true) := Lib.hid (by rw [hV6]; exact mg_one _)
  have HL_V6 : Hid (V6.length = 4) := Lib.hid (by rw [hV6]; rfl)
  have CC : Hid (∀ W, Calls Tryd.prog 12 #[.agg VX.toArray, .int .i64 a, .int .i64 b] W (fun e w' => e = .returned (.tuple #[.agg V6.toArray, .bool (four (⟨k, c, q, m.da⟩ : Mg) a b).2]) ∧ Below W.heap.size W w')) := Lib.hid (fun W => by rw [hVX, hV6]; exact pfour_any (⟨k, c, q, m.da⟩ : Mg) a b W ⟨by show 0 ≤ q; omega, by show q < _; omega⟩)
  clear hV6
  generalize (four (⟨k, c, q, m.da⟩ : Mg) a b).2 = o6 at *
  have HVX_0 : Hid (VX[0]? = some (.int .i64 k)) := Lib.hid (by rw [hVX]; rfl)
  have HVX_2 : Hid (VX[2]? = some (.int .u32 q)) := Lib.hid (by rw [hVX]; rfl)
  have HVX_3 : Hid (VX[3]? = some (.string m.da)) := Lib.hid (by rw [hVX]; rfl)
  clear e6 e4 hVZ hVX
  have n8 : (m.kd == 8) = false := by rw [beq_eq_false_iff_ne]; exact g8
  have n0 : (m.kd == 0) = false := by rw [beq_eq_false_iff_ne]; exact g0
  have k1 : ¬ 128 ≤ k := by omega
  have k2 : ¬ k < 1 := by omega
  have k4 : ¬ 4 < k := by omega
  have k5 : (k == 2) = false := by rw [beq_eq_false_iff_ne]; omega
  clear g8 g0 kk
  have gk' : ¬ 128 ≤ m.kd := by omega
  have HI_VM : Hid ((Tryd.prog.info? 24).map (·.size) = some m.vals.length) := Lib.hid (Tryd.infoMg _)
  have HO_VM : Hid (m.vals.toArray.all (·.oneCell') = true) := Lib.hid (mg_one _)
  have HL_VM : Hid (m.vals.length = 4) := Lib.hid rfl
  have HM0 : Hid (m.vals[0]? = some (.int .i64 m.kd)) := Lib.hid (rfl)
  have HM1 : Hid (m.vals[1]? = some (.int .i64 m.cd)) := Lib.hid (rfl)
  have HM2 : Hid (m.vals[2]? = some (.int .u32 m.rs)) := Lib.hid (rfl)
  have HM3 : Hid (m.vals[3]? = some (.string m.da)) := Lib.hid (rfl)
  have HK1 : Hid (Kp w w.heap.size [(w.heap.size, 24, m.vals)] (w.alloc (.cells m.vals.toArray 24))) := Lib.hid ((Kp.start w).new 24 m.vals)
  generalize m.vals = VM at *
  generalize hw1 : w.alloc (.cells VM.toArray 24) = w1 at *
  go_enter Tryd.func7, Tryd.ntmps7
  go_upto_region 1 with (fail)
  clear hw1
  go_wp2_with (fail)
  refine (awake14_true _ (HMB.out _ HK1.out.2.1)).mono ?_
  rintro e w2 ⟨rfl, bb⟩
  have HK2 := Lib.hid (HK1.out.below bb (Nat.le_refl _))
  clear bb HK1
  have c3 : w2.cell? ⟨w.heap.size, 3, none⟩ = some (.string m.da) := HK2.out.hd.at HM3.out
  go_upto_region 5 with (fail)
  clear c3
  have hr0 := HK2.out.hd.range
  go_wp2_with (((with_reducible (change wpList _ _ _ _ _ _)); ((refine wpList_load_mid rfl 24 _ rfl (w.heap.size) 0 rfl (VM) _ hr0 Tryd.underlying24 rfl HI_VM.out ?_))))
  clear hr0
  refine (CA.out _ HK2.out.2.1).mono ?_
  rintro e w3 ⟨rfl, bb⟩
  have HK3 := Lib.hid (HK2.out.below bb (Nat.le_refl _))
  clear bb HK2
  have ht := (bk_new w3 24 ([.int .i64 0, .int .i64 0, .int .u32 0, .string ⟨#[]⟩] : List Value).toArray).there VX.toArray.size (by have := HL_VX.out; simp; omega)
  go_upto_region 6 with (((with_reducible (change wpList _ _ _ _ _ _)); ((refine wpList_store_mid rfl 24 _ _ rfl (w3.heap.size) 0 VX.toArray rfl rfl ht (by simpa using HI_VX.out) HO_VX.out ?_))))
  have HK4 := Lib.hid (HK3.out.put 24 ([.int .i64 0, .int .i64 0, .int .u32 0, .string ⟨#[]⟩] : List Value).toArray VX (by have := HL_VX.out; simp; omega))
  clear ht HK3
  generalize (w3.alloc (.cells ([.int .i64 0, .int .i64 0, .int .u32 0, .string ⟨#[]⟩] : List Value).toArray 24)).setCells w3.heap.size 0 VX = w4 at *
  generalize w3.heap.size = g1 at *
  have hr0 := HK4.out.tl.hd.range
  go_wp2_with (((with_reducible (change wpList _ _ _ _ _ _)); ((refine wpList_load_mid rfl 24 _ rfl (w.heap.size) 0 rfl (VM) _ hr0 Tryd.underlying24 rfl HI_VM.out ?_))))
  clear hr0
  refine (CB.out _).mono ?_
  rintro e w5 ⟨rfl, bb⟩
  have HK5 := Lib.hid (HK4.out.below bb (Nat.le_refl _))
  clear bb HK4
  have ht := (bk_new w5 24 ([.int .i64 0, .int .i64 0, .int .u32 0, .string ⟨#[]⟩] : List Value).toArray).there VZ.toArray.size (by have := HL_VZ.out; simp; omega)
  go_upto_region 7 with (((with_reducible (change wpList _ _ _ _ _ _)); ((refine wpList_store_mid rfl 24 _ _ rfl (w5.heap.size) 0 VZ.toArray rfl rfl ht (by simpa using HI_VZ.out) HO_VZ.out ?_))))
  have HK6 := Lib.hid (HK5.out.put 24 ([.int .i64 0, .int .i64 0, .int .u32 0, .string ⟨#[]⟩] : List Value).toArray VZ (by have := HL_VZ.out; simp; omega))
  clear ht HK5
  generalize (w5.alloc (.cells ([.int .i64 0, .int .i64 0, .int .u32 0, .string ⟨#[]⟩] : List Value).toArray 24)).setCells w5.heap.size 0 VZ = w6 at *
  generalize w5.heap.size = g2 at *
  have hr0 := HK6.out.tl.hd.range
  have hr1 := HK6.out.hd.range
  have hnz := HNV_VZ.out
  have c3 : w6.cell? ⟨w.heap.size, 3, none⟩ = some (.string m.da) := HK6.out.tl.tl.hd.at HM3.out
  have dg13 : w6.cell? ⟨g1, 3, none⟩ = some (.string m.da) := HK6.out.tl.hd.at HVX_3.out
  refine wp_region_list ?_
  refine wpList_exec_if (op := { dst := some 40, op := Op.move (Operand.tmp 10), type := 4, pos := "outright.go:18", after := #[], guard := none }) (by kernel_rfl) ?_ ?_ ?_
  rotate_left
  · (go_simp; try with_reducible rfl)
  (try simp only [Act.put, List.setIfInBounds_toArray, List.set_cons_zero, List.set_cons_succ])
  refine wpList_exec_if (op := { dst := some 41, op := Op.unOp UnOp.not 4 (Operand.tmp 40), type := 4, pos := "outright.go:18", after := #[{ on := 0, ground := Ground.data }], guard := none }) (by kernel_rfl) ?_ ?_ ?_
  rotate_left
  · (go_simp; try with_reducible rfl)
  (try simp only [Act.put, List.setIfInBounds_toArray, List.set_cons_zero, List.set_cons_succ])
  refine wpList_exec_if (op := { dst := some 42, op := Op.move (Operand.tmp 41), type := 4, pos := "outright.go:18", after := #[{ on := 1, ground := Ground.data }], guard := none }) (by kernel_rfl) ?_ ?_ ?_
  rotate_left
  · (go_simp; try with_reducible rfl)
  (try simp only [Act.put, List.setIfInBounds_toArray, List.set_cons_zero, List.set_cons_succ])
  refine wpList_skip (op := { dst := some 43, op := Op.load 24 (Operand.tmp 9), type := 24, pos := "outright.go:18", after := #[{ on := 2, ground := Ground.guard }], guard := some (2, true) }) (by kernel_rfl) ?_
  (try simp only [Act.put, List.setIfInBounds_toArray, List.set_cons_zero, List.set_cons_succ])
  refine wpList_skip (op := { dst := some 44, op := Op.build 24 #[], type := 24, pos := "outright.go:18", after := #[{ on := 2, ground := Ground.guard }], guard := some (2, true) }) (by kernel_rfl) ?_
  (try simp only [Act.put, List.setIfInBounds_toArray, List.set_cons_zero, List.set_cons_succ])
  refine wpList_skip (op := { dst := some 45, op := Op.binOp BinOp.neq 24 (Operand.tmp 43) (Operand.tmp 44) 24, type := 4, pos := "outright.go:18", after := #[{ on := 3, ground := Ground.data }, { on := 4, ground := Ground.data }, { on := 2, ground := Ground.guard }], guard := some (2, true) }) (by kernel_rfl) ?_
  (try simp only [Act.put, List.setIfInBounds_toArray, List.set_cons_zero, List.set_cons_succ])
  refine wpList_exec_if (op := { dst := some 46, op := Op.pick (Operand.tmp 42) (Operand.tmp 45) (Operand.const (Value.bool false)), type := 4, pos := "outright.go:18", after := #[{ on := 2, ground := Ground.data }, { on := 5, ground := Ground.data }], guard := none }) (by kernel_rfl) ?_ ?_ ?_
  rotate_left
  · (go_simp; try with_reducible rfl)
  (try simp only [Act.put, List.setIfInBounds_toArray, List.set_cons_zero, List.set_cons_succ])
  refine wpList_exec_if (op := { dst := some 47, op := Op.move (Operand.tmp 46), type := 4, pos := "outright.go:18", after := #[{ on := 6, ground := Ground.data }, { on := 2, ground := Ground.chain }], guard := none }) (by kernel_rfl) ?_ ?_ ?_
  rotate_left
  · (go_simp; try with_reducible rfl)
  (try simp only [Act.put, List.setIfInBounds_toArray, List.set_cons_zero, List.set_cons_succ])
  refine wpList_exec_if (op := { dst := some 48, op := Op.move (Operand.tmp 12), type := 4, pos := "outright.go:18", after := #[{ on := 7, ground := Ground.guard }], guard := some (7, false) }) (by kernel_rfl) ?_ ?_ ?_
  rotate_left
  · (go_simp; try with_reducible rfl)
  (try simp only [Act.put, List.setIfInBounds_toArray, List.set_cons_zero, List.set_cons_succ])
  refine wpList_exec_if (op := { dst := some 49, op := Op.unOp UnOp.not 4 (Operand.tmp 48), type := 4, pos := "outright.go:18", after := #[{ on := 8, ground := Ground.data }, { on := 7, ground := Ground.guard }], guard := some (7, false) }) (by kernel_rfl) ?_ ?_ ?_
  rotate_left
  · (go_simp; try with_reducible rfl)
  (try simp only [Act.put, List.setIfInBounds_toArray, List.set_cons_zero, List.set_cons_succ])
  refine wpList_exec_if (op := { dst := some 50, op := Op.move (Operand.tmp 49), type := 4, pos := "outright.go:18", after := #[{ on := 9, ground := Ground.data }, { on := 7, ground := Ground.chain }, { on := 7, ground := Ground.guard }], guard := some (7, false) }) (by kernel_rfl) ?_ ?_ ?_
  rotate_left
  · (go_simp; try with_reducible rfl)
  (try simp only [Act.put, List.setIfInBounds_toArray, List.set_cons_zero, List.set_cons_succ])
  refine wpList_load_if (op := { dst := some 51, op := Op.load 24 (Operand.tmp 11), type := 24, pos := "outright.go:18", after := #[{ on := 10, ground := Ground.guard }], guard := some (10, true) }) (by kernel_rfl) 24 _ rfl g2 0 rfl VZ _ hr1 Tryd.underlying24 rfl HI_VZ.out ?_
  (try simp only [Act.put, List.setIfInBounds_toArray, List.set_cons_zero, List.set_cons_succ])
  refine wpList_exec_if (op := { dst := some 52, op := Op.build 24 #[], type := 24, pos := "outright.go:18", after := #[{ on := 10, ground := Ground.guard }], guard := some (10, true) }) (by kernel_rfl) (.agg VZ.toArray) ?_ ?_
  · (exact run_execN (T := 24) (l := #[]) (m := #[]) rfl (by simp) (HBZ.out _))
  (try simp only [Act.put, List.setIfInBounds_toArray, List.set_cons_zero, List.set_cons_succ])
  refine wpList_exec_if (op := { dst := some 53, op := Op.binOp BinOp.neq 24 (Operand.tmp 51) (Operand.tmp 52) 24, type := 4, pos := "outright.go:18", after := #[{ on := 11, ground := Ground.data }, { on := 12, ground := Ground.data }, { on := 10, ground := Ground.guard }], guard := some (10, true) }) (by kernel_rfl) (.bool false) ?_ ?_
  · (go_simp; try with_reducible rfl)
  (try simp only [Act.put, List.setIfInBounds_toArray, List.set_cons_zero, List.set_cons_succ])
  go_upto_region 9 with (fail)
  clear hr0 hr1 c3 dg13 hnz
  have c0 : w6.cell? ⟨w.heap.size, 0, none⟩ = some (.int .i64 m.kd) := HK6.out.tl.tl.hd.at HM0.out
  go_upto_region 11 with (fail)
  clear c0
  have hr0 := HK6.out.tl.hd.range
  go_wp2_with (((with_reducible (change wpList _ _ _ _ _ _)); ((refine wpList_load_mid rfl 24 _ rfl (g1) 0 rfl (VX) _ hr0 Tryd.underlying24 rfl HI_VX.out ?_))))
  clear hr0
  refine (CC.out _).mono ?_
  rintro e w7 ⟨rfl, bb⟩
  have HK7 := Lib.hid (HK6.out.below bb (Nat.le_refl _))
  clear bb HK6
  have ht := (bk_new w7 24 ([.int .i64 0, .int .i64 0, .int .u32 0, .string ⟨#[]⟩] : List Value).toArray).there V6.toArray.size (by have := HL_V6.out; simp; omega)
  go_upto_region 12 with (((with_reducible (change wpList _ _ _ _ _ _)); ((refine wpList_store_mid rfl 24 _ _ rfl (w7.heap.size) 0 V6.toArray rfl rfl ht (by simpa using HI_V6.out) HO_V6.out ?_))))
  have HK8 := Lib.hid (HK7.out.put 24 ([.int .i64 0, .int .i64 0, .int .u32 0, .string ⟨#[]⟩] : List Value).toArray V6 (by have := HL_V6.out; simp; omega))
  clear ht HK7
  generalize (w7.alloc (.cells ([.int .i64 0, .int .i64 0, .int .u32 0, .string ⟨#[]⟩] : List Value).toArray 24)).setCells w7.heap.size 0 V6 = w8 at *
  generalize w7.heap.size = g3 at *
  have dg10 : w8.cell? ⟨g1, 0, none⟩ = some (.int .i64 k) := HK8.out.tl.tl.hd.at HVX_0.out
  have dg12 : w8.cell? ⟨g1, 2, none⟩ = some (.int .u32 q) := HK8.out.tl.tl.hd.at HVX_2.out
  go_upto_region 14 with (fail)
  go_upto_region 16 with (fail)
  clear dg10 dg12
  go_wp2_with (fail)
  go_ret
  exact ⟨rfl, HK8.out.2.1⟩
set_option maxRecDepth 100000 in
set_option maxHeartbeats 4000000 in
theorem back14_O_3 (m : Mg) (a b len : Int) (w : World) (hm : Hm w) (hr : 0 ≤ m.rs ∧ m.rs < 4294967296) (hd : ¬ (70000 : Int) < (m.da.size : Int)) (g8 : m.kd ≠ 8) (g0 : m.kd ≠ 0) (gk : m.kd < 128) (k c q : Int) (kk : k = 1 ∨ k = 3 ∨ k = 4) (q0 : 0 ≤ q) (q1 : q ≤ 24) (c' : Int) (cc : c' ≠ 4) (e6 : six m a b len = ((⟨k, c, q, m.da⟩ : Mg), true)) (e4 : four m a b = ((⟨3, c', 0, m.da⟩ : Mg), true)) : Calls Tryd.prog 7 #[.agg m.vals.toArray, .int .i64 a, .int .i64 b, .int .i64 len] w (fun e w' => e = .returned (.bool true) ∧ Below w.heap.size w w') := by
  have HMB : Hid (∀ W, Below w.heap.size w W → Hm W) := Lib.hid (fun W hW => hm.below hW)
  obtain ⟨VX, hVX⟩ : ∃ V, V = (⟨k, c, q, m.da⟩ : Mg).vals := ⟨_, rfl⟩
  have HI_VX : Hid ((Tryd.prog.info? 24).map (·.size) = some VX.length) := Lib.hid (by rw [hVX]; exact Tryd.infoMg _)
  have HO_VX : Hid (VX.toArray.all (·.oneCell') = true) := Lib.hid (by rw [hVX]; exact mg_one _)
  have HL_VX : Hid (VX.length = 4) := Lib.hid (by rw [hVX]; rfl)
  obtain ⟨VY, hVY⟩ : ∃ V, V = (⟨3, c', 0, m.da⟩ : Mg).vals := ⟨_, rfl⟩
  have HI_VY : Hid ((Tryd.prog.info? 24).map (·.size) = some VY.length) := Lib.hid (by rw [hVY]; exact Tryd.infoMg _)
  have HO_VY : Hid (VY.toArray.all (·.oneCell') = true) := Lib.hid (by rw [hVY]; exact mg_one _)
  have HL_VY : Hid (VY.length = 4) := Lib.hid (by rw [hVY]; rfl)
  have CA : Hid (∀ W, Below w.heap.size w W → Calls Tryd.prog 11 #[.agg m.vals.toArray, .int .i64 a, .int .i64 b, .int .i64 len] W (fun e w' => e = .returned (.tuple #[.agg VX.toArray, .bool true]) ∧ Below W.heap.size W w')) := Lib.hid (fun W hW => by have hmW := HMB.out W hW; have h := psix_any m a b len W hr; rw [e6] at h; rw [hVX]; exact h)
  have CB : Hid (∀ W, Calls Tryd.prog 12 #[.agg m.vals.toArray, .int .i64 a, .int .i64 b] W (fun e w' => e = .returned (.tuple #[.agg VY.toArray, .bool true]) ∧ Below W.heap.size W w')) := Lib.hid (fun W => by have h := pfour_any m a b W hr; rw [e4] at h; rw [hVY]; exact h)
  have HNV_M : Hid (∀ W, (binOp .neq 24 (.agg m.vals.toArray) (.agg m.vals.toArray)).run Tryd.prog W = .ok (.bool false) W) := Lib.hid (fun W => neqM m W)
  obtain ⟨V6, hV6⟩ : ∃ V, V = (four (⟨k, c, q, m.da⟩ : Mg) a b).1.vals := ⟨_, rfl⟩
  have HI_V6 : Hid ((Tryd.prog.info? 24).map (·.size) = some V6.length) := Lib.hid (by rw [hV6]; exact Tryd.infoMg _)
  have HO_V6 : Hid (V6.toArray.all (·.oneCell') = true) := Lib.hid (by rw [hV6]; exact mg_one _)
  have HL_V6 : Hid (V6.length = 4) := Lib.hid (by rw [hV6]; rfl)
  have CC : Hid (∀ W, Calls Tryd.prog 12 #[.agg VX.toArray, .int .i64 a, .int .i64 b] W (fun e w' => e = .returned (.tuple #[.agg V6.toArray, .bool (four (⟨k, c, q, m.da⟩ : Mg) a b).2]) ∧ Below W.heap.size W w')) := Lib.hid (fun W => by rw [hVX, hV6]; exact pfour_any (⟨k, c, q, m.da⟩ : Mg) a b W ⟨by show 0 ≤ q; omega, by show q < _; omega⟩)
  clear hV6
  generalize (four (⟨k, c, q, m.da⟩ : Mg) a b).2 = o6 at *
  obtain ⟨V4, hV4⟩ : ∃ V, V = (six (⟨3, c', 0, m.da⟩ : Mg) a b len).1.vals := ⟨_, rfl⟩
  have HI_V4 : Hid ((Tryd.prog.info? 24).map (·.size) = some V4.length) := Lib.hid (by rw [hV4]; exact Tryd.infoMg _)
  have HO_V4 : Hid (V4.toArray.all (·.oneCell') = true) := Lib.hid (by rw [hV4]; exact mg_one _)
  have HL_V4 : Hid (V4.length = 4) := Lib.hid (by rw [hV4]; rfl)
  have CD : Hid (∀ W, Below w.heap.size w W → Calls Tryd.prog 11 #[.agg VY.toArray, .int .i64 a, .int .i64 b, .int .i64 len] W (fun e w' => e = .returned (.tuple #[.agg V4.toArray, .bool (six (⟨3, c', 0, m.da⟩ : Mg) a b len).2]) ∧ Below W.heap.size W w')) := Lib.hid (fun W hW => by have hmW := HMB.out W hW; rw [hVY, hV4]; exact psix_any (⟨3, c', 0, m.da⟩ : Mg) a b len W ⟨by show (0 : Int) ≤ 0; omega, by show (0 : Int) < 4294967296; omega⟩)
  clear hV4
  generalize (six (⟨3, c', 0, m.da⟩ : Mg) a b len).2 = o4 at *
  have HVX_0 : Hid (VX[0]? = some (.int .i64 k)) := Lib.hid (by rw [hVX]; rfl)
  have HVX_2 : Hid (VX[2]? = some (.int .u32 q)) := Lib.hid (by rw [hVX]; rfl)
  have HVX_3 : Hid (VX[3]? = some (.string m.da)) := Lib.hid (by rw [hVX]; rfl)
  have HVY_0 : Hid (VY[0]? = some (.int .i64 3)) := Lib.hid (by rw [hVY]; rfl)
  have HVY_1 : Hid (VY[1]? = some (.int .i64 c')) := Lib.hid (by rw [hVY]; rfl)
  have HVY_3 : Hid (VY[3]? = some (.string m.da)) := Lib.hid (by rw [hVY]; rfl)
  clear e6 e4 hVX hVY
  have n8 : (m.kd == 8) = false := by rw [beq_eq_false_iff_ne]; exact g8
  have n0 : (m.kd == 0) = false := by rw [beq_eq_false_iff_ne]; exact g0
  have k1 : ¬ 128 ≤ k := by omega
  have k2 : ¬ k < 1 := by omega
  have k4 : ¬ 4 < k := by omega
  have k5 : (k == 2) = false := by rw [beq_eq_false_iff_ne]; omega
  clear g8 g0 kk
  have gk' : ¬ 128 ≤ m.kd := by omega
  have y1 : (c' == 4) = false := by rw [beq_eq_false_iff_ne]; exact cc
  have HI_VM : Hid ((Tryd.prog.info? 24).map (·.size) = some m.vals.length) := Lib.hid (Tryd.infoMg _)
  have HO_VM : Hid (m.vals.toArray.all (·.oneCell') = true) := Lib.hid (mg_one _)
  have HL_VM : Hid (m.vals.length = 4) := Lib.hid rfl
  have HM0 : Hid (m.vals[0]? = some (.int .i64 m.kd)) := Lib.hid (rfl)
  have HM1 : Hid (m.vals[1]? = some (.int .i64 m.cd)) := Lib.hid (rfl)
  have HM2 : Hid (m.vals[2]? = some (.int .u32 m.rs)) := Lib.hid (rfl)
  have HM3 : Hid (m.vals[3]? = some (.string m.da)) := Lib.hid (rfl)
  have HK1 : Hid (Kp w w.heap.size [(w.heap.size, 24, m.vals)] (w.alloc (.cells m.vals.toArray 24))) := Lib.hid ((Kp.start w).new 24 m.vals)
  generalize m.vals = VM at *
  generalize hw1 : w.alloc (.cells VM.toArray 24) = w1 at *
  go_enter Tryd.func7, Tryd.ntmps7
  go_upto_region 1 with (fail)
  clear hw1
  go_wp2_with (fail)
  refine (awake14_true _ (HMB.out _ HK1.out.2.1)).mono ?_
  rintro e w2 ⟨rfl, bb⟩
  have HK2 := Lib.hid (HK1.out.below bb (Nat.le_refl _))
  clear bb HK1
  have c3 : w2.cell? ⟨w.heap.size, 3, none⟩ = some (.string m.da) := HK2.out.hd.at HM3.out
  go_upto_region 5 with (fail)
  clear c3
  have hr0 := HK2.out.hd.range
  go_wp2_with (((with_reducible (change wpList _ _ _ _ _ _)); ((refine wpList_load_mid rfl 24 _ rfl (w.heap.size) 0 rfl (VM) _ hr0 Tryd.underlying24 rfl HI_VM.out ?_))))
  clear hr0
  refine (CA.out _ HK2.out.2.1).mono ?_
  rintro e w3 ⟨rfl, bb⟩
  have HK3 := Lib.hid (HK2.out.below bb (Nat.le_refl _))
  clear bb HK2
  have ht := (bk_new w3 24 ([.int .i64 0, .int .i64 0, .int .u32 0, .string ⟨#[]⟩] : List Value).toArray).there VX.toArray.size (by have := HL_VX.out; simp; omega)
  go_upto_region 6 with (((with_reducible (change wpList _ _ _ _ _ _)); ((refine wpList_store_mid rfl 24 _ _ rfl (w3.heap.size) 0 VX.toArray rfl rfl ht (by simpa using HI_VX.out) HO_VX.out ?_))))
  have HK4 := Lib.hid (HK3.out.put 24 ([.int .i64 0, .int .i64 0, .int .u32 0, .string ⟨#[]⟩] : List Value).toArray VX (by have := HL_VX.out; simp; omega))
  clear ht HK3
  generalize (w3.alloc (.cells ([.int .i64 0, .int .i64 0, .int .u32 0, .string ⟨#[]⟩] : List Value).toArray 24)).setCells w3.heap.size 0 VX = w4 at *
  generalize w3.heap.size = g1 at *
  have hr0 := HK4.out.tl.hd.range
  go_wp2_with (((with_reducible (change wpList _ _ _ _ _ _)); ((refine wpList_load_mid rfl 24 _ rfl (w.heap.size) 0 rfl (VM) _ hr0 Tryd.underlying24 rfl HI_VM.out ?_))))
  clear hr0
  refine (CB.out _).mono ?_
  rintro e w5 ⟨rfl, bb⟩
  have HK5 := Lib.hid (HK4.out.below bb (Nat.le_refl _))
  clear bb HK4
  have ht := (bk_new w5 24 ([.int .i64 0, .int .i64 0, .int .u32 0, .string ⟨#[]⟩] : List Value).toArray).there VY.toArray.size (by have := HL_VY.out; simp; omega)
  go_upto_region 7 with (((with_reducible (change wpList _ _ _ _ _ _)); ((refine wpList_store_mid rfl 24 _ _ rfl (w5.heap.size) 0 VY.toArray rfl rfl ht (by simpa using HI_VY.out) HO_VY.out ?_))))
  have HK6 := Lib.hid (HK5.out.put 24 ([.int .i64 0, .int .i64 0, .int .u32 0, .string ⟨#[]⟩] : List Value).toArray VY (by have := HL_VY.out; simp; omega))
  clear ht HK5
  generalize (w5.alloc (.cells ([.int .i64 0, .int .i64 0, .int .u32 0, .string ⟨#[]⟩] : List Value).toArray 24)).setCells w5.heap.size 0 VY = w6 at *
  generalize w5.heap.size = g2 at *
  have hr0 := HK6.out.tl.hd.range
  have hr1 := HK6.out.hd.range
  have c3 : w6.cell? ⟨w.heap.size, 3, none⟩ = some (.string m.da) := HK6.out.tl.tl.hd.at HM3.out
  have dg13 : w6.cell? ⟨g1, 3, none⟩ = some (.string m.da) := HK6.out.tl.hd.at HVX_3.out
  have dg23 : w6.cell? ⟨g2, 3, none⟩ = some (.string m.da) := HK6.out.hd.at HVY_3.out
  go_upto_region 9 with (fail)
  clear hr0 hr1 c3 dg13 dg23
  have c0 : w6.cell? ⟨w.heap.size, 0, none⟩ = some (.int .i64 m.kd) := HK6.out.tl.tl.hd.at HM0.out
  go_upto_region 11 with (fail)
  clear c0
  have hr0 := HK6.out.tl.hd.range
  go_wp2_with (((with_reducible (change wpList _ _ _ _ _ _)); ((refine wpList_load_mid rfl 24 _ rfl (g1) 0 rfl (VX) _ hr0 Tryd.underlying24 rfl HI_VX.out ?_))))
  clear hr0
  refine (CC.out _).mono ?_
  rintro e w7 ⟨rfl, bb⟩
  have HK7 := Lib.hid (HK6.out.below bb (Nat.le_refl _))
  clear bb HK6
  have ht := (bk_new w7 24 ([.int .i64 0, .int .i64 0, .int .u32 0, .string ⟨#[]⟩] : List Value).toArray).there V6.toArray.size (by have := HL_V6.out; simp; omega)
  go_upto_region 12 with (((with_reducible (change wpList _ _ _ _ _ _)); ((refine wpList_store_mid rfl 24 _ _ rfl (w7.heap.size) 0 V6.toArray rfl rfl ht (by simpa using HI_V6.out) HO_V6.out ?_))))
  have HK8 := Lib.hid (HK7.out.put 24 ([.int .i64 0, .int .i64 0, .int .u32 0, .string ⟨#[]⟩] : List Value).toArray V6 (by have := HL_V6.out; simp; omega))
  clear ht HK7
  generalize (w7.alloc (.cells ([.int .i64 0, .int .i64 0, .int .u32 0, .string ⟨#[]⟩] : List Value).toArray 24)).setCells w7.heap.size 0 V6 = w8 at *
  generalize w7.heap.size = g3 at *
  have dg10 : w8.cell? ⟨g1, 0, none⟩ = some (.int .i64 k) := HK8.out.tl.tl.hd.at HVX_0.out
  have dg12 : w8.cell? ⟨g1, 2, none⟩ = some (.int .u32 q) := HK8.out.tl.tl.hd.at HVX_2.out
  go_upto_region 14 with (fail)
  go_upto_region 16 with (fail)
  clear dg10 dg12
  go_upto_region 17 with (fail)
  have c0 : w8.cell? ⟨w.heap.size, 0, none⟩ = some (.int .i64 m.kd) := HK8.out.tl.tl.tl.hd.at HM0.out
  go_upto_region 18 with (fail)
  clear c0
  have hr0 := HK8.out.tl.hd.range
  go_wp2_with (((with_reducible (change wpList _ _ _ _ _ _)); ((refine wpList_load_mid rfl 24 _ rfl (g2) 0 rfl (VY) _ hr0 Tryd.underlying24 rfl HI_VY.out ?_))))
  clear hr0
  refine (CD.out _ HK8.out.2.1).mono ?_
  rintro e w9 ⟨rfl, bb⟩
  have HK9 := Lib.hid (HK8.out.below bb (Nat.le_refl _))
  clear bb HK8
  have ht := (bk_new w9 24 ([.int .i64 0, .int .i64 0, .int .u32 0, .string ⟨#[]⟩] : List Value).toArray).there V4.toArray.size (by have := HL_V4.out; simp; omega)
  go_upto_region 19 with (((with_reducible (change wpList _ _ _ _ _ _)); ((refine wpList_store_mid rfl 24 _ _ rfl (w9.heap.size) 0 V4.toArray rfl rfl ht (by simpa using HI_V4.out) HO_V4.out ?_))))
  have HK10 := Lib.hid (HK9.out.put 24 ([.int .i64 0, .int .i64 0, .int .u32 0, .string ⟨#[]⟩] : List Value).toArray V4 (by have := HL_V4.out; simp; omega))
  clear ht HK9
  generalize (w9.alloc (.cells ([.int .i64 0, .int .i64 0, .int .u32 0, .string ⟨#[]⟩] : List Value).toArray 24)).setCells w9.heap.size 0 V4 = w10 at *
  generalize w9.heap.size = g4 at *
  have dg20 : w10.cell? ⟨g2, 0, none⟩ = some (.int .i64 3) := HK10.out.tl.tl.hd.at HVY_0.out
  have dg21 : w10.cell? ⟨g2, 1, none⟩ = some (.int .i64 c') := HK10.out.tl.tl.hd.at HVY_1.out
  go_upto_region 21 with (fail)
  go_wp2_with (fail)
  go_ret
  exact ⟨rfl, HK10.out.2.1⟩
set_option maxRecDepth 100000 in
set_option maxHeartbeats 4000000 in
theorem back14_O_11 (m : Mg) (a b len : Int) (w : World) (hm : Hm w) (hr : 0 ≤ m.rs ∧ m.rs < 4294967296) (hd : ¬ (70000 : Int) < (m.da.size : Int)) (g8 : m.kd ≠ 8) (g0 : m.kd ≠ 0) (gk : m.kd < 128) (k c q : Int) (kk : k = 1 ∨ k = 3 ∨ k = 4) (q0 : 0 ≤ q) (q1 : q ≤ 24) (c' : Int) (e6 : six m a b len = ((⟨k, c, q, m.da⟩ : Mg), true)) (e4 : four m a b = ((⟨11, c', 0, m.da⟩ : Mg), true)) : Calls Tryd.prog 7 #[.agg m.vals.toArray, .int .i64 a, .int .i64 b, .int .i64 len] w (fun e w' => e = .returned (.bool true) ∧ Below w.heap.size w w') := by
  have HMB : Hid (∀ W, Below w.heap.size w W → Hm W) := Lib.hid (fun W hW => hm.below hW)
  obtain ⟨VX, hVX⟩ : ∃ V, V = (⟨k, c, q, m.da⟩ : Mg).vals := ⟨_, rfl⟩
  have HI_VX : Hid ((Tryd.prog.info? 24).map (·.size) = some VX.length) := Lib.hid (by rw [hVX]; exact Tryd.infoMg _)
  have HO_VX : Hid (VX.toArray.all (·.oneCell') = true) := Lib.hid (by rw [hVX]; exact mg_one _)
  have HL_VX : Hid (VX.length = 4) := Lib.hid (by rw [hVX]; rfl)
  obtain ⟨VY, hVY⟩ : ∃ V, V = (⟨11, c', 0, m.da⟩ : Mg).vals := ⟨_, rfl⟩
  have HI_VY : Hid ((Tryd.prog.info? 24).map (·.size) = some VY.length) := Lib.hid (by rw [hVY]; exact Tryd.infoMg _)
  have HO_VY : Hid (VY.toArray.all (·.oneCell') = true) := Lib.hid (by rw [hVY]; exact mg_one _)
  have HL_VY : Hid (VY.length = 4) := Lib.hid (by rw [hVY]; rfl)
  have CA : Hid (∀ W, Below w.heap.size w W → Calls Tryd.prog 11 #[.agg m.vals.toArray, .int .i64 a, .int .i64 b, .int .i64 len] W (fun e w' => e = .returned (.tuple #[.agg VX.toArray, .bool true]) ∧ Below W.heap.size W w')) := Lib.hid (fun W hW => by have hmW := HMB.out W hW; have h := psix_any m a b len W hr; rw [e6] at h; rw [hVX]; exact h)
  have CB : Hid (∀ W, Calls Tryd.prog 12 #[.agg m.vals.toArray, .int .i64 a, .int .i64 b] W (fun e w' => e = .returned (.tuple #[.agg VY.toArray, .bool true]) ∧ Below W.heap.size W w')) := Lib.hid (fun W => by have h := pfour_any m a b W hr; rw [e4] at h; rw [hVY]; exact h)
  have HNV_M : Hid (∀ W, (binOp .neq 24 (.agg m.vals.toArray) (.agg m.vals.toArray)).run Tryd.prog W = .ok (.bool false) W) := Lib.hid (fun W => neqM m W)
  obtain ⟨V6, hV6⟩ : ∃ V, V = (four (⟨k, c, q, m.da⟩ : Mg) a b).1.vals := ⟨_, rfl⟩
  have HI_V6 : Hid ((Tryd.prog.info? 24).map (·.size) = some V6.length) := Lib.hid (by rw [hV6]; exact Tryd.infoMg _)
  have HO_V6 : Hid (V6.toArray.all (·.oneCell') = true) := Lib.hid (by rw [hV6]; exact mg_one _)
  have HL_V6 : Hid (V6.length = 4) := Lib.hid (by rw [hV6]; rfl)
  have CC : Hid (∀ W, Calls Tryd.prog 12 #[.agg VX.toArray, .int .i64 a, .int .i64 b] W (fun e w' => e = .returned (.tuple #[.agg V6.toArray, .bool (four (⟨k, c, q, m.da⟩ : Mg) a b).2]) ∧ Below W.heap.size W w')) := Lib.hid (fun W => by rw [hVX, hV6]; exact pfour_any (⟨k, c, q, m.da⟩ : Mg) a b W ⟨by show 0 ≤ q; omega, by show q < _; omega⟩)
  clear hV6
  generalize (four (⟨k, c, q, m.da⟩ : Mg) a b).2 = o6 at *
  obtain ⟨V4, hV4⟩ : ∃ V, V = (six (⟨11, c', 0, m.da⟩ : Mg) a b len).1.vals := ⟨_, rfl⟩
  have HI_V4 : Hid ((Tryd.prog.info? 24).map (·.size) = some V4.length) := Lib.hid (by rw [hV4]; exact Tryd.infoMg _)
  have HO_V4 : Hid (V4.toArray.all (·.oneCell') = true) := Lib.hid (by rw [hV4]; exact mg_one _)
  have HL_V4 : Hid (V4.length = 4) := Lib.hid (by rw [hV4]; rfl)
  have CD : Hid (∀ W, Below w.heap.size w W → Calls Tryd.prog 11 #[.agg VY.toArray, .int .i64 a, .int .i64 b, .int .i64 len] W (fun e w' => e = .returned (.tuple #[.agg V4.toArray, .bool (six (⟨11, c', 0, m.da⟩ : Mg) a b len).2]) ∧ Below W.heap.size W w')) := Lib.hid (fun W hW => by have hmW := HMB.out W hW; rw [hVY, hV4]; exact psix_any (⟨11, c', 0, m.da⟩ : Mg) a b len W ⟨by show (0 : Int) ≤ 0; omega, by show (0 : Int) < 4294967296; omega⟩)
  clear hV4
  generalize (six (⟨11, c', 0, m.da⟩ : Mg) a b len).2 = o4 at *
  have HVX_0 : Hid (VX[0]? = some (.int .i64 k)) := Lib.hid (by rw [hVX]; rfl)
  have HVX_2 : Hid (VX[2]? = some (.int .u32 q)) := Lib.hid (by rw [hVX]; rfl)
  have HVX_3 : Hid (VX[3]? = some (.string m.da)) := Lib.hid (by rw [hVX]; rfl)
  have HVY_0 : Hid (VY[0]? = some (.int .i64 11)) := Lib.hid (by rw [hVY]; rfl)
  have HVY_1 : Hid (VY[1]? = some (.int .i64 c')) := Lib.hid (by rw [hVY]; rfl)
  have HVY_3 : Hid (VY[3]? = some (.string m.da)) := Lib.hid (by rw [hVY]; rfl)
  clear e6 e4 hVX hVY
  have n8 : (m.kd == 8) = false := by rw [beq_eq_false_iff_ne]; exact g8
  have n0 : (m.kd == 0) = false := by rw [beq_eq_false_iff_ne]; exact g0
  have k1 : ¬ 128 ≤ k := by omega
  have k2 : ¬ k < 1 := by omega
  have k4 : ¬ 4 < k := by omega
  have k5 : (k == 2) = false := by rw [beq_eq_false_iff_ne]; omega
  clear g8 g0 kk
  have gk' : ¬ 128 ≤ m.kd := by omega
  have HI_VM : Hid ((Tryd.prog.info? 24).map (·.size) = some m.vals.length) := Lib.hid (Tryd.infoMg _)
  have HO_VM : Hid (m.vals.toArray.all (·.oneCell') = true) := Lib.hid (mg_one _)
  have HL_VM : Hid (m.vals.length = 4) := Lib.hid rfl
  have HM0 : Hid (m.vals[0]? = some (.int .i64 m.kd)) := Lib.hid (rfl)
  have HM1 : Hid (m.vals[1]? = some (.int .i64 m.cd)) := Lib.hid (rfl)
  have HM2 : Hid (m.vals[2]? = some (.int .u32 m.rs)) := Lib.hid (rfl)
  have HM3 : Hid (m.vals[3]? = some (.string m.da)) := Lib.hid (rfl)
  have HK1 : Hid (Kp w w.heap.size [(w.heap.size, 24, m.vals)] (w.alloc (.cells m.vals.toArray 24))) := Lib.hid ((Kp.start w).new 24 m.vals)
  generalize m.vals = VM at *
  generalize hw1 : w.alloc (.cells VM.toArray 24) = w1 at *
  go_enter Tryd.func7, Tryd.ntmps7
  go_upto_region 1 with (fail)
  clear hw1
  go_wp2_with (fail)
  refine (awake14_true _ (HMB.out _ HK1.out.2.1)).mono ?_
  rintro e w2 ⟨rfl, bb⟩
  have HK2 := Lib.hid (HK1.out.below bb (Nat.le_refl _))
  clear bb HK1
  have c3 : w2.cell? ⟨w.heap.size, 3, none⟩ = some (.string m.da) := HK2.out.hd.at HM3.out
  go_upto_region 5 with (fail)
  clear c3
  have hr0 := HK2.out.hd.range
  go_wp2_with (((with_reducible (change wpList _ _ _ _ _ _)); ((refine wpList_load_mid rfl 24 _ rfl (w.heap.size) 0 rfl (VM) _ hr0 Tryd.underlying24 rfl HI_VM.out ?_))))
  clear hr0
  refine (CA.out _ HK2.out.2.1).mono ?_
  rintro e w3 ⟨rfl, bb⟩
  have HK3 := Lib.hid (HK2.out.below bb (Nat.le_refl _))
  clear bb HK2
  have ht := (bk_new w3 24 ([.int .i64 0, .int .i64 0, .int .u32 0, .string ⟨#[]⟩] : List Value).toArray).there VX.toArray.size (by have := HL_VX.out; simp; omega)
  go_upto_region 6 with (((with_reducible (change wpList _ _ _ _ _ _)); ((refine wpList_store_mid rfl 24 _ _ rfl (w3.heap.size) 0 VX.toArray rfl rfl ht (by simpa using HI_VX.out) HO_VX.out ?_))))
  have HK4 := Lib.hid (HK3.out.put 24 ([.int .i64 0, .int .i64 0, .int .u32 0, .string ⟨#[]⟩] : List Value).toArray VX (by have := HL_VX.out; simp; omega))
  clear ht HK3
  generalize (w3.alloc (.cells ([.int .i64 0, .int .i64 0, .int .u32 0, .string ⟨#[]⟩] : List Value).toArray 24)).setCells w3.heap.size 0 VX = w4 at *
  generalize w3.heap.size = g1 at *
  have hr0 := HK4.out.tl.hd.range
  go_wp2_with (((with_reducible (change wpList _ _ _ _ _ _)); ((refine wpList_load_mid rfl 24 _ rfl (w.heap.size) 0 rfl (VM) _ hr0 Tryd.underlying24 rfl HI_VM.out ?_))))
  clear hr0
  refine (CB.out _).mono ?_
  rintro e w5 ⟨rfl, bb⟩
  have HK5 := Lib.hid (HK4.out.below bb (Nat.le_refl _))
  clear bb HK4
  have ht := (bk_new w5 24 ([.int .i64 0, .int .i64 0, .int .u32 0, .string ⟨#[]⟩] : List Value).toArray).there VY.toArray.size (by have := HL_VY.out; simp; omega)
  go_upto_region 7 with (((with_reducible (change wpList _ _ _ _ _ _)); ((refine wpList_store_mid rfl 24 _ _ rfl (w5.heap.size) 0 VY.toArray rfl rfl ht (by simpa using HI_VY.out) HO_VY.out ?_))))
  have HK6 := Lib.hid (HK5.out.put 24 ([.int .i64 0, .int .i64 0, .int .u32 0, .string ⟨#[]⟩] : List Value).toArray VY (by have := HL_VY.out; simp; omega))
  clear ht HK5
  generalize (w5.alloc (.cells ([.int .i64 0, .int .i64 0, .int .u32 0, .string ⟨#[]⟩] : List Value).toArray 24)).setCells w5.heap.size 0 VY = w6 at *
  generalize w5.heap.size = g2 at *
  have hr0 := HK6.out.tl.hd.range
  have hr1 := HK6.out.hd.range
  have c3 : w6.cell? ⟨w.heap.size, 3, none⟩ = some (.string m.da) := HK6.out.tl.tl.hd.at HM3.out
  have dg13 : w6.cell? ⟨g1, 3, none⟩ = some (.string m.da) := HK6.out.tl.hd.at HVX_3.out
  have dg23 : w6.cell? ⟨g2, 3, none⟩ = some (.string m.da) := HK6.out.hd.at HVY_3.out
  go_upto_region 9 with (fail)
  clear hr0 hr1 c3 dg13 dg23
  have c0 : w6.cell? ⟨w.heap.size, 0, none⟩ = some (.int .i64 m.kd) := HK6.out.tl.tl.hd.at HM0.out
  go_upto_region 11 with (fail)
  clear c0
  have hr0 := HK6.out.tl.hd.range
  go_wp2_with (((with_reducible (change wpList _ _ _ _ _ _)); ((refine wpList_load_mid rfl 24 _ rfl (g1) 0 rfl (VX) _ hr0 Tryd.underlying24 rfl HI_VX.out ?_))))
  clear hr0
  refine (CC.out _).mono ?_
  rintro e w7 ⟨rfl, bb⟩
  have HK7 := Lib.hid (HK6.out.below bb (Nat.le_refl _))
  clear bb HK6
  have ht := (bk_new w7 24 ([.int .i64 0, .int .i64 0, .int .u32 0, .string ⟨#[]⟩] : List Value).toArray).there V6.toArray.size (by have := HL_V6.out; simp; omega)
  go_upto_region 12 with (((with_reducible (change wpList _ _ _ _ _ _)); ((refine wpList_store_mid rfl 24 _ _ rfl (w7.heap.size) 0 V6.toArray rfl rfl ht (by simpa using HI_V6.out) HO_V6.out ?_))))
  have HK8 := Lib.hid (HK7.out.put 24 ([.int .i64 0, .int .i64 0, .int .u32 0, .string ⟨#[]⟩] : List Value).toArray V6 (by have := HL_V6.out; simp; omega))
  clear ht HK7
  generalize (w7.alloc (.cells ([.int .i64 0, .int .i64 0, .int .u32 0, .string ⟨#[]⟩] : List Value).toArray 24)).setCells w7.heap.size 0 V6 = w8 at *
  generalize w7.heap.size = g3 at *
  have dg10 : w8.cell? ⟨g1, 0, none⟩ = some (.int .i64 k) := HK8.out.tl.tl.hd.at HVX_0.out
  have dg12 : w8.cell? ⟨g1, 2, none⟩ = some (.int .u32 q) := HK8.out.tl.tl.hd.at HVX_2.out
  go_upto_region 14 with (fail)
  go_upto_region 16 with (fail)
  clear dg10 dg12
  go_upto_region 17 with (fail)
  have c0 : w8.cell? ⟨w.heap.size, 0, none⟩ = some (.int .i64 m.kd) := HK8.out.tl.tl.tl.hd.at HM0.out
  go_upto_region 18 with (fail)
  clear c0
  have hr0 := HK8.out.tl.hd.range
  go_wp2_with (((with_reducible (change wpList _ _ _ _ _ _)); ((refine wpList_load_mid rfl 24 _ rfl (g2) 0 rfl (VY) _ hr0 Tryd.underlying24 rfl HI_VY.out ?_))))
  clear hr0
  refine (CD.out _ HK8.out.2.1).mono ?_
  rintro e w9 ⟨rfl, bb⟩
  have HK9 := Lib.hid (HK8.out.below bb (Nat.le_refl _))
  clear bb HK8
  have ht := (bk_new w9 24 ([.int .i64 0, .int .i64 0, .int .u32 0, .string ⟨#[]⟩] : List Value).toArray).there V4.toArray.size (by have := HL_V4.out; simp; omega)
  go_upto_region 19 with (((with_reducible (change wpList _ _ _ _ _ _)); ((refine wpList_store_mid rfl 24 _ _ rfl (w9.heap.size) 0 V4.toArray rfl rfl ht (by simpa using HI_V4.out) HO_V4.out ?_))))
  have HK10 := Lib.hid (HK9.out.put 24 ([.int .i64 0, .int .i64 0, .int .u32 0, .string ⟨#[]⟩] : List Value).toArray V4 (by have := HL_V4.out; simp; omega))
  clear ht HK9
  generalize (w9.alloc (.cells ([.int .i64 0, .int .i64 0, .int .u32 0, .string ⟨#[]⟩] : List Value).toArray 24)).setCells w9.heap.size 0 V4 = w10 at *
  generalize w9.heap.size = g4 at *
  have dg20 : w10.cell? ⟨g2, 0, none⟩ = some (.int .i64 11) := HK10.out.tl.tl.hd.at HVY_0.out
  have dg21 : w10.cell? ⟨g2, 1, none⟩ = some (.int .i64 c') := HK10.out.tl.tl.hd.at HVY_1.out
  go_upto_region 21 with (fail)
  go_wp2_with (fail)
  go_ret
  exact ⟨rfl, HK10.out.2.1⟩
set_option maxRecDepth 100000 in
set_option maxHeartbeats 4000000 in
theorem back14_n_n (m : Mg) (a b len : Int) (w : World) (hm : Hm w) (hr : 0 ≤ m.rs ∧ m.rs < 4294967296) (hd : ¬ (70000 : Int) < (m.da.size : Int)) (e6 : six m a b len = (mg0, false)) (e4 : four m a b = (mg0, false)) : Calls Tryd.prog 7 #[.agg m.vals.toArray, .int .i64 a, .int .i64 b, .int .i64 len] w (fun e w' => e = .returned (.bool true) ∧ Below w.heap.size w w') := by
  have HMB : Hid (∀ W, Below w.heap.size w W → Hm W) := Lib.hid (fun W hW => hm.below hW)
  obtain ⟨VZ, hVZ⟩ : ∃ V, V = mg0.vals := ⟨_, rfl⟩
  have HI_VZ : Hid ((Tryd.prog.info? 24).map (·.size) = some VZ.length) := Lib.hid (by rw [hVZ]; exact Tryd.infoMg _)
  have HO_VZ : Hid (VZ.toArray.all (·.oneCell') = true) := Lib.hid (by rw [hVZ]; exact mg_one _)
  have HL_VZ : Hid (VZ.length = 4) := Lib.hid (by rw [hVZ]; rfl)
  have HNV_VZ : Hid (∀ W, (binOp .neq 24 (.agg VZ.toArray) (.agg VZ.toArray)).run Tryd.prog W = .ok (.bool false) W) := Lib.hid (fun W => by rw [hVZ]; exact neqM _ W)
  have HBZ : Hid (∀ W, (Instr.build 24 #[]).run Tryd.prog W = .ok (.agg VZ.toArray) W) := Lib.hid (fun W => by rw [hVZ]; exact mgBuild W)
  have CA : Hid (∀ W, Below w.heap.size w W → Calls Tryd.prog 11 #[.agg m.vals.toArray, .int .i64 a, .int .i64 b, .int .i64 len] W (fun e w' => e = .returned (.tuple #[.agg VZ.toArray, .bool false]) ∧ Below W.heap.size W w')) := Lib.hid (fun W hW => by have hmW := HMB.out W hW; have h := psix_any m a b len W hr; rw [e6] at h; rw [hVZ]; exact h)
  have CB : Hid (∀ W, Calls Tryd.prog 12 #[.agg m.vals.toArray, .int .i64 a, .int .i64 b] W (fun e w' => e = .returned (.tuple #[.agg VZ.toArray, .bool false]) ∧ Below W.heap.size W w')) := Lib.hid (fun W => by have h := pfour_any m a b W hr; rw [e4] at h; rw [hVZ]; exact h)
  have HNV_M : Hid (∀ W, (binOp .neq 24 (.agg m.vals.toArray) (.agg m.vals.toArray)).run Tryd.prog W = .ok (.bool false) W) := Lib.hid (fun W => neqM m W)
  clear e6 e4 hVZ
  have HI_VM : Hid ((Tryd.prog.info? 24).map (·.size) = some m.vals.length) := Lib.hid (Tryd.infoMg _)
  have HO_VM : Hid (m.vals.toArray.all (·.oneCell') = true) := Lib.hid (mg_one _)
  have HL_VM : Hid (m.vals.length = 4) := Lib.hid rfl
  have HM0 : Hid (m.vals[0]? = some (.int .i64 m.kd)) := Lib.hid (rfl)
  have HM1 : Hid (m.vals[1]? = some (.int .i64 m.cd)) := Lib.hid (rfl)
  have HM2 : Hid (m.vals[2]? = some (.int .u32 m.rs)) := Lib.hid (rfl)
  have HM3 : Hid (m.vals[3]? = some (.string m.da)) := Lib.hid (rfl)
  have HK1 : Hid (Kp w w.heap.size [(w.heap.size, 24, m.vals)] (w.alloc (.cells m.vals.toArray 24))) := Lib.hid ((Kp.start w).new 24 m.vals)
  generalize m.vals = VM at *
  generalize hw1 : w.alloc (.cells VM.toArray 24) = w1 at *
  go_enter Tryd.func7, Tryd.ntmps7
  go_upto_region 1 with (fail)
  clear hw1
  go_wp2_with (fail)
  refine (awake14_true _ (HMB.out _ HK1.out.2.1)).mono ?_
  rintro e w2 ⟨rfl, bb⟩
  have HK2 := Lib.hid (HK1.out.below bb (Nat.le_refl _))
  clear bb HK1
  have c3 : w2.cell? ⟨w.heap.size, 3, none⟩ = some (.string m.da) := HK2.out.hd.at HM3.out
  go_upto_region 5 with (fail)
  clear c3
  have hr0 := HK2.out.hd.range
  go_wp2_with (((with_reducible (change wpList _ _ _ _ _ _)); ((refine wpList_load_mid rfl 24 _ rfl (w.heap.size) 0 rfl (VM) _ hr0 Tryd.underlying24 rfl HI_VM.out ?_))))
  clear hr0
  refine (CA.out _ HK2.out.2.1).mono ?_
  rintro e w3 ⟨rfl, bb⟩
  have HK3 := Lib.hid (HK2.out.below bb (Nat.le_refl _))
  clear bb HK2
  have ht := (bk_new w3 24 ([.int .i64 0, .int .i64 0, .int .u32 0, .string ⟨#[]⟩] : List Value).toArray).there VZ.toArray.size (by have := HL_VZ.out; simp; omega)
  go_upto_region 6 with (((with_reducible (change wpList _ _ _ _ _ _)); ((refine wpList_store_mid rfl 24 _ _ rfl (w3.heap.size) 0 VZ.toArray rfl rfl ht (by simpa using HI_VZ.out) HO_VZ.out ?_))))
  have HK4 := Lib.hid (HK3.out.put 24 ([.int .i64 0, .int .i64 0, .int .u32 0, .string ⟨#[]⟩] : List Value).toArray VZ (by have := HL_VZ.out; simp; omega))
  clear ht HK3
  generalize (w3.alloc (.cells ([.int .i64 0, .int .i64 0, .int .u32 0, .string ⟨#[]⟩] : List Value).toArray 24)).setCells w3.heap.size 0 VZ = w4 at *
  generalize w3.heap.size = g1 at *
  have hr0 := HK4.out.tl.hd.range
  go_wp2_with (((with_reducible (change wpList _ _ _ _ _ _)); ((refine wpList_load_mid rfl 24 _ rfl (w.heap.size) 0 rfl (VM) _ hr0 Tryd.underlying24 rfl HI_VM.out ?_))))
  clear hr0
  refine (CB.out _).mono ?_
  rintro e w5 ⟨rfl, bb⟩
  have HK5 := Lib.hid (HK4.out.below bb (Nat.le_refl _))
  clear bb HK4
  have ht := (bk_new w5 24 ([.int .i64 0, .int .i64 0, .int .u32 0, .string ⟨#[]⟩] : List Value).toArray).there VZ.toArray.size (by have := HL_VZ.out; simp; omega)
  go_upto_region 7 with (((with_reducible (change wpList _ _ _ _ _ _)); ((refine wpList_store_mid rfl 24 _ _ rfl (w5.heap.size) 0 VZ.toArray rfl rfl ht (by simpa using HI_VZ.out) HO_VZ.out ?_))))
  have HK6 := Lib.hid (HK5.out.put 24 ([.int .i64 0, .int .i64 0, .int .u32 0, .string ⟨#[]⟩] : List Value).toArray VZ (by have := HL_VZ.out; simp; omega))
  clear ht HK5
  generalize (w5.alloc (.cells ([.int .i64 0, .int .i64 0, .int .u32 0, .string ⟨#[]⟩] : List Value).toArray 24)).setCells w5.heap.size 0 VZ = w6 at *
  generalize w5.heap.size = g2 at *
  have hr0 := HK6.out.tl.hd.range
  have hr1 := HK6.out.hd.range
  have hnz := HNV_VZ.out
  have c3 : w6.cell? ⟨w.heap.size, 3, none⟩ = some (.string m.da) := HK6.out.tl.tl.hd.at HM3.out
  refine wp_region_list ?_
  refine wpList_exec_if (op := { dst := some 40, op := Op.move (Operand.tmp 10), type := 4, pos := "outright.go:18", after := #[], guard := none }) (by kernel_rfl) ?_ ?_ ?_
  rotate_left
  · (go_simp; try with_reducible rfl)
  (try simp only [Act.put, List.setIfInBounds_toArray, List.set_cons_zero, List.set_cons_succ])
  refine wpList_exec_if (op := { dst := some 41, op := Op.unOp UnOp.not 4 (Operand.tmp 40), type := 4, pos := "outright.go:18", after := #[{ on := 0, ground := Ground.data }], guard := none }) (by kernel_rfl) ?_ ?_ ?_
  rotate_left
  · (go_simp; try with_reducible rfl)
  (try simp only [Act.put, List.setIfInBounds_toArray, List.set_cons_zero, List.set_cons_succ])
  refine wpList_exec_if (op := { dst := some 42, op := Op.move (Operand.tmp 41), type := 4, pos := "outright.go:18", after := #[{ on := 1, ground := Ground.data }], guard := none }) (by kernel_rfl) ?_ ?_ ?_
  rotate_left
  · (go_simp; try with_reducible rfl)
  (try simp only [Act.put, List.setIfInBounds_toArray, List.set_cons_zero, List.set_cons_succ])
  refine wpList_load_if (op := { dst := some 43, op := Op.load 24 (Operand.tmp 9), type := 24, pos := "outright.go:18", after := #[{ on := 2, ground := Ground.guard }], guard := some (2, true) }) (by kernel_rfl) 24 _ rfl g1 0 rfl VZ _ hr0 Tryd.underlying24 rfl HI_VZ.out ?_
  (try simp only [Act.put, List.setIfInBounds_toArray, List.set_cons_zero, List.set_cons_succ])
  refine wpList_exec_if (op := { dst := some 44, op := Op.build 24 #[], type := 24, pos := "outright.go:18", after := #[{ on := 2, ground := Ground.guard }], guard := some (2, true) }) (by kernel_rfl) (.agg VZ.toArray) ?_ ?_
  · (exact run_execN (T := 24) (l := #[]) (m := #[]) rfl (by simp) (HBZ.out _))
  (try simp only [Act.put, List.setIfInBounds_toArray, List.set_cons_zero, List.set_cons_succ])
  refine wpList_exec_if (op := { dst := some 45, op := Op.binOp BinOp.neq 24 (Operand.tmp 43) (Operand.tmp 44) 24, type := 4, pos := "outright.go:18", after := #[{ on := 3, ground := Ground.data }, { on := 4, ground := Ground.data }, { on := 2, ground := Ground.guard }], guard := some (2, true) }) (by kernel_rfl) (.bool false) ?_ ?_
  · (go_simp; try with_reducible rfl)
  (try simp only [Act.put, List.setIfInBounds_toArray, List.set_cons_zero, List.set_cons_succ])
  refine wpList_exec_if (op := { dst := some 46, op := Op.pick (Operand.tmp 42) (Operand.tmp 45) (Operand.const (Value.bool false)), type := 4, pos := "outright.go:18", after := #[{ on := 2, ground := Ground.data }, { on := 5, ground := Ground.data }], guard := none }) (by kernel_rfl) ?_ ?_ ?_
  rotate_left
  · (go_simp; try with_reducible rfl)
  (try simp only [Act.put, List.setIfInBounds_toArray, List.set_cons_zero, List.set_cons_succ])
  refine wpList_exec_if (op := { dst := some 47, op := Op.move (Operand.tmp 46), type := 4, pos := "outright.go:18", after := #[{ on := 6, ground := Ground.data }, { on := 2, ground := Ground.chain }], guard := none }) (by kernel_rfl) ?_ ?_ ?_
  rotate_left
  · (go_simp; try with_reducible rfl)
  (try simp only [Act.put, List.setIfInBounds_toArray, List.set_cons_zero, List.set_cons_succ])
  refine wpList_exec_if (op := { dst := some 48, op := Op.move (Operand.tmp 12), type := 4, pos := "outright.go:18", after := #[{ on := 7, ground := Ground.guard }], guard := some (7, false) }) (by kernel_rfl) ?_ ?_ ?_
  rotate_left
  · (go_simp; try with_reducible rfl)
  (try simp only [Act.put, List.setIfInBounds_toArray, List.set_cons_zero, List.set_cons_succ])
  refine wpList_exec_if (op := { dst := some 49, op := Op.unOp UnOp.not 4 (Operand.tmp 48), type := 4, pos := "outright.go:18", after := #[{ on := 8, ground := Ground.data }, { on := 7, ground := Ground.guard }], guard := some (7, false) }) (by kernel_rfl) ?_ ?_ ?_
  rotate_left
  · (go_simp; try with_reducible rfl)
  (try simp only [Act.put, List.setIfInBounds_toArray, List.set_cons_zero, List.set_cons_succ])
  refine wpList_exec_if (op := { dst := some 50, op := Op.move (Operand.tmp 49), type := 4, pos := "outright.go:18", after := #[{ on := 9, ground := Ground.data }, { on := 7, ground := Ground.chain }, { on := 7, ground := Ground.guard }], guard := some (7, false) }) (by kernel_rfl) ?_ ?_ ?_
  rotate_left
  · (go_simp; try with_reducible rfl)
  (try simp only [Act.put, List.setIfInBounds_toArray, List.set_cons_zero, List.set_cons_succ])
  refine wpList_load_if (op := { dst := some 51, op := Op.load 24 (Operand.tmp 11), type := 24, pos := "outright.go:18", after := #[{ on := 10, ground := Ground.guard }], guard := some (10, true) }) (by kernel_rfl) 24 _ rfl g2 0 rfl VZ _ hr1 Tryd.underlying24 rfl HI_VZ.out ?_
  (try simp only [Act.put, List.setIfInBounds_toArray, List.set_cons_zero, List.set_cons_succ])
  refine wpList_exec_if (op := { dst := some 52, op := Op.build 24 #[], type := 24, pos := "outright.go:18", after := #[{ on := 10, ground := Ground.guard }], guard := some (10, true) }) (by kernel_rfl) (.agg VZ.toArray) ?_ ?_
  · (exact run_execN (T := 24) (l := #[]) (m := #[]) rfl (by simp) (HBZ.out _))
  (try simp only [Act.put, List.setIfInBounds_toArray, List.set_cons_zero, List.set_cons_succ])
  refine wpList_exec_if (op := { dst := some 53, op := Op.binOp BinOp.neq 24 (Operand.tmp 51) (Operand.tmp 52) 24, type := 4, pos := "outright.go:18", after := #[{ on := 11, ground := Ground.data }, { on := 12, ground := Ground.data }, { on := 10, ground := Ground.guard }], guard := some (10, true) }) (by kernel_rfl) (.bool false) ?_ ?_
  · (go_simp; try with_reducible rfl)
  (try simp only [Act.put, List.setIfInBounds_toArray, List.set_cons_zero, List.set_cons_succ])
  go_upto_region 9 with (fail)
  clear hr0 hr1 c3 hnz
  go_upto_region 16 with (fail)
  go_wp2_with (fail)
  go_ret
  exact ⟨rfl, HK6.out.2.1⟩
set_option maxRecDepth 100000 in
set_option maxHeartbeats 4000000 in
theorem back14_n_E128 (m : Mg) (a b len : Int) (w : World) (hm : Hm w) (hr : 0 ≤ m.rs ∧ m.rs < 4294967296) (hd : ¬ (70000 : Int) < (m.da.size : Int)) (hb : mtus a b = true) (k8 : m.kd = 128) (c8 : m.cd = 0) (e6 : six m a b len = (mg0, false)) (e4 : four m a b = ((⟨8, 0, m.rs, m.da⟩ : Mg), true)) : Calls Tryd.prog 7 #[.agg m.vals.toArray, .int .i64 a, .int .i64 b, .int .i64 len] w (fun e w' => e = .returned (.bool true) ∧ Below w.heap.size w w') := by
  have HMB : Hid (∀ W, Below w.heap.size w W → Hm W) := Lib.hid (fun W hW => hm.below hW)
  obtain ⟨VZ, hVZ⟩ : ∃ V, V = mg0.vals := ⟨_, rfl⟩
  have HI_VZ : Hid ((Tryd.prog.info? 24).map (·.size) = some VZ.length) := Lib.hid (by rw [hVZ]; exact Tryd.infoMg _)
  have HO_VZ : Hid (VZ.toArray.all (·.oneCell') = true) := Lib.hid (by rw [hVZ]; exact mg_one _)
  have HL_VZ : Hid (VZ.length = 4) := Lib.hid (by rw [hVZ]; rfl)
  have HNV_VZ : Hid (∀ W, (binOp .neq 24 (.agg VZ.toArray) (.agg VZ.toArray)).run Tryd.prog W = .ok (.bool false) W) := Lib.hid (fun W => by rw [hVZ]; exact neqM _ W)
  have HBZ : Hid (∀ W, (Instr.build 24 #[]).run Tryd.prog W = .ok (.agg VZ.toArray) W) := Lib.hid (fun W => by rw [hVZ]; exact mgBuild W)
  obtain ⟨VY, hVY⟩ : ∃ V, V = (⟨8, 0, m.rs, m.da⟩ : Mg).vals := ⟨_, rfl⟩
  have HI_VY : Hid ((Tryd.prog.info? 24).map (·.size) = some VY.length) := Lib.hid (by rw [hVY]; exact Tryd.infoMg _)
  have HO_VY : Hid (VY.toArray.all (·.oneCell') = true) := Lib.hid (by rw [hVY]; exact mg_one _)
  have HL_VY : Hid (VY.length = 4) := Lib.hid (by rw [hVY]; rfl)
  have CA : Hid (∀ W, Below w.heap.size w W → Calls Tryd.prog 11 #[.agg m.vals.toArray, .int .i64 a, .int .i64 b, .int .i64 len] W (fun e w' => e = .returned (.tuple #[.agg VZ.toArray, .bool false]) ∧ Below W.heap.size W w')) := Lib.hid (fun W hW => by have hmW := HMB.out W hW; have h := psix_any m a b len W hr; rw [e6] at h; rw [hVZ]; exact h)
  have CB : Hid (∀ W, Calls Tryd.prog 12 #[.agg m.vals.toArray, .int .i64 a, .int .i64 b] W (fun e w' => e = .returned (.tuple #[.agg VY.toArray, .bool true]) ∧ Below W.heap.size W w')) := Lib.hid (fun W => by have h := pfour_any m a b W hr; rw [e4] at h; rw [hVY]; exact h)
  have HNV_M : Hid (∀ W, (binOp .neq 24 (.agg m.vals.toArray) (.agg m.vals.toArray)).run Tryd.prog W = .ok (.bool false) W) := Lib.hid (fun W => neqM m W)
  have hme : (⟨128, 0, m.rs, m.da⟩ : Mg) = m := by obtain ⟨k, c, r, d⟩ := m; simp only at k8 c8; rw [k8, c8]
  have CD : Hid (∀ W, Below w.heap.size w W → Calls Tryd.prog 11 #[.agg VY.toArray, .int .i64 a, .int .i64 b, .int .i64 len] W (fun e w' => e = .returned (.tuple #[.agg m.vals.toArray, .bool true]) ∧ Below W.heap.size W w')) := Lib.hid (fun W hW => by have hmW := HMB.out W hW; have h := psix_any (⟨8, 0, m.rs, m.da⟩ : Mg) a b len W hr; rw [(echo4 a b len m.rs m.da hb).1, hme] at h; rw [hVY]; exact h)
  have HVY_0 : Hid (VY[0]? = some (.int .i64 8)) := Lib.hid (by rw [hVY]; rfl)
  have HVY_1 : Hid (VY[1]? = some (.int .i64 0)) := Lib.hid (by rw [hVY]; rfl)
  have HVY_2 : Hid (VY[2]? = some (.int .u32 m.rs)) := Lib.hid (by rw [hVY]; rfl)
  have HVY_3 : Hid (VY[3]? = some (.string m.da)) := Lib.hid (by rw [hVY]; rfl)
  clear e6 e4 hVZ hVY hme hb
  have HQ0 := Lib.hid k8
  clear k8 c8
  have HI_VM : Hid ((Tryd.prog.info? 24).map (·.size) = some m.vals.length) := Lib.hid (Tryd.infoMg _)
  have HO_VM : Hid (m.vals.toArray.all (·.oneCell') = true) := Lib.hid (mg_one _)
  have HL_VM : Hid (m.vals.length = 4) := Lib.hid rfl
  have HM0 : Hid (m.vals[0]? = some (.int .i64 128)) := Lib.hid (by rw [← HQ0.out]; rfl)
  have HM1 : Hid (m.vals[1]? = some (.int .i64 m.cd)) := Lib.hid (rfl)
  have HM2 : Hid (m.vals[2]? = some (.int .u32 m.rs)) := Lib.hid (rfl)
  have HM3 : Hid (m.vals[3]? = some (.string m.da)) := Lib.hid (rfl)
  have HK1 : Hid (Kp w w.heap.size [(w.heap.size, 24, m.vals)] (w.alloc (.cells m.vals.toArray 24))) := Lib.hid ((Kp.start w).new 24 m.vals)
  generalize m.vals = VM at *
  generalize hw1 : w.alloc (.cells VM.toArray 24) = w1 at *
  go_enter Tryd.func7, Tryd.ntmps7
  go_upto_region 1 with (fail)
  clear hw1
  go_wp2_with (fail)
  refine (awake14_true _ (HMB.out _ HK1.out.2.1)).mono ?_
  rintro e w2 ⟨rfl, bb⟩
  have HK2 := Lib.hid (HK1.out.below bb (Nat.le_refl _))
  clear bb HK1
  have c3 : w2.cell? ⟨w.heap.size, 3, none⟩ = some (.string m.da) := HK2.out.hd.at HM3.out
  go_upto_region 5 with (fail)
  clear c3
  have hr0 := HK2.out.hd.range
  go_wp2_with (((with_reducible (change wpList _ _ _ _ _ _)); ((refine wpList_load_mid rfl 24 _ rfl (w.heap.size) 0 rfl (VM) _ hr0 Tryd.underlying24 rfl HI_VM.out ?_))))
  clear hr0
  refine (CA.out _ HK2.out.2.1).mono ?_
  rintro e w3 ⟨rfl, bb⟩
  have HK3 := Lib.hid (HK2.out.below bb (Nat.le_refl _))
  clear bb HK2
  have ht := (bk_new w3 24 ([.int .i64 0, .int .i64 0, .int .u32 0, .string ⟨#[]⟩] : List Value).toArray).there VZ.toArray.size (by have := HL_VZ.out; simp; omega)
  go_upto_region 6 with (((with_reducible (change wpList _ _ _ _ _ _)); ((refine wpList_store_mid rfl 24 _ _ rfl (w3.heap.size) 0 VZ.toArray rfl rfl ht (by simpa using HI_VZ.out) HO_VZ.out ?_))))
  have HK4 := Lib.hid (HK3.out.put 24 ([.int .i64 0, .int .i64 0, .int .u32 0, .string ⟨#[]⟩] : List Value).toArray VZ (by have := HL_VZ.out; simp; omega))
  clear ht HK3
  generalize (w3.alloc (.cells ([.int .i64 0, .int .i64 0, .int .u32 0, .string ⟨#[]⟩] : List Value).toArray 24)).setCells w3.heap.size 0 VZ = w4 at *
  generalize w3.heap.size = g1 at *
  have hr0 := HK4.out.tl.hd.range
  go_wp2_with (((with_reducible (change wpList _ _ _ _ _ _)); ((refine wpList_load_mid rfl 24 _ rfl (w.heap.size) 0 rfl (VM) _ hr0 Tryd.underlying24 rfl HI_VM.out ?_))))
  clear hr0
  refine (CB.out _).mono ?_
  rintro e w5 ⟨rfl, bb⟩
  have HK5 := Lib.hid (HK4.out.below bb (Nat.le_refl _))
  clear bb HK4
  have ht := (bk_new w5 24 ([.int .i64 0, .int .i64 0, .int .u32 0, .string ⟨#[]⟩] : List Value).toArray).there VY.toArray.size (by have := HL_VY.out; simp; omega)
  go_upto_region 7 with (((with_reducible (change wpList _ _ _ _ _ _)); ((refine wpList_store_mid rfl 24 _ _ rfl (w5.heap.size) 0 VY.toArray rfl rfl ht (by simpa using HI_VY.out) HO_VY.out ?_))))
  have HK6 := Lib.hid (HK5.out.put 24 ([.int .i64 0, .int .i64 0, .int .u32 0, .string ⟨#[]⟩] : List Value).toArray VY (by have := HL_VY.out; simp; omega))
  clear ht HK5
  generalize (w5.alloc (.cells ([.int .i64 0, .int .i64 0, .int .u32 0, .string ⟨#[]⟩] : List Value).toArray 24)).setCells w5.heap.size 0 VY = w6 at *
  generalize w5.heap.size = g2 at *
  have hr0 := HK6.out.tl.hd.range
  have hr1 := HK6.out.hd.range
  have hnz := HNV_VZ.out
  have c3 : w6.cell? ⟨w.heap.size, 3, none⟩ = some (.string m.da) := HK6.out.tl.tl.hd.at HM3.out
  have dg23 : w6.cell? ⟨g2, 3, none⟩ = some (.string m.da) := HK6.out.hd.at HVY_3.out
  refine wp_region_list ?_
  refine wpList_exec_if (op := { dst := some 40, op := Op.move (Operand.tmp 10), type := 4, pos := "outright.go:18", after := #[], guard := none }) (by kernel_rfl) ?_ ?_ ?_
  rotate_left
  · (go_simp; try with_reducible rfl)
  (try simp only [Act.put, List.setIfInBounds_toArray, List.set_cons_zero, List.set_cons_succ])
  refine wpList_exec_if (op := { dst := some 41, op := Op.unOp UnOp.not 4 (Operand.tmp 40), type := 4, pos := "outright.go:18", after := #[{ on := 0, ground := Ground.data }], guard := none }) (by kernel_rfl) ?_ ?_ ?_
  rotate_left
  · (go_simp; try with_reducible rfl)
  (try simp only [Act.put, List.setIfInBounds_toArray, List.set_cons_zero, List.set_cons_succ])
  refine wpList_exec_if (op := { dst := some 42, op := Op.move (Operand.tmp 41), type := 4, pos := "outright.go:18", after := #[{ on := 1, ground := Ground.data }], guard := none }) (by kernel_rfl) ?_ ?_ ?_
  rotate_left
  · (go_simp; try with_reducible rfl)
  (try simp only [Act.put, List.setIfInBounds_toArray, List.set_cons_zero, List.set_cons_succ])
  refine wpList_load_if (op := { dst := some 43, op := Op.load 24 (Operand.tmp 9), type := 24, pos := "outright.go:18", after := #[{ on := 2, ground := Ground.guard }], guard := some (2, true) }) (by kernel_rfl) 24 _ rfl g1 0 rfl VZ _ hr0 Tryd.underlying24 rfl HI_VZ.out ?_
  (try simp only [Act.put, List.setIfInBounds_toArray, List.set_cons_zero, List.set_cons_succ])
  refine wpList_exec_if (op := { dst := some 44, op := Op.build 24 #[], type := 24, pos := "outright.go:18", after := #[{ on := 2, ground := Ground.guard }], guard := some (2, true) }) (by kernel_rfl) (.agg VZ.toArray) ?_ ?_
  · (exact run_execN (T := 24) (l := #[]) (m := #[]) rfl (by simp) (HBZ.out _))
  (try simp only [Act.put, List.setIfInBounds_toArray, List.set_cons_zero, List.set_cons_succ])
  refine wpList_exec_if (op := { dst := some 45, op := Op.binOp BinOp.neq 24 (Operand.tmp 43) (Operand.tmp 44) 24, type := 4, pos := "outright.go:18", after := #[{ on := 3, ground := Ground.data }, { on := 4, ground := Ground.data }, { on := 2, ground := Ground.guard }], guard := some (2, true) }) (by kernel_rfl) (.bool false) ?_ ?_
  · (go_simp; try with_reducible rfl)
  (try simp only [Act.put, List.setIfInBounds_toArray, List.set_cons_zero, List.set_cons_succ])
  refine wpList_exec_if (op := { dst := some 46, op := Op.pick (Operand.tmp 42) (Operand.tmp 45) (Operand.const (Value.bool false)), type := 4, pos := "outright.go:18", after := #[{ on := 2, ground := Ground.data }, { on := 5, ground := Ground.data }], guard := none }) (by kernel_rfl) ?_ ?_ ?_
  rotate_left
  · (go_simp; try with_reducible rfl)
  (try simp only [Act.put, List.setIfInBounds_toArray, List.set_cons_zero, List.set_cons_succ])
  refine wpList_exec_if (op := { dst := some 47, op := Op.move (Operand.tmp 46), type := 4, pos := "outright.go:18", after := #[{ on := 6, ground := Ground.data }, { on := 2, ground := Ground.chain }], guard := none }) (by kernel_rfl) ?_ ?_ ?_
  rotate_left
  · (go_simp; try with_reducible rfl)
  (try simp only [Act.put, List.setIfInBounds_toArray, List.set_cons_zero, List.set_cons_succ])
  refine wpList_exec_if (op := { dst := some 48, op := Op.move (Operand.tmp 12), type := 4, pos := "outright.go:18", after := #[{ on := 7, ground := Ground.guard }], guard := some (7, false) }) (by kernel_rfl) ?_ ?_ ?_
  rotate_left
  · (go_simp; try with_reducible rfl)
  (try simp only [Act.put, List.setIfInBounds_toArray, List.set_cons_zero, List.set_cons_succ])
  refine wpList_exec_if (op := { dst := some 49, op := Op.unOp UnOp.not 4 (Operand.tmp 48), type := 4, pos := "outright.go:18", after := #[{ on := 8, ground := Ground.data }, { on := 7, ground := Ground.guard }], guard := some (7, false) }) (by kernel_rfl) ?_ ?_ ?_
  rotate_left
  · (go_simp; try with_reducible rfl)
  (try simp only [Act.put, List.setIfInBounds_toArray, List.set_cons_zero, List.set_cons_succ])
  go_upto_region 9 with (fail)
  clear hr0 hr1 c3 dg23 hnz
  go_upto_region 16 with (fail)
  go_upto_region 17 with (fail)
  have c0 : w6.cell? ⟨w.heap.size, 0, none⟩ = some (.int .i64 128) := HK6.out.tl.tl.hd.at HM0.out
  go_upto_region 18 with (fail)
  clear c0
  have hr0 := HK6.out.hd.range
  go_wp2_with (((with_reducible (change wpList _ _ _ _ _ _)); ((refine wpList_load_mid rfl 24 _ rfl (g2) 0 rfl (VY) _ hr0 Tryd.underlying24 rfl HI_VY.out ?_))))
  clear hr0
  refine (CD.out _ HK6.out.2.1).mono ?_
  rintro e w7 ⟨rfl, bb⟩
  have HK7 := Lib.hid (HK6.out.below bb (Nat.le_refl _))
  clear bb HK6
  have ht := (bk_new w7 24 ([.int .i64 0, .int .i64 0, .int .u32 0, .string ⟨#[]⟩] : List Value).toArray).there VM.toArray.size (by have := HL_VM.out; simp; omega)
  go_upto_region 19 with (((with_reducible (change wpList _ _ _ _ _ _)); ((refine wpList_store_mid rfl 24 _ _ rfl (w7.heap.size) 0 VM.toArray rfl rfl ht (by simpa using HI_VM.out) HO_VM.out ?_))))
  have HK8 := Lib.hid (HK7.out.put 24 ([.int .i64 0, .int .i64 0, .int .u32 0, .string ⟨#[]⟩] : List Value).toArray VM (by have := HL_VM.out; simp; omega))
  clear ht HK7
  generalize (w7.alloc (.cells ([.int .i64 0, .int .i64 0, .int .u32 0, .string ⟨#[]⟩] : List Value).toArray 24)).setCells w7.heap.size 0 VM = w8 at *
  generalize w7.heap.size = g4 at *
  have dg20 : w8.cell? ⟨g2, 0, none⟩ = some (.int .i64 8) := HK8.out.tl.hd.at HVY_0.out
  have dg21 : w8.cell? ⟨g2, 1, none⟩ = some (.int .i64 0) := HK8.out.tl.hd.at HVY_1.out
  have dg22 : w8.cell? ⟨g2, 2, none⟩ = some (.int .u32 m.rs) := HK8.out.tl.hd.at HVY_2.out
  have hr0 := HK8.out.hd.range
  have hr1 := HK8.out.tl.tl.tl.hd.range
  have hnm := HNV_M.out
  refine wp_region_list ?_
  refine wpList_exec_if (op := { dst := some 151, op := Op.move (Operand.tmp 16), type := 4, pos := "outright.go:34", after := #[], guard := none }) (by kernel_rfl) ?_ ?_ ?_
  rotate_left
  · (go_simp; try with_reducible rfl)
  (try simp only [Act.put, List.setIfInBounds_toArray, List.set_cons_zero, List.set_cons_succ])
  refine wpList_exec_if (op := { dst := some 152, op := Op.fieldAddr 24 (Operand.tmp 11) 0, type := 0, pos := "outright.go:34", after := #[], guard := none }) (by kernel_rfl) ?_ ?_ ?_
  rotate_left
  · (go_simp; try with_reducible rfl)
  (try simp only [Act.put, List.setIfInBounds_toArray, List.set_cons_zero, List.set_cons_succ])
  refine wpList_exec_if (op := { dst := some 153, op := Op.load 3 (Operand.tmp 152), type := 3, pos := "outright.go:34", after := #[{ on := 1, ground := Ground.data }], guard := none }) (by kernel_rfl) ?_ ?_ ?_
  rotate_left
  · (go_simp; try with_reducible rfl)
  (try simp only [Act.put, List.setIfInBounds_toArray, List.set_cons_zero, List.set_cons_succ])
  refine wpList_exec_if (op := { dst := some 154, op := Op.binOp BinOp.eql 3 (Operand.tmp 153) (Operand.const (Value.int IntKind.i64 8)) 3, type := 4, pos := "outright.go:34", after := #[{ on := 2, ground := Ground.data }], guard := none }) (by kernel_rfl) (.bool true) ?_ ?_
  · (go_simp; try with_reducible rfl)
  (try simp only [Act.put, List.setIfInBounds_toArray, List.set_cons_zero, List.set_cons_succ])
  refine wpList_exec_if (op := { dst := some 155, op := Op.move (Operand.tmp 154), type := 4, pos := "outright.go:34", after := #[{ on := 3, ground := Ground.data }], guard := none }) (by kernel_rfl) ?_ ?_ ?_
  rotate_left
  · (go_simp; try with_reducible rfl)
  (try simp only [Act.put, List.setIfInBounds_toArray, List.set_cons_zero, List.set_cons_succ])
  refine wpList_skip (op := { dst := some 156, op := Op.fieldAddr 24 (Operand.tmp 11) 0, type := 0, pos := "outright.go:34", after := #[{ on := 4, ground := Ground.guard }], guard := some (4, false) }) (by kernel_rfl) ?_
  (try simp only [Act.put, List.setIfInBounds_toArray, List.set_cons_zero, List.set_cons_succ])
  refine wpList_skip (op := { dst := some 157, op := Op.load 3 (Operand.tmp 156), type := 3, pos := "outright.go:34", after := #[{ on := 5, ground := Ground.data }, { on := 4, ground := Ground.guard }], guard := some (4, false) }) (by kernel_rfl) ?_
  (try simp only [Act.put, List.setIfInBounds_toArray, List.set_cons_zero, List.set_cons_succ])
  refine wpList_skip (op := { dst := some 158, op := Op.binOp BinOp.eql 3 (Operand.tmp 157) (Operand.const (Value.int IntKind.i64 0)) 3, type := 4, pos := "outright.go:34", after := #[{ on := 6, ground := Ground.data }, { on := 4, ground := Ground.guard }], guard := some (4, false) }) (by kernel_rfl) ?_
  (try simp only [Act.put, List.setIfInBounds_toArray, List.set_cons_zero, List.set_cons_succ])
  refine wpList_exec_if (op := { dst := some 159, op := Op.pick (Operand.tmp 155) (Operand.const (Value.bool true)) (Operand.tmp 158), type := 4, pos := "outright.go:34", after := #[{ on := 4, ground := Ground.data }, { on := 7, ground := Ground.data }], guard := none }) (by kernel_rfl) ?_ ?_ ?_
  rotate_left
  · (go_simp; try with_reducible rfl)
  (try simp only [Act.put, List.setIfInBounds_toArray, List.set_cons_zero, List.set_cons_succ])
  refine wpList_exec_if (op := { dst := some 160, op := Op.binOp BinOp.neq 4 (Operand.tmp 151) (Operand.tmp 159) 4, type := 4, pos := "outright.go:34", after := #[{ on := 0, ground := Ground.data }, { on := 8, ground := Ground.data }], guard := none }) (by kernel_rfl) (.bool false) ?_ ?_
  · (go_simp; try with_reducible rfl)
  (try simp only [Act.put, List.setIfInBounds_toArray, List.set_cons_zero, List.set_cons_succ])
  refine wpList_exec_if (op := { dst := some 161, op := Op.move (Operand.tmp 160), type := 4, pos := "outright.go:34", after := #[{ on := 9, ground := Ground.data }, { on := 4, ground := Ground.chain }], guard := none }) (by kernel_rfl) ?_ ?_ ?_
  rotate_left
  · (go_simp; try with_reducible rfl)
  (try simp only [Act.put, List.setIfInBounds_toArray, List.set_cons_zero, List.set_cons_succ])
  refine wpList_exec_if (op := { dst := some 162, op := Op.move (Operand.tmp 16), type := 4, pos := "outright.go:34", after := #[{ on := 10, ground := Ground.guard }], guard := some (10, false) }) (by kernel_rfl) ?_ ?_ ?_
  rotate_left
  · (go_simp; try with_reducible rfl)
  (try simp only [Act.put, List.setIfInBounds_toArray, List.set_cons_zero, List.set_cons_succ])
  refine wpList_exec_if (op := { dst := some 163, op := Op.move (Operand.tmp 162), type := 4, pos := "outright.go:34", after := #[{ on := 11, ground := Ground.data }, { on := 10, ground := Ground.chain }, { on := 10, ground := Ground.guard }], guard := some (10, false) }) (by kernel_rfl) ?_ ?_ ?_
  rotate_left
  · (go_simp; try with_reducible rfl)
  (try simp only [Act.put, List.setIfInBounds_toArray, List.set_cons_zero, List.set_cons_succ])
  refine wpList_exec_if (op := { dst := some 164, op := Op.move (Operand.tmp 18), type := 4, pos := "outright.go:34", after := #[{ on := 12, ground := Ground.guard }], guard := some (12, true) }) (by kernel_rfl) ?_ ?_ ?_
  rotate_left
  · (go_simp; try with_reducible rfl)
  (try simp only [Act.put, List.setIfInBounds_toArray, List.set_cons_zero, List.set_cons_succ])
  refine wpList_exec_if (op := { dst := some 165, op := Op.unOp UnOp.not 4 (Operand.tmp 164), type := 4, pos := "outright.go:34", after := #[{ on := 13, ground := Ground.data }, { on := 12, ground := Ground.guard }], guard := some (12, true) }) (by kernel_rfl) ?_ ?_ ?_
  rotate_left
  · (go_simp; try with_reducible rfl)
  (try simp only [Act.put, List.setIfInBounds_toArray, List.set_cons_zero, List.set_cons_succ])
  refine wpList_exec_if (op := { dst := some 166, op := Op.move (Operand.tmp 165), type := 4, pos := "outright.go:34", after := #[{ on := 14, ground := Ground.data }, { on := 12, ground := Ground.chain }, { on := 12, ground := Ground.guard }], guard := some (12, true) }) (by kernel_rfl) ?_ ?_ ?_
  rotate_left
  · (go_simp; try with_reducible rfl)
  (try simp only [Act.put, List.setIfInBounds_toArray, List.set_cons_zero, List.set_cons_succ])
  refine wpList_load_if (op := { dst := some 167, op := Op.load 24 (Operand.tmp 17), type := 24, pos := "outright.go:34", after := #[{ on := 15, ground := Ground.guard }], guard := some (15, false) }) (by kernel_rfl) 24 _ rfl g4 0 rfl VM _ hr0 Tryd.underlying24 rfl HI_VM.out ?_
  (try simp only [Act.put, List.setIfInBounds_toArray, List.set_cons_zero, List.set_cons_succ])
  refine wpList_load_if (op := { dst := some 168, op := Op.load 24 (Operand.tmp 4), type := 24, pos := "outright.go:34", after := #[{ on := 15, ground := Ground.guard }], guard := some (15, false) }) (by kernel_rfl) 24 _ rfl (w.heap.size) 0 rfl VM _ hr1 Tryd.underlying24 rfl HI_VM.out ?_
  (try simp only [Act.put, List.setIfInBounds_toArray, List.set_cons_zero, List.set_cons_succ])
  refine wpList_exec_if (op := { dst := some 169, op := Op.binOp BinOp.neq 24 (Operand.tmp 167) (Operand.tmp 168) 24, type := 4, pos := "outright.go:34", after := #[{ on := 16, ground := Ground.data }, { on := 17, ground := Ground.data }, { on := 15, ground := Ground.guard }], guard := some (15, false) }) (by kernel_rfl) (.bool false) ?_ ?_
  · (go_simp; try with_reducible rfl)
  (try simp only [Act.put, List.setIfInBounds_toArray, List.set_cons_zero, List.set_cons_succ])
  go_upto_region 21 with (fail)
  clear hr0 hr1 hnm
  go_wp2_with (fail)
  go_ret
  exact ⟨rfl, HK8.out.2.1⟩
end Go.Proofs.YtnehabpdpkjaeaaDoor
