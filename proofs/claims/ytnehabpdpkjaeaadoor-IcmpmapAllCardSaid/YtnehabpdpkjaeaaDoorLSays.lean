/-
  Proved here: the laws IcmpmapSays and IcmpmapOne answer true.
  Conditions: none.
-/
import Derived.Test.YtnehabpdpkjaeaaDoorAwk14
import Derived.Test.YtnehabpdpkjaeaaDoorR6
import Derived.Test.YtnehabpdpkjaeaaDoorR4
namespace Go.Proofs.YtnehabpdpkjaeaaDoor
open Go.RowKit

set_option maxRecDepth 100000 in
set_option maxHeartbeats 4000000 in
theorem says_long (m : Mg) (a b len : Int) (w : World) (hm : Hm w) (hd : (70000 : Int) < (m.da.size : Int)) : Calls Tryd.prog 4 #[.agg m.vals.toArray, .int .i64 a, .int .i64 b, .int .i64 len] w (fun e w' => e = .returned (.bool true) ∧ Below w.heap.size w w') := by
  have HMB : Hid (∀ W, Below w.heap.size w W → Hm W) := Lib.hid (fun W hW => hm.below hW)
  have HI_VM : Hid ((Tryd.prog.info? 24).map (·.size) = some m.vals.length) := Lib.hid (Tryd.infoMg _)
  have HO_VM : Hid (m.vals.toArray.all (·.oneCell') = true) := Lib.hid (mg_one _)
  have HL_VM : Hid (m.vals.length = 4) := Lib.hid rfl
  have HM0 : Hid (m.vals[0]? = some (.int .i64 m.kd)) := Lib.hid (rfl)
  have HM1 : Hid (m.vals[1]? = some (.int .i64 m.cd)) := Lib.hid (rfl)
  have HM2 : Hid (m.vals[2]? = some (.int .u32 m.rs)) := Lib.hid (rfl)
  have HM3 : Hid (m.vals[3]? = some (.string m.da)) := Lib.hid (rfl)
  have HK1 : Hid (Kp w w.heap.size [(w.heap.size, 24, m.vals)] (w.alloc (.cells m.vals.toArray 24))) := Lib.hid ((Kp.start w).new 24 m.vals)
  generalize m.vals = VM at *
  generalize hw1 : w.alloc (.cells VM.toArray 24) = w1 at *
  go_enter Tryd.func4, Tryd.ntmps4
  go_upto_region 1 with (fail)
  clear hw1
  go_wp2_with (fail)
  refine (awake14_true _ (HMB.out _ HK1.out.2.1)).mono ?_
  rintro e w2 ⟨rfl, bb⟩
  have HK2 := Lib.hid (HK1.out.below bb (Nat.le_refl _))
  clear bb HK1
  have c3 : w2.cell? ⟨w.heap.size, 3, none⟩ = some (.string m.da) := HK2.out.hd.at HM3.out
  go_wp2_with (fail)
  go_ret
  exact ⟨rfl, HK2.out.2.1⟩
set_option maxRecDepth 100000 in
set_option maxHeartbeats 4000000 in
theorem one_long (m : Mg) (a b len : Int) (w : World) (hm : Hm w) (hd : (100 : Int) < (m.da.size : Int)) : Calls Tryd.prog 6 #[.agg m.vals.toArray, .int .i64 a, .int .i64 b, .int .i64 len] w (fun e w' => e = .returned (.bool true) ∧ Below w.heap.size w w') := by
  have HMB : Hid (∀ W, Below w.heap.size w W → Hm W) := Lib.hid (fun W hW => hm.below hW)
  have HI_VM : Hid ((Tryd.prog.info? 24).map (·.size) = some m.vals.length) := Lib.hid (Tryd.infoMg _)
  have HO_VM : Hid (m.vals.toArray.all (·.oneCell') = true) := Lib.hid (mg_one _)
  have HL_VM : Hid (m.vals.length = 4) := Lib.hid rfl
  have HM0 : Hid (m.vals[0]? = some (.int .i64 m.kd)) := Lib.hid (rfl)
  have HM1 : Hid (m.vals[1]? = some (.int .i64 m.cd)) := Lib.hid (rfl)
  have HM2 : Hid (m.vals[2]? = some (.int .u32 m.rs)) := Lib.hid (rfl)
  have HM3 : Hid (m.vals[3]? = some (.string m.da)) := Lib.hid (rfl)
  have HK1 : Hid (Kp w w.heap.size [(w.heap.size, 24, m.vals)] (w.alloc (.cells m.vals.toArray 24))) := Lib.hid ((Kp.start w).new 24 m.vals)
  generalize m.vals = VM at *
  generalize hw1 : w.alloc (.cells VM.toArray 24) = w1 at *
  go_enter Tryd.func6, Tryd.ntmps6
  go_upto_region 1 with (fail)
  clear hw1
  have c3 : w1.cell? ⟨w.heap.size, 3, none⟩ = some (.string m.da) := HK1.out.hd.at HM3.out
  go_wp2_with (fail)
  refine (awake14_true _ (HMB.out _ HK1.out.2.1)).mono ?_
  rintro e w2 ⟨rfl, bb⟩
  have HK2 := Lib.hid (HK1.out.below bb (Nat.le_refl _))
  clear bb HK1
  go_wp2_with (fail)
  go_ret
  exact ⟨rfl, HK2.out.2.1⟩
set_option maxRecDepth 100000 in
set_option maxHeartbeats 4000000 in
theorem says_main (m : Mg) (a b len : Int) (w : World) (hm : Hm w) (hr : 0 ≤ m.rs ∧ m.rs < 4294967296) (hd : ¬ (70000 : Int) < (m.da.size : Int)) : Calls Tryd.prog 4 #[.agg m.vals.toArray, .int .i64 a, .int .i64 b, .int .i64 len] w (fun e w' => e = .returned (.bool true) ∧ Below w.heap.size w w') := by
  have HMB : Hid (∀ W, Below w.heap.size w W → Hm W) := Lib.hid (fun W hW => hm.below hW)
  obtain ⟨VX, hVX⟩ : ∃ V, V = (six m a b len).1.vals := ⟨_, rfl⟩
  have HI_VX : Hid ((Tryd.prog.info? 24).map (·.size) = some VX.length) := Lib.hid (by rw [hVX]; exact Tryd.infoMg _)
  have HO_VX : Hid (VX.toArray.all (·.oneCell') = true) := Lib.hid (by rw [hVX]; exact mg_one _)
  have HL_VX : Hid (VX.length = 4) := Lib.hid (by rw [hVX]; rfl)
  have HEV_VX : Hid (∀ W, (binOp .eql 24 (.agg VX.toArray) (.agg VX.toArray)).run Tryd.prog W = .ok (.bool true) W) := Lib.hid (fun W => by rw [hVX]; exact eqlM _ W)
  obtain ⟨VY, hVY⟩ : ∃ V, V = (four m a b).1.vals := ⟨_, rfl⟩
  have HI_VY : Hid ((Tryd.prog.info? 24).map (·.size) = some VY.length) := Lib.hid (by rw [hVY]; exact Tryd.infoMg _)
  have HO_VY : Hid (VY.toArray.all (·.oneCell') = true) := Lib.hid (by rw [hVY]; exact mg_one _)
  have HL_VY : Hid (VY.length = 4) := Lib.hid (by rw [hVY]; rfl)
  have HEV_VY : Hid (∀ W, (binOp .eql 24 (.agg VY.toArray) (.agg VY.toArray)).run Tryd.prog W = .ok (.bool true) W) := Lib.hid (fun W => by rw [hVY]; exact eqlM _ W)
  have CA : Hid (∀ W, Below w.heap.size w W → Calls Tryd.prog 11 #[.agg m.vals.toArray, .int .i64 a, .int .i64 b, .int .i64 len] W (fun e w' => e = .returned (.tuple #[.agg VX.toArray, .bool (six m a b len).2]) ∧ Below W.heap.size W w')) := Lib.hid (fun W hW => by have hmW := HMB.out W hW; rw [hVX]; exact psix_any m a b len W hr)
  have CB : Hid (∀ W, Calls Tryd.prog 15 #[.agg m.vals.toArray, .int .i64 a, .int .i64 b, .int .i64 len] W (fun e w' => e = .returned (.tuple #[.agg VX.toArray, .bool (six m a b len).2]) ∧ Below W.heap.size W w')) := Lib.hid (fun W => by rw [hVX]; exact rsix_any m a b len W hr)
  have CC : Hid (∀ W, Calls Tryd.prog 12 #[.agg m.vals.toArray, .int .i64 a, .int .i64 b] W (fun e w' => e = .returned (.tuple #[.agg VY.toArray, .bool (four m a b).2]) ∧ Below W.heap.size W w')) := Lib.hid (fun W => by rw [hVY]; exact pfour_any m a b W hr)
  have CD : Hid (∀ W, Calls Tryd.prog 16 #[.agg m.vals.toArray, .int .i64 a, .int .i64 b] W (fun e w' => e = .returned (.tuple #[.agg VY.toArray, .bool (four m a b).2]) ∧ Below W.heap.size W w')) := Lib.hid (fun W => by rw [hVY]; exact rfour_any m a b W hr)
  have CP := Lib.hid (fun (W : World) (hW : Below w.heap.size w W) => have hmW := HMB.out W hW; pplat_any len W)
  have CQ := Lib.hid (fun W => rplat_any len W)
  generalize plat len = pl at *
  generalize (six m a b len).2 = o6 at *
  generalize (four m a b).2 = o4 at *
  clear hVX hVY
  have HI_VM : Hid ((Tryd.prog.info? 24).map (·.size) = some m.vals.length) := Lib.hid (Tryd.infoMg _)
  have HO_VM : Hid (m.vals.toArray.all (·.oneCell') = true) := Lib.hid (mg_one _)
  have HL_VM : Hid (m.vals.length = 4) := Lib.hid rfl
  have HM0 : Hid (m.vals[0]? = some (.int .i64 m.kd)) := Lib.hid (rfl)
  have HM1 : Hid (m.vals[1]? = some (.int .i64 m.cd)) := Lib.hid (rfl)
  have HM2 : Hid (m.vals[2]? = some (.int .u32 m.rs)) := Lib.hid (rfl)
  have HM3 : Hid (m.vals[3]? = some (.string m.da)) := Lib.hid (rfl)
  have HK1 : Hid (Kp w w.heap.size [(w.heap.size, 24, m.vals)] (w.alloc (.cells m.vals.toArray 24))) := Lib.hid ((Kp.start w).new 24 m.vals)
  generalize m.vals = VM at *
  generalize hw1 : w.alloc (.cells VM.toArray 24) = w1 at *
  go_enter Tryd.func4, Tryd.ntmps4
  go_upto_region 1 with (fail)
  clear hw1
  go_wp2_with (fail)
  refine (awake14_true _ (HMB.out _ HK1.out.2.1)).mono ?_
  rintro e w2 ⟨rfl, bb⟩
  have HK2 := Lib.hid (HK1.out.below bb (Nat.le_refl _))
  clear bb HK1
  have c3 : w2.cell? ⟨w.heap.size, 3, none⟩ = some (.string m.da) := HK2.out.hd.at HM3.out
  go_upto_region 5 with (fail)
  clear c3
  have hr0 := HK2.out.hd.range
  go_wp2_with (((with_reducible (change wpList _ _ _ _ _ _)); ((refine wpList_load_mid rfl 24 _ rfl (w.heap.size) 0 rfl (VM) _ hr0 Tryd.underlying24 rfl HI_VM.out ?_))))
  clear hr0
  refine (CA.out _ HK2.out.2.1).mono ?_
  rintro e w3 ⟨rfl, bb⟩
  have HK3 := Lib.hid (HK2.out.below bb (Nat.le_refl _))
  clear bb HK2
  have ht := (bk_new w3 24 ([.int .i64 0, .int .i64 0, .int .u32 0, .string ⟨#[]⟩] : List Value).toArray).there VX.toArray.size (by have := HL_VX.out; simp; omega)
  go_upto_region 6 with (((with_reducible (change wpList _ _ _ _ _ _)); ((refine wpList_store_mid rfl 24 _ _ rfl (w3.heap.size) 0 VX.toArray rfl rfl ht (by simpa using HI_VX.out) HO_VX.out ?_))))
  have HK4 := Lib.hid (HK3.out.put 24 ([.int .i64 0, .int .i64 0, .int .u32 0, .string ⟨#[]⟩] : List Value).toArray VX (by have := HL_VX.out; simp; omega))
  clear ht HK3
  generalize (w3.alloc (.cells ([.int .i64 0, .int .i64 0, .int .u32 0, .string ⟨#[]⟩] : List Value).toArray 24)).setCells w3.heap.size 0 VX = w4 at *
  generalize w3.heap.size = g1 at *
  have hr0 := HK4.out.tl.hd.range
  go_wp2_with (((with_reducible (change wpList _ _ _ _ _ _)); ((refine wpList_load_mid rfl 24 _ rfl (w.heap.size) 0 rfl (VM) _ hr0 Tryd.underlying24 rfl HI_VM.out ?_))))
  clear hr0
  refine (CB.out _).mono ?_
  rintro e w5 ⟨rfl, bb⟩
  have HK5 := Lib.hid (HK4.out.below bb (Nat.le_refl _))
  clear bb HK4
  have ht := (bk_new w5 24 ([.int .i64 0, .int .i64 0, .int .u32 0, .string ⟨#[]⟩] : List Value).toArray).there VX.toArray.size (by have := HL_VX.out; simp; omega)
  go_upto_region 7 with (((with_reducible (change wpList _ _ _ _ _ _)); ((refine wpList_store_mid rfl 24 _ _ rfl (w5.heap.size) 0 VX.toArray rfl rfl ht (by simpa using HI_VX.out) HO_VX.out ?_))))
  have HK6 := Lib.hid (HK5.out.put 24 ([.int .i64 0, .int .i64 0, .int .u32 0, .string ⟨#[]⟩] : List Value).toArray VX (by have := HL_VX.out; simp; omega))
  clear ht HK5
  generalize (w5.alloc (.cells ([.int .i64 0, .int .i64 0, .int .u32 0, .string ⟨#[]⟩] : List Value).toArray 24)).setCells w5.heap.size 0 VX = w6 at *
  generalize w5.heap.size = g2 at *
  have hr0 := HK6.out.tl.tl.hd.range
  go_wp2_with (((with_reducible (change wpList _ _ _ _ _ _)); ((refine wpList_load_mid rfl 24 _ rfl (w.heap.size) 0 rfl (VM) _ hr0 Tryd.underlying24 rfl HI_VM.out ?_))))
  clear hr0
  refine (CC.out _).mono ?_
  rintro e w7 ⟨rfl, bb⟩
  have HK7 := Lib.hid (HK6.out.below bb (Nat.le_refl _))
  clear bb HK6
  have ht := (bk_new w7 24 ([.int .i64 0, .int .i64 0, .int .u32 0, .string ⟨#[]⟩] : List Value).toArray).there VY.toArray.size (by have := HL_VY.out; simp; omega)
  go_upto_region 8 with (((with_reducible (change wpList _ _ _ _ _ _)); ((refine wpList_store_mid rfl 24 _ _ rfl (w7.heap.size) 0 VY.toArray rfl rfl ht (by simpa using HI_VY.out) HO_VY.out ?_))))
  have HK8 := Lib.hid (HK7.out.put 24 ([.int .i64 0, .int .i64 0, .int .u32 0, .string ⟨#[]⟩] : List Value).toArray VY (by have := HL_VY.out; simp; omega))
  clear ht HK7
  generalize (w7.alloc (.cells ([.int .i64 0, .int .i64 0, .int .u32 0, .string ⟨#[]⟩] : List Value).toArray 24)).setCells w7.heap.size 0 VY = w8 at *
  generalize w7.heap.size = g3 at *
  have hr0 := HK8.out.tl.tl.tl.hd.range
  go_wp2_with (((with_reducible (change wpList _ _ _ _ _ _)); ((refine wpList_load_mid rfl 24 _ rfl (w.heap.size) 0 rfl (VM) _ hr0 Tryd.underlying24 rfl HI_VM.out ?_))))
  clear hr0
  refine (CD.out _).mono ?_
  rintro e w9 ⟨rfl, bb⟩
  have HK9 := Lib.hid (HK8.out.below bb (Nat.le_refl _))
  clear bb HK8
  have ht := (bk_new w9 24 ([.int .i64 0, .int .i64 0, .int .u32 0, .string ⟨#[]⟩] : List Value).toArray).there VY.toArray.size (by have := HL_VY.out; simp; omega)
  go_upto_region 9 with (((with_reducible (change wpList _ _ _ _ _ _)); ((refine wpList_store_mid rfl 24 _ _ rfl (w9.heap.size) 0 VY.toArray rfl rfl ht (by simpa using HI_VY.out) HO_VY.out ?_))))
  have HK10 := Lib.hid (HK9.out.put 24 ([.int .i64 0, .int .i64 0, .int .u32 0, .string ⟨#[]⟩] : List Value).toArray VY (by have := HL_VY.out; simp; omega))
  clear ht HK9
  generalize (w9.alloc (.cells ([.int .i64 0, .int .i64 0, .int .u32 0, .string ⟨#[]⟩] : List Value).toArray 24)).setCells w9.heap.size 0 VY = w10 at *
  generalize w9.heap.size = g4 at *
  have hr0 := HK10.out.tl.tl.tl.hd.range
  have hr1 := HK10.out.tl.tl.hd.range
  have hr2 := HK10.out.tl.hd.range
  have hr3 := HK10.out.hd.range
  have heq1 := HEV_VX.out
  have heq2 := HEV_VY.out
  refine wp_region_list ?_
  refine wpList_load_if (op := { dst := some 53, op := Op.load 24 (Operand.tmp 9), type := 24, pos := "law.go:29", after := #[], guard := none }) (by kernel_rfl) 24 _ rfl g1 0 rfl VX _ hr0 Tryd.underlying24 rfl HI_VX.out ?_
  (try simp only [Act.put, List.setIfInBounds_toArray, List.set_cons_zero, List.set_cons_succ])
  refine wpList_load_if (op := { dst := some 54, op := Op.load 24 (Operand.tmp 11), type := 24, pos := "law.go:29", after := #[], guard := none }) (by kernel_rfl) 24 _ rfl g2 0 rfl VX _ hr1 Tryd.underlying24 rfl HI_VX.out ?_
  (try simp only [Act.put, List.setIfInBounds_toArray, List.set_cons_zero, List.set_cons_succ])
  refine wpList_exec_if (op := { dst := some 55, op := Op.binOp BinOp.eql 24 (Operand.tmp 53) (Operand.tmp 54) 24, type := 4, pos := "law.go:29", after := #[{ on := 0, ground := Ground.data }, { on := 1, ground := Ground.data }], guard := none }) (by kernel_rfl) (.bool true) ?_ ?_
  · (go_simp; try with_reducible rfl)
  (try simp only [Act.put, List.setIfInBounds_toArray, List.set_cons_zero, List.set_cons_succ])
  refine wpList_exec_if (op := { dst := some 56, op := Op.move (Operand.tmp 55), type := 4, pos := "law.go:29", after := #[{ on := 2, ground := Ground.data }], guard := none }) (by kernel_rfl) ?_ ?_ ?_
  rotate_left
  · (go_simp; try with_reducible rfl)
  (try simp only [Act.put, List.setIfInBounds_toArray, List.set_cons_zero, List.set_cons_succ])
  refine wpList_exec_if (op := { dst := some 57, op := Op.move (Operand.tmp 10), type := 4, pos := "law.go:29", after := #[{ on := 3, ground := Ground.guard }], guard := some (3, true) }) (by kernel_rfl) ?_ ?_ ?_
  rotate_left
  · (go_simp; try with_reducible rfl)
  (try simp only [Act.put, List.setIfInBounds_toArray, List.set_cons_zero, List.set_cons_succ])
  refine wpList_exec_if (op := { dst := some 58, op := Op.move (Operand.tmp 12), type := 4, pos := "law.go:29", after := #[{ on := 3, ground := Ground.guard }], guard := some (3, true) }) (by kernel_rfl) ?_ ?_ ?_
  rotate_left
  · (go_simp; try with_reducible rfl)
  (try simp only [Act.put, List.setIfInBounds_toArray, List.set_cons_zero, List.set_cons_succ])
  refine wpList_exec_if (op := { dst := some 59, op := Op.binOp BinOp.eql 4 (Operand.tmp 57) (Operand.tmp 58) 4, type := 4, pos := "law.go:29", after := #[{ on := 4, ground := Ground.data }, { on := 5, ground := Ground.data }, { on := 3, ground := Ground.guard }], guard := some (3, true) }) (by kernel_rfl) (.bool true) ?_ ?_
  · (go_simp; try with_reducible rfl)
  (try simp only [Act.put, List.setIfInBounds_toArray, List.set_cons_zero, List.set_cons_succ])
  refine wpList_exec_if (op := { dst := some 60, op := Op.pick (Operand.tmp 56) (Operand.tmp 59) (Operand.const (Value.bool false)), type := 4, pos := "law.go:29", after := #[{ on := 3, ground := Ground.data }, { on := 6, ground := Ground.data }], guard := none }) (by kernel_rfl) ?_ ?_ ?_
  rotate_left
  · (go_simp; try with_reducible rfl)
  (try simp only [Act.put, List.setIfInBounds_toArray, List.set_cons_zero, List.set_cons_succ])
  refine wpList_exec_if (op := { dst := some 61, op := Op.move (Operand.tmp 60), type := 4, pos := "law.go:29", after := #[{ on := 7, ground := Ground.data }, { on := 3, ground := Ground.chain }], guard := none }) (by kernel_rfl) ?_ ?_ ?_
  rotate_left
  · (go_simp; try with_reducible rfl)
  (try simp only [Act.put, List.setIfInBounds_toArray, List.set_cons_zero, List.set_cons_succ])
  refine wpList_load_if (op := { dst := some 62, op := Op.load 24 (Operand.tmp 13), type := 24, pos := "law.go:29", after := #[{ on := 8, ground := Ground.guard }], guard := some (8, true) }) (by kernel_rfl) 24 _ rfl g3 0 rfl VY _ hr2 Tryd.underlying24 rfl HI_VY.out ?_
  (try simp only [Act.put, List.setIfInBounds_toArray, List.set_cons_zero, List.set_cons_succ])
  refine wpList_load_if (op := { dst := some 63, op := Op.load 24 (Operand.tmp 15), type := 24, pos := "law.go:29", after := #[{ on := 8, ground := Ground.guard }], guard := some (8, true) }) (by kernel_rfl) 24 _ rfl g4 0 rfl VY _ hr3 Tryd.underlying24 rfl HI_VY.out ?_
  (try simp only [Act.put, List.setIfInBounds_toArray, List.set_cons_zero, List.set_cons_succ])
  refine wpList_exec_if (op := { dst := some 64, op := Op.binOp BinOp.eql 24 (Operand.tmp 62) (Operand.tmp 63) 24, type := 4, pos := "law.go:29", after := #[{ on := 9, ground := Ground.data }, { on := 10, ground := Ground.data }, { on := 8, ground := Ground.guard }], guard := some (8, true) }) (by kernel_rfl) (.bool true) ?_ ?_
  · (go_simp; try with_reducible rfl)
  (try simp only [Act.put, List.setIfInBounds_toArray, List.set_cons_zero, List.set_cons_succ])
  refine wpList_exec_if (op := { dst := some 65, op := Op.pick (Operand.tmp 61) (Operand.tmp 64) (Operand.const (Value.bool false)), type := 4, pos := "law.go:29", after := #[{ on := 8, ground := Ground.data }, { on := 11, ground := Ground.data }], guard := none }) (by kernel_rfl) ?_ ?_ ?_
  rotate_left
  · (go_simp; try with_reducible rfl)
  (try simp only [Act.put, List.setIfInBounds_toArray, List.set_cons_zero, List.set_cons_succ])
  refine wpList_exec_if (op := { dst := some 66, op := Op.move (Operand.tmp 65), type := 4, pos := "law.go:29", after := #[{ on := 12, ground := Ground.data }, { on := 8, ground := Ground.chain }], guard := none }) (by kernel_rfl) ?_ ?_ ?_
  rotate_left
  · (go_simp; try with_reducible rfl)
  (try simp only [Act.put, List.setIfInBounds_toArray, List.set_cons_zero, List.set_cons_succ])
  refine wpList_exec_if (op := { dst := some 67, op := Op.move (Operand.tmp 14), type := 4, pos := "law.go:29", after := #[{ on := 13, ground := Ground.guard }], guard := some (13, true) }) (by kernel_rfl) ?_ ?_ ?_
  rotate_left
  · (go_simp; try with_reducible rfl)
  (try simp only [Act.put, List.setIfInBounds_toArray, List.set_cons_zero, List.set_cons_succ])
  refine wpList_exec_if (op := { dst := some 68, op := Op.move (Operand.tmp 16), type := 4, pos := "law.go:29", after := #[{ on := 13, ground := Ground.guard }], guard := some (13, true) }) (by kernel_rfl) ?_ ?_ ?_
  rotate_left
  · (go_simp; try with_reducible rfl)
  (try simp only [Act.put, List.setIfInBounds_toArray, List.set_cons_zero, List.set_cons_succ])
  refine wpList_exec_if (op := { dst := some 69, op := Op.binOp BinOp.eql 4 (Operand.tmp 67) (Operand.tmp 68) 4, type := 4, pos := "law.go:29", after := #[{ on := 14, ground := Ground.data }, { on := 15, ground := Ground.data }, { on := 13, ground := Ground.guard }], guard := some (13, true) }) (by kernel_rfl) (.bool true) ?_ ?_
  · (go_simp; try with_reducible rfl)
  (try simp only [Act.put, List.setIfInBounds_toArray, List.set_cons_zero, List.set_cons_succ])
  refine wpList_exec_if (op := { dst := some 70, op := Op.pick (Operand.tmp 66) (Operand.tmp 69) (Operand.const (Value.bool false)), type := 4, pos := "law.go:29", after := #[{ on := 13, ground := Ground.data }, { on := 16, ground := Ground.data }], guard := none }) (by kernel_rfl) ?_ ?_ ?_
  rotate_left
  · (go_simp; try with_reducible rfl)
  (try simp only [Act.put, List.setIfInBounds_toArray, List.set_cons_zero, List.set_cons_succ])
  refine wpList_exec_if (op := { dst := some 71, op := Op.move (Operand.tmp 70), type := 4, pos := "law.go:29", after := #[{ on := 17, ground := Ground.data }, { on := 13, ground := Ground.chain }], guard := none }) (by kernel_rfl) ?_ ?_ ?_
  rotate_left
  · (go_simp; try with_reducible rfl)
  (try simp only [Act.put, List.setIfInBounds_toArray, List.set_cons_zero, List.set_cons_succ])
  refine wpList_exec_if (op := { dst := some 72, op := Op.move (Operand.tmp 3), type := 3, pos := "law.go:29", after := #[{ on := 18, ground := Ground.guard }], guard := some (18, true) }) (by kernel_rfl) ?_ ?_ ?_
  rotate_left
  · (go_simp; try with_reducible rfl)
  (try simp only [Act.put, List.setIfInBounds_toArray, List.set_cons_zero, List.set_cons_succ])
  clear hr0 hr1 hr2 hr3 heq1 heq2
  go_wp2_with (fail)
  refine (CP.out _ HK10.out.2.1).mono ?_
  rintro e w11 ⟨rfl, bb⟩
  have HK11 := Lib.hid (HK10.out.below bb (Nat.le_refl _))
  clear bb HK10
  go_wp2_with (fail)
  refine (CQ.out _).mono ?_
  rintro e w12 ⟨rfl, bb⟩
  have HK12 := Lib.hid (HK11.out.below bb (Nat.le_refl _))
  clear bb HK11
  go_wp2_with (fail)
  go_ret
  exact ⟨rfl, HK12.out.2.1⟩
set_option maxRecDepth 100000 in
set_option maxHeartbeats 4000000 in
theorem one_main (m : Mg) (a b len : Int) (w : World) (hm : Hm w) (hr : 0 ≤ m.rs ∧ m.rs < 4294967296) (hd : ¬ (100 : Int) < (m.da.size : Int)) : Calls Tryd.prog 6 #[.agg m.vals.toArray, .int .i64 a, .int .i64 b, .int .i64 len] w (fun e w' => e = .returned (.bool true) ∧ Below w.heap.size w w') := by
  have HMB : Hid (∀ W, Below w.heap.size w W → Hm W) := Lib.hid (fun W hW => hm.below hW)
  obtain ⟨VX, hVX⟩ : ∃ V, V = (six m a b len).1.vals := ⟨_, rfl⟩
  have HI_VX : Hid ((Tryd.prog.info? 24).map (·.size) = some VX.length) := Lib.hid (by rw [hVX]; exact Tryd.infoMg _)
  have HO_VX : Hid (VX.toArray.all (·.oneCell') = true) := Lib.hid (by rw [hVX]; exact mg_one _)
  have HL_VX : Hid (VX.length = 4) := Lib.hid (by rw [hVX]; rfl)
  have HEV_VX : Hid (∀ W, (binOp .eql 24 (.agg VX.toArray) (.agg VX.toArray)).run Tryd.prog W = .ok (.bool true) W) := Lib.hid (fun W => by rw [hVX]; exact eqlM _ W)
  obtain ⟨VY, hVY⟩ : ∃ V, V = (four m a b).1.vals := ⟨_, rfl⟩
  have HI_VY : Hid ((Tryd.prog.info? 24).map (·.size) = some VY.length) := Lib.hid (by rw [hVY]; exact Tryd.infoMg _)
  have HO_VY : Hid (VY.toArray.all (·.oneCell') = true) := Lib.hid (by rw [hVY]; exact mg_one _)
  have HL_VY : Hid (VY.length = 4) := Lib.hid (by rw [hVY]; rfl)
  have HEV_VY : Hid (∀ W, (binOp .eql 24 (.agg VY.toArray) (.agg VY.toArray)).run Tryd.prog W = .ok (.bool true) W) := Lib.hid (fun W => by rw [hVY]; exact eqlM _ W)
  have CA : Hid (∀ W, Below w.heap.size w W → Calls Tryd.prog 11 #[.agg m.vals.toArray, .int .i64 a, .int .i64 b, .int .i64 len] W (fun e w' => e = .returned (.tuple #[.agg VX.toArray, .bool (six m a b len).2]) ∧ Below W.heap.size W w')) := Lib.hid (fun W hW => by have hmW := HMB.out W hW; rw [hVX]; exact psix_any m a b len W hr)
  have CB : Hid (∀ W, Calls Tryd.prog 15 #[.agg m.vals.toArray, .int .i64 a, .int .i64 b, .int .i64 len] W (fun e w' => e = .returned (.tuple #[.agg VX.toArray, .bool (six m a b len).2]) ∧ Below W.heap.size W w')) := Lib.hid (fun W => by rw [hVX]; exact rsix_any m a b len W hr)
  have CC : Hid (∀ W, Calls Tryd.prog 12 #[.agg m.vals.toArray, .int .i64 a, .int .i64 b] W (fun e w' => e = .returned (.tuple #[.agg VY.toArray, .bool (four m a b).2]) ∧ Below W.heap.size W w')) := Lib.hid (fun W => by rw [hVY]; exact pfour_any m a b W hr)
  have CD : Hid (∀ W, Calls Tryd.prog 16 #[.agg m.vals.toArray, .int .i64 a, .int .i64 b] W (fun e w' => e = .returned (.tuple #[.agg VY.toArray, .bool (four m a b).2]) ∧ Below W.heap.size W w')) := Lib.hid (fun W => by rw [hVY]; exact rfour_any m a b W hr)
  generalize (six m a b len).2 = o6 at *
  generalize (four m a b).2 = o4 at *
  clear hVX hVY
  have HI_VM : Hid ((Tryd.prog.info? 24).map (·.size) = some m.vals.length) := Lib.hid (Tryd.infoMg _)
  have HO_VM : Hid (m.vals.toArray.all (·.oneCell') = true) := Lib.hid (mg_one _)
  have HL_VM : Hid (m.vals.length = 4) := Lib.hid rfl
  have HM0 : Hid (m.vals[0]? = some (.int .i64 m.kd)) := Lib.hid (rfl)
  have HM1 : Hid (m.vals[1]? = some (.int .i64 m.cd)) := Lib.hid (rfl)
  have HM2 : Hid (m.vals[2]? = some (.int .u32 m.rs)) := Lib.hid (rfl)
  have HM3 : Hid (m.vals[3]? = some (.string m.da)) := Lib.hid (rfl)
  have HK1 : Hid (Kp w w.heap.size [(w.heap.size, 24, m.vals)] (w.alloc (.cells m.vals.toArray 24))) := Lib.hid ((Kp.start w).new 24 m.vals)
  generalize m.vals = VM at *
  generalize hw1 : w.alloc (.cells VM.toArray 24) = w1 at *
  go_enter Tryd.func6, Tryd.ntmps6
  go_upto_region 1 with (fail)
  clear hw1
  have c3 : w1.cell? ⟨w.heap.size, 3, none⟩ = some (.string m.da) := HK1.out.hd.at HM3.out
  go_upto_region 3 with (fail)
  clear c3
  have hr0 := HK1.out.hd.range
  go_wp2_with (((with_reducible (change wpList _ _ _ _ _ _)); ((refine wpList_load_mid rfl 24 _ rfl (w.heap.size) 0 rfl (VM) _ hr0 Tryd.underlying24 rfl HI_VM.out ?_))))
  clear hr0
  refine (CA.out _ HK1.out.2.1).mono ?_
  rintro e w2 ⟨rfl, bb⟩
  have HK2 := Lib.hid (HK1.out.below bb (Nat.le_refl _))
  clear bb HK1
  have ht := (bk_new w2 24 ([.int .i64 0, .int .i64 0, .int .u32 0, .string ⟨#[]⟩] : List Value).toArray).there VX.toArray.size (by have := HL_VX.out; simp; omega)
  go_upto_region 4 with (((with_reducible (change wpList _ _ _ _ _ _)); ((refine wpList_store_mid rfl 24 _ _ rfl (w2.heap.size) 0 VX.toArray rfl rfl ht (by simpa using HI_VX.out) HO_VX.out ?_))))
  have HK3 := Lib.hid (HK2.out.put 24 ([.int .i64 0, .int .i64 0, .int .u32 0, .string ⟨#[]⟩] : List Value).toArray VX (by have := HL_VX.out; simp; omega))
  clear ht HK2
  generalize (w2.alloc (.cells ([.int .i64 0, .int .i64 0, .int .u32 0, .string ⟨#[]⟩] : List Value).toArray 24)).setCells w2.heap.size 0 VX = w3 at *
  generalize w2.heap.size = g1 at *
  have hr0 := HK3.out.tl.hd.range
  go_wp2_with (((with_reducible (change wpList _ _ _ _ _ _)); ((refine wpList_load_mid rfl 24 _ rfl (w.heap.size) 0 rfl (VM) _ hr0 Tryd.underlying24 rfl HI_VM.out ?_))))
  clear hr0
  refine (CB.out _).mono ?_
  rintro e w4 ⟨rfl, bb⟩
  have HK4 := Lib.hid (HK3.out.below bb (Nat.le_refl _))
  clear bb HK3
  have ht := (bk_new w4 24 ([.int .i64 0, .int .i64 0, .int .u32 0, .string ⟨#[]⟩] : List Value).toArray).there VX.toArray.size (by have := HL_VX.out; simp; omega)
  go_upto_region 5 with (((with_reducible (change wpList _ _ _ _ _ _)); ((refine wpList_store_mid rfl 24 _ _ rfl (w4.heap.size) 0 VX.toArray rfl rfl ht (by simpa using HI_VX.out) HO_VX.out ?_))))
  have HK5 := Lib.hid (HK4.out.put 24 ([.int .i64 0, .int .i64 0, .int .u32 0, .string ⟨#[]⟩] : List Value).toArray VX (by have := HL_VX.out; simp; omega))
  clear ht HK4
  generalize (w4.alloc (.cells ([.int .i64 0, .int .i64 0, .int .u32 0, .string ⟨#[]⟩] : List Value).toArray 24)).setCells w4.heap.size 0 VX = w5 at *
  generalize w4.heap.size = g2 at *
  have hr0 := HK5.out.tl.tl.hd.range
  go_wp2_with (((with_reducible (change wpList _ _ _ _ _ _)); ((refine wpList_load_mid rfl 24 _ rfl (w.heap.size) 0 rfl (VM) _ hr0 Tryd.underlying24 rfl HI_VM.out ?_))))
  clear hr0
  refine (CC.out _).mono ?_
  rintro e w6 ⟨rfl, bb⟩
  have HK6 := Lib.hid (HK5.out.below bb (Nat.le_refl _))
  clear bb HK5
  have ht := (bk_new w6 24 ([.int .i64 0, .int .i64 0, .int .u32 0, .string ⟨#[]⟩] : List Value).toArray).there VY.toArray.size (by have := HL_VY.out; simp; omega)
  go_upto_region 6 with (((with_reducible (change wpList _ _ _ _ _ _)); ((refine wpList_store_mid rfl 24 _ _ rfl (w6.heap.size) 0 VY.toArray rfl rfl ht (by simpa using HI_VY.out) HO_VY.out ?_))))
  have HK7 := Lib.hid (HK6.out.put 24 ([.int .i64 0, .int .i64 0, .int .u32 0, .string ⟨#[]⟩] : List Value).toArray VY (by have := HL_VY.out; simp; omega))
  clear ht HK6
  generalize (w6.alloc (.cells ([.int .i64 0, .int .i64 0, .int .u32 0, .string ⟨#[]⟩] : List Value).toArray 24)).setCells w6.heap.size 0 VY = w7 at *
  generalize w6.heap.size = g3 at *
  have hr0 := HK7.out.tl.tl.tl.hd.range
  go_wp2_with (((with_reducible (change wpList _ _ _ _ _ _)); ((refine wpList_load_mid rfl 24 _ rfl (w.heap.size) 0 rfl (VM) _ hr0 Tryd.underlying24 rfl HI_VM.out ?_))))
  clear hr0
  refine (CD.out _).mono ?_
  rintro e w8 ⟨rfl, bb⟩
  have HK8 := Lib.hid (HK7.out.below bb (Nat.le_refl _))
  clear bb HK7
  have ht := (bk_new w8 24 ([.int .i64 0, .int .i64 0, .int .u32 0, .string ⟨#[]⟩] : List Value).toArray).there VY.toArray.size (by have := HL_VY.out; simp; omega)
  go_upto_region 7 with (((with_reducible (change wpList _ _ _ _ _ _)); ((refine wpList_store_mid rfl 24 _ _ rfl (w8.heap.size) 0 VY.toArray rfl rfl ht (by simpa using HI_VY.out) HO_VY.out ?_))))
  have HK9 := Lib.hid (HK8.out.put 24 ([.int .i64 0, .int .i64 0, .int .u32 0, .string ⟨#[]⟩] : List Value).toArray VY (by have := HL_VY.out; simp; omega))
  clear ht HK8
  generalize (w8.alloc (.cells ([.int .i64 0, .int .i64 0, .int .u32 0, .string ⟨#[]⟩] : List Value).toArray 24)).setCells w8.heap.size 0 VY = w9 at *
  generalize w8.heap.size = g4 at *
  go_wp2_with (fail)
  refine (awake14_true _ (HMB.out _ HK9.out.2.1)).mono ?_
  rintro e w10 ⟨rfl, bb⟩
  have HK10 := Lib.hid (HK9.out.below bb (Nat.le_refl _))
  clear bb HK9
  have hr0 := HK10.out.tl.tl.tl.hd.range
  have hr1 := HK10.out.tl.tl.hd.range
  have hr2 := HK10.out.tl.hd.range
  have hr3 := HK10.out.hd.range
  have heq1 := HEV_VX.out
  have heq2 := HEV_VY.out
  (dsimp only; refine (‹∀ (a : Act) (w : World), wpList _ _ _ _ a w → _› _ _ ?_))
  refine wpList_exec_if (op := { dst := some 53, op := Op.move (Operand.tmp 52), type := 4, pos := "law.go:57", after := #[{ on := 0, ground := Ground.data }, { on := 0, ground := Ground.chain }], guard := none }) (by kernel_rfl) ?_ ?_ ?_
  rotate_left
  · (go_simp; try with_reducible rfl)
  (try simp only [Act.put, List.setIfInBounds_toArray, List.set_cons_zero, List.set_cons_succ])
  refine wpList_load_if (op := { dst := some 54, op := Op.load 24 (Operand.tmp 9), type := 24, pos := "law.go:57", after := #[{ on := 1, ground := Ground.guard }], guard := some (1, true) }) (by kernel_rfl) 24 _ rfl g1 0 rfl VX _ hr0 Tryd.underlying24 rfl HI_VX.out ?_
  (try simp only [Act.put, List.setIfInBounds_toArray, List.set_cons_zero, List.set_cons_succ])
  refine wpList_load_if (op := { dst := some 55, op := Op.load 24 (Operand.tmp 11), type := 24, pos := "law.go:57", after := #[{ on := 1, ground := Ground.guard }], guard := some (1, true) }) (by kernel_rfl) 24 _ rfl g2 0 rfl VX _ hr1 Tryd.underlying24 rfl HI_VX.out ?_
  (try simp only [Act.put, List.setIfInBounds_toArray, List.set_cons_zero, List.set_cons_succ])
  refine wpList_exec_if (op := { dst := some 56, op := Op.binOp BinOp.eql 24 (Operand.tmp 54) (Operand.tmp 55) 24, type := 4, pos := "law.go:57", after := #[{ on := 2, ground := Ground.data }, { on := 3, ground := Ground.data }, { on := 1, ground := Ground.guard }], guard := some (1, true) }) (by kernel_rfl) (.bool true) ?_ ?_
  · (go_simp; try with_reducible rfl)
  (try simp only [Act.put, List.setIfInBounds_toArray, List.set_cons_zero, List.set_cons_succ])
  refine wpList_exec_if (op := { dst := some 57, op := Op.pick (Operand.tmp 53) (Operand.tmp 56) (Operand.const (Value.bool false)), type := 4, pos := "law.go:57", after := #[{ on := 1, ground := Ground.data }, { on := 4, ground := Ground.data }], guard := none }) (by kernel_rfl) ?_ ?_ ?_
  rotate_left
  · (go_simp; try with_reducible rfl)
  (try simp only [Act.put, List.setIfInBounds_toArray, List.set_cons_zero, List.set_cons_succ])
  refine wpList_exec_if (op := { dst := some 58, op := Op.move (Operand.tmp 57), type := 4, pos := "law.go:57", after := #[{ on := 5, ground := Ground.data }, { on := 1, ground := Ground.chain }], guard := none }) (by kernel_rfl) ?_ ?_ ?_
  rotate_left
  · (go_simp; try with_reducible rfl)
  (try simp only [Act.put, List.setIfInBounds_toArray, List.set_cons_zero, List.set_cons_succ])
  refine wpList_exec_if (op := { dst := some 59, op := Op.move (Operand.tmp 10), type := 4, pos := "law.go:57", after := #[{ on := 6, ground := Ground.guard }], guard := some (6, true) }) (by kernel_rfl) ?_ ?_ ?_
  rotate_left
  · (go_simp; try with_reducible rfl)
  (try simp only [Act.put, List.setIfInBounds_toArray, List.set_cons_zero, List.set_cons_succ])
  refine wpList_exec_if (op := { dst := some 60, op := Op.move (Operand.tmp 12), type := 4, pos := "law.go:57", after := #[{ on := 6, ground := Ground.guard }], guard := some (6, true) }) (by kernel_rfl) ?_ ?_ ?_
  rotate_left
  · (go_simp; try with_reducible rfl)
  (try simp only [Act.put, List.setIfInBounds_toArray, List.set_cons_zero, List.set_cons_succ])
  refine wpList_exec_if (op := { dst := some 61, op := Op.binOp BinOp.eql 4 (Operand.tmp 59) (Operand.tmp 60) 4, type := 4, pos := "law.go:57", after := #[{ on := 7, ground := Ground.data }, { on := 8, ground := Ground.data }, { on := 6, ground := Ground.guard }], guard := some (6, true) }) (by kernel_rfl) (.bool true) ?_ ?_
  · (go_simp; try with_reducible rfl)
  (try simp only [Act.put, List.setIfInBounds_toArray, List.set_cons_zero, List.set_cons_succ])
  refine wpList_exec_if (op := { dst := some 62, op := Op.pick (Operand.tmp 58) (Operand.tmp 61) (Operand.const (Value.bool false)), type := 4, pos := "law.go:57", after := #[{ on := 6, ground := Ground.data }, { on := 9, ground := Ground.data }], guard := none }) (by kernel_rfl) ?_ ?_ ?_
  rotate_left
  · (go_simp; try with_reducible rfl)
  (try simp only [Act.put, List.setIfInBounds_toArray, List.set_cons_zero, List.set_cons_succ])
  refine wpList_exec_if (op := { dst := some 63, op := Op.move (Operand.tmp 62), type := 4, pos := "law.go:57", after := #[{ on := 10, ground := Ground.data }, { on := 6, ground := Ground.chain }], guard := none }) (by kernel_rfl) ?_ ?_ ?_
  rotate_left
  · (go_simp; try with_reducible rfl)
  (try simp only [Act.put, List.setIfInBounds_toArray, List.set_cons_zero, List.set_cons_succ])
  refine wpList_load_if (op := { dst := some 64, op := Op.load 24 (Operand.tmp 13), type := 24, pos := "law.go:57", after := #[{ on := 11, ground := Ground.guard }], guard := some (11, true) }) (by kernel_rfl) 24 _ rfl g3 0 rfl VY _ hr2 Tryd.underlying24 rfl HI_VY.out ?_
  (try simp only [Act.put, List.setIfInBounds_toArray, List.set_cons_zero, List.set_cons_succ])
  refine wpList_load_if (op := { dst := some 65, op := Op.load 24 (Operand.tmp 15), type := 24, pos := "law.go:57", after := #[{ on := 11, ground := Ground.guard }], guard := some (11, true) }) (by kernel_rfl) 24 _ rfl g4 0 rfl VY _ hr3 Tryd.underlying24 rfl HI_VY.out ?_
  (try simp only [Act.put, List.setIfInBounds_toArray, List.set_cons_zero, List.set_cons_succ])
  refine wpList_exec_if (op := { dst := some 66, op := Op.binOp BinOp.eql 24 (Operand.tmp 64) (Operand.tmp 65) 24, type := 4, pos := "law.go:57", after := #[{ on := 12, ground := Ground.data }, { on := 13, ground := Ground.data }, { on := 11, ground := Ground.guard }], guard := some (11, true) }) (by kernel_rfl) (.bool true) ?_ ?_
  · (go_simp; try with_reducible rfl)
  (try simp only [Act.put, List.setIfInBounds_toArray, List.set_cons_zero, List.set_cons_succ])
  refine wpList_exec_if (op := { dst := some 67, op := Op.pick (Operand.tmp 63) (Operand.tmp 66) (Operand.const (Value.bool false)), type := 4, pos := "law.go:57", after := #[{ on := 11, ground := Ground.data }, { on := 14, ground := Ground.data }], guard := none }) (by kernel_rfl) ?_ ?_ ?_
  rotate_left
  · (go_simp; try with_reducible rfl)
  (try simp only [Act.put, List.setIfInBounds_toArray, List.set_cons_zero, List.set_cons_succ])
  refine wpList_exec_if (op := { dst := some 68, op := Op.move (Operand.tmp 67), type := 4, pos := "law.go:57", after := #[{ on := 15, ground := Ground.data }, { on := 11, ground := Ground.chain }], guard := none }) (by kernel_rfl) ?_ ?_ ?_
  rotate_left
  · (go_simp; try with_reducible rfl)
  (try simp only [Act.put, List.setIfInBounds_toArray, List.set_cons_zero, List.set_cons_succ])
  refine wpList_exec_if (op := { dst := some 69, op := Op.move (Operand.tmp 14), type := 4, pos := "law.go:57", after := #[{ on := 16, ground := Ground.guard }], guard := some (16, true) }) (by kernel_rfl) ?_ ?_ ?_
  rotate_left
  · (go_simp; try with_reducible rfl)
  (try simp only [Act.put, List.setIfInBounds_toArray, List.set_cons_zero, List.set_cons_succ])
  refine wpList_exec_if (op := { dst := some 70, op := Op.move (Operand.tmp 16), type := 4, pos := "law.go:57", after := #[{ on := 16, ground := Ground.guard }], guard := some (16, true) }) (by kernel_rfl) ?_ ?_ ?_
  rotate_left
  · (go_simp; try with_reducible rfl)
  (try simp only [Act.put, List.setIfInBounds_toArray, List.set_cons_zero, List.set_cons_succ])
  refine wpList_exec_if (op := { dst := some 71, op := Op.binOp BinOp.eql 4 (Operand.tmp 69) (Operand.tmp 70) 4, type := 4, pos := "law.go:57", after := #[{ on := 17, ground := Ground.data }, { on := 18, ground := Ground.data }, { on := 16, ground := Ground.guard }], guard := some (16, true) }) (by kernel_rfl) (.bool true) ?_ ?_
  · (go_simp; try with_reducible rfl)
  (try simp only [Act.put, List.setIfInBounds_toArray, List.set_cons_zero, List.set_cons_succ])
  clear hr0 hr1 hr2 hr3 heq1 heq2
  go_wp2_with (fail)
  go_ret
  exact ⟨rfl, HK10.out.2.1⟩
theorem icmpmapSays_all (m : Mg) (a b len : Int) (w : World) (hm : Hm w) (hr : 0 ≤ m.rs ∧ m.rs < 4294967296) : Calls Tryd.prog 4 #[.agg m.vals.toArray, .int .i64 a, .int .i64 b, .int .i64 len] w (fun e w' => e = .returned (.bool true) ∧ Below w.heap.size w w') := by
  by_cases hd : (70000 : Int) < (m.da.size : Int)
  · exact says_long m a b len w hm hd
  · exact says_main m a b len w hm hr hd
theorem icmpmapOne_all (m : Mg) (a b len : Int) (w : World) (hm : Hm w) (hr : 0 ≤ m.rs ∧ m.rs < 4294967296) : Calls Tryd.prog 6 #[.agg m.vals.toArray, .int .i64 a, .int .i64 b, .int .i64 len] w (fun e w' => e = .returned (.bool true) ∧ Below w.heap.size w w') := by
  by_cases hd : (100 : Int) < (m.da.size : Int)
  · exact one_long m a b len w hm hd
  · exact one_main m a b len w hm hr hd
end Go.Proofs.YtnehabpdpkjaeaaDoor
