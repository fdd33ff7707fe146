/-
  Proved here: messages held against each other; that the laws' awake answers true.
  Conditions: none.
-/
import Derived.Test.YtnehabpdpkjaeaaDoorPg
namespace Go.Proofs.YtnehabpdpkjaeaaDoor
open Go.RowKit

theorem Tryd.heldMg : Tryd.prog.stoodInHeld 24 = false := by kernel_rfl
theorem Tryd.fieldsMg : Tryd.prog.underlying 24 = some (.struct (Tryd.prog.fieldsOf 24)) := by kernel_rfl
theorem eqlM (p : Mg) (w : World) : (binOp .eql 24 (.agg p.vals.toArray) (.agg p.vals.toArray)).run Tryd.prog w = .ok (.bool true) w := by
  have q0 : ∀ W, (part 3 p.vals.toArray 0).run Tryd.prog W = .ok (.int .i64 p.kd) W := fun _ => by kernel_rfl
  have q1 : ∀ W, (part 3 p.vals.toArray 1).run Tryd.prog W = .ok (.int .i64 p.cd) W := fun _ => by kernel_rfl
  have q2 : ∀ W, (part 22 p.vals.toArray 2).run Tryd.prog W = .ok (.int .u32 p.rs) W := fun _ => by kernel_rfl
  have q3 : ∀ W, (part 9 p.vals.toArray 3).run Tryd.prog W = .ok (.string p.da) W := fun _ => by kernel_rfl
  have hn := fun (x : Int) (W : World) => run_equalIn_int (P := Tryd.prog) W 9998 3 .i64 .i64 x x Tryd.underlying3
  have hu := fun (x : Int) (W : World) => run_equalIn_int (P := Tryd.prog) W 9998 22 .u32 .u32 x x Tryd.underlying22
  have hs := fun (x : ByteArray) (W : World) => run_equalIn_string (P := Tryd.prog) W 9998 9 x x Tryd.underlying9
  rw [run_eql_struct, run_equalIn_struct w 9999 24 _ _ Tryd.fieldsMg Tryd.heldMg]
  simp only [Program.fieldsOf, Tryd.underlying24]
  simp [Op.eqFields, q0, q1, q2, q3, hn, hu, hs]
theorem neqM (p : Mg) (w : World) : (binOp .neq 24 (.agg p.vals.toArray) (.agg p.vals.toArray)).run Tryd.prog w = .ok (.bool false) w := by
  have h := eqlM p w
  rw [run_eql_struct] at h
  rw [run_neq_struct]
  generalize (Op.equalIn 10000 24 (.agg p.vals.toArray) (.agg p.vals.toArray)).run Tryd.prog w = r at h ⊢
  cases r <;> simp [Result.andThen] at h ⊢
  simp [h]
def aw1 : Mg := ⟨3, 4, 1400, ⟨#[]⟩⟩
def aw2 : Mg := ⟨2, 0, 1420, ⟨#[]⟩⟩
def aw3 : Mg := ⟨2, 0, 1280, ⟨#[]⟩⟩
def aw4 : Mg := ⟨3, 4, 1260, ⟨#[]⟩⟩
theorem aw_six : six aw1 1500 1500 0 = (aw2, true) := rfl
theorem aw_four : four aw3 1500 1500 = (aw4, true) := rfl
theorem aw_plat : plat 1500 = 1492 := rfl
theorem awB1 (w : World) : (Instr.build 24 #[(0, .int .i64 3), (1, .int .i64 4), (2, .int .u32 1400)]).run Tryd.prog w = .ok (.agg aw1.vals.toArray) w := by kernel_rfl
theorem awB2 (w : World) : (Instr.build 24 #[(0, .int .i64 2), (2, .int .u32 1420)]).run Tryd.prog w = .ok (.agg aw2.vals.toArray) w := by kernel_rfl
theorem awB3 (w : World) : (Instr.build 24 #[(0, .int .i64 2), (2, .int .u32 1280)]).run Tryd.prog w = .ok (.agg aw3.vals.toArray) w := by kernel_rfl
theorem awB4 (w : World) : (Instr.build 24 #[(0, .int .i64 3), (1, .int .i64 4), (2, .int .u32 1260)]).run Tryd.prog w = .ok (.agg aw4.vals.toArray) w := by kernel_rfl
set_option maxRecDepth 100000 in
set_option maxHeartbeats 4000000 in
theorem awake14_true (w : World) (hm : Hm w) : Calls Tryd.prog 13 #[] w (fun e w' => e = .returned (.bool true) ∧ Below w.heap.size w w') := by
  have HMB : Hid (∀ W, Below w.heap.size w W → Hm W) := Lib.hid (fun W hW => hm.below hW)
  have HB1 := Lib.hid awB1
  have HB2 := Lib.hid awB2
  have HB3 := Lib.hid awB3
  have HB4 := Lib.hid awB4
  have CA : Hid (∀ W, Below w.heap.size w W → Calls Tryd.prog 11 #[.agg aw1.vals.toArray, .int .i64 1500, .int .i64 1500, .int .i64 0] W fun e w' => e = .returned (.tuple #[.agg aw2.vals.toArray, .bool true]) ∧ Below W.heap.size W w') := Lib.hid (fun W hW => by have hmW := HMB.out W hW; have h := psix_any aw1 1500 1500 0 W (by decide); rw [aw_six] at h; exact h)
  have CB : Hid (∀ W, Calls Tryd.prog 12 #[.agg aw3.vals.toArray, .int .i64 1500, .int .i64 1500] W fun e w' => e = .returned (.tuple #[.agg aw4.vals.toArray, .bool true]) ∧ Below W.heap.size W w') := Lib.hid (fun W => by have h := pfour_any aw3 1500 1500 W (by decide); rw [aw_four] at h; exact h)
  have CP : Hid (∀ W, Below w.heap.size w W → Calls Tryd.prog 14 #[.int .i64 1500] W fun e w' => e = .returned (.int .i64 1492) ∧ Below W.heap.size W w') := Lib.hid (fun W hW => by have hmW := HMB.out W hW; have h := pplat_any 1500 W; rw [aw_plat] at h; exact h)
  obtain ⟨V1, hV1⟩ : ∃ V, V = aw1.vals := ⟨_, rfl⟩
  obtain ⟨V2, hV2⟩ : ∃ V, V = aw2.vals := ⟨_, rfl⟩
  obtain ⟨V3, hV3⟩ : ∃ V, V = aw3.vals := ⟨_, rfl⟩
  obtain ⟨V4, hV4⟩ : ∃ V, V = aw4.vals := ⟨_, rfl⟩
  have HI_V2 : Hid ((Tryd.prog.info? 24).map (·.size) = some V2.length) := Lib.hid (by rw [hV2]; exact Tryd.infoMg _)
  have HO_V2 : Hid (V2.toArray.all (·.oneCell') = true) := Lib.hid (by rw [hV2]; exact mg_one _)
  have HL_V2 : Hid (V2.length = 4) := Lib.hid (by rw [hV2]; rfl)
  have HI_V4 : Hid ((Tryd.prog.info? 24).map (·.size) = some V4.length) := Lib.hid (by rw [hV4]; exact Tryd.infoMg _)
  have HO_V4 : Hid (V4.toArray.all (·.oneCell') = true) := Lib.hid (by rw [hV4]; exact mg_one _)
  have HL_V4 : Hid (V4.length = 4) := Lib.hid (by rw [hV4]; rfl)
  have HEV_V2 : Hid (∀ W, (binOp .eql 24 (.agg V2.toArray) (.agg V2.toArray)).run Tryd.prog W = .ok (.bool true) W) := Lib.hid (fun W => by rw [hV2]; exact eqlM _ W)
  have HEV_V4 : Hid (∀ W, (binOp .eql 24 (.agg V4.toArray) (.agg V4.toArray)).run Tryd.prog W = .ok (.bool true) W) := Lib.hid (fun W => by rw [hV4]; exact eqlM _ W)
  rw [← hV1, ← hV2] at CA
  rw [← hV3, ← hV4] at CB
  have HC1 : Hid (∀ W, (Instr.build 24 #[(0, .int .i64 3), (1, .int .i64 4), (2, .int .u32 1400)]).run Tryd.prog W = .ok (.agg V1.toArray) W) := Lib.hid (fun W => by rw [hV1]; exact HB1.out W)
  have HC2 : Hid (∀ W, (Instr.build 24 #[(0, .int .i64 2), (2, .int .u32 1420)]).run Tryd.prog W = .ok (.agg V2.toArray) W) := Lib.hid (fun W => by rw [hV2]; exact HB2.out W)
  have HC3 : Hid (∀ W, (Instr.build 24 #[(0, .int .i64 2), (2, .int .u32 1280)]).run Tryd.prog W = .ok (.agg V3.toArray) W) := Lib.hid (fun W => by rw [hV3]; exact HB3.out W)
  have HC4 : Hid (∀ W, (Instr.build 24 #[(0, .int .i64 3), (1, .int .i64 4), (2, .int .u32 1260)]).run Tryd.prog W = .ok (.agg V4.toArray) W) := Lib.hid (fun W => by rw [hV4]; exact HB4.out W)
  clear hV1 hV2 hV3 hV4 HB1 HB2 HB3 HB4
  have HK1 := Lib.hid (Kp.start w)
  obtain ⟨w1, hw1⟩ : ∃ w1, w1 = w := ⟨_, rfl⟩
  subst hw1
  go_enter Tryd.func13, Tryd.ntmps13
  go_wp2_with (((with_reducible (change wpList _ _ _ _ _ _)); ((refine Great.wpList_readTo rfl _ rfl (.agg V1.toArray) (run_execN (T := 24) rfl (by rw [List.map_toArray]; rfl) (HC1.out _)) ?_))))
  refine (CA.out _ HK1.out.2.1).mono ?_
  rintro e w2 ⟨rfl, bb⟩
  have HK2 := Lib.hid (HK1.out.below bb (Nat.le_refl _))
  clear bb HK1
  have ht := (bk_new w2 24 ([.int .i64 0, .int .i64 0, .int .u32 0, .string ⟨#[]⟩] : List Value).toArray).there V2.toArray.size (by have := HL_V2.out; simp; omega)
  go_upto_region 2 with (((with_reducible (change wpList _ _ _ _ _ _)); ((refine wpList_store_mid rfl 24 _ _ rfl (w2.heap.size) 0 V2.toArray rfl rfl ht (by simpa using HI_V2.out) HO_V2.out ?_))))
  have HK3 := Lib.hid (HK2.out.put 24 ([.int .i64 0, .int .i64 0, .int .u32 0, .string ⟨#[]⟩] : List Value).toArray V2 (by have := HL_V2.out; simp; omega))
  clear ht HK2
  generalize (w2.alloc (.cells ([.int .i64 0, .int .i64 0, .int .u32 0, .string ⟨#[]⟩] : List Value).toArray 24)).setCells w2.heap.size 0 V2 = w3 at *
  generalize w2.heap.size = g1 at *
  go_wp2_with (((with_reducible (change wpList _ _ _ _ _ _)); ((refine Great.wpList_readTo rfl _ rfl (.agg V3.toArray) (run_execN (T := 24) rfl (by rw [List.map_toArray]; rfl) (HC3.out _)) ?_))))
  refine (CB.out _).mono ?_
  rintro e w4 ⟨rfl, bb⟩
  have HK4 := Lib.hid (HK3.out.below bb (Nat.le_refl _))
  clear bb HK3
  have ht := (bk_new w4 24 ([.int .i64 0, .int .i64 0, .int .u32 0, .string ⟨#[]⟩] : List Value).toArray).there V4.toArray.size (by have := HL_V4.out; simp; omega)
  go_upto_region 3 with (((with_reducible (change wpList _ _ _ _ _ _)); ((refine wpList_store_mid rfl 24 _ _ rfl (w4.heap.size) 0 V4.toArray rfl rfl ht (by simpa using HI_V4.out) HO_V4.out ?_))))
  have HK5 := Lib.hid (HK4.out.put 24 ([.int .i64 0, .int .i64 0, .int .u32 0, .string ⟨#[]⟩] : List Value).toArray V4 (by have := HL_V4.out; simp; omega))
  clear ht HK4
  generalize (w4.alloc (.cells ([.int .i64 0, .int .i64 0, .int .u32 0, .string ⟨#[]⟩] : List Value).toArray 24)).setCells w4.heap.size 0 V4 = w5 at *
  generalize w4.heap.size = g3 at *
  go_wp2_with (fail)
  refine (CP.out _ HK5.out.2.1).mono ?_
  rintro e w6 ⟨rfl, bb⟩
  have HK6 := Lib.hid (HK5.out.below bb (Nat.le_refl _))
  clear bb HK5
  have hr0 := HK6.out.tl.hd.range
  have hr1 := HK6.out.hd.range
  have heq1 := HEV_V2.out
  have heq2 := HEV_V4.out
  (dsimp only; refine (‹∀ (a : Act) (w : World), wpList _ _ _ _ a w → _› _ _ ?_))
  refine wpList_exec_if (op := { dst := some 16, op := Op.binOp BinOp.eql 3 (Operand.tmp 15) (Operand.const (Value.int IntKind.i64 1492)) 3, type := 4, pos := "law.go:14", after := #[{ on := 0, ground := Ground.data }], guard := none }) (by kernel_rfl) ?_ ?_ ?_
  rotate_left
  · (go_simp; try with_reducible rfl)
  (try simp only [Act.put, List.setIfInBounds_toArray, List.set_cons_zero, List.set_cons_succ])
  refine wpList_exec_if (op := { dst := some 17, op := Op.move (Operand.tmp 16), type := 4, pos := "law.go:14", after := #[{ on := 1, ground := Ground.data }, { on := 0, ground := Ground.chain }], guard := none }) (by kernel_rfl) ?_ ?_ ?_
  rotate_left
  · (go_simp; try with_reducible rfl)
  (try simp only [Act.put, List.setIfInBounds_toArray, List.set_cons_zero, List.set_cons_succ])
  refine wpList_exec_if (op := { dst := some 18, op := Op.move (Operand.tmp 2), type := 4, pos := "law.go:14", after := #[{ on := 2, ground := Ground.guard }], guard := some (2, true) }) (by kernel_rfl) ?_ ?_ ?_
  rotate_left
  · (go_simp; try with_reducible rfl)
  (try simp only [Act.put, List.setIfInBounds_toArray, List.set_cons_zero, List.set_cons_succ])
  refine wpList_exec_if (op := { dst := some 19, op := Op.pick (Operand.tmp 17) (Operand.tmp 18) (Operand.const (Value.bool false)), type := 4, pos := "law.go:14", after := #[{ on := 2, ground := Ground.data }, { on := 3, ground := Ground.data }], guard := none }) (by kernel_rfl) ?_ ?_ ?_
  rotate_left
  · (go_simp; try with_reducible rfl)
  (try simp only [Act.put, List.setIfInBounds_toArray, List.set_cons_zero, List.set_cons_succ])
  refine wpList_exec_if (op := { dst := some 20, op := Op.move (Operand.tmp 19), type := 4, pos := "law.go:14", after := #[{ on := 4, ground := Ground.data }, { on := 2, ground := Ground.chain }], guard := none }) (by kernel_rfl) ?_ ?_ ?_
  rotate_left
  · (go_simp; try with_reducible rfl)
  (try simp only [Act.put, List.setIfInBounds_toArray, List.set_cons_zero, List.set_cons_succ])
  refine wpList_exec_if (op := { dst := some 21, op := Op.move (Operand.tmp 4), type := 4, pos := "law.go:14", after := #[{ on := 5, ground := Ground.guard }], guard := some (5, true) }) (by kernel_rfl) ?_ ?_ ?_
  rotate_left
  · (go_simp; try with_reducible rfl)
  (try simp only [Act.put, List.setIfInBounds_toArray, List.set_cons_zero, List.set_cons_succ])
  refine wpList_exec_if (op := { dst := some 22, op := Op.pick (Operand.tmp 20) (Operand.tmp 21) (Operand.const (Value.bool false)), type := 4, pos := "law.go:14", after := #[{ on := 5, ground := Ground.data }, { on := 6, ground := Ground.data }], guard := none }) (by kernel_rfl) ?_ ?_ ?_
  rotate_left
  · (go_simp; try with_reducible rfl)
  (try simp only [Act.put, List.setIfInBounds_toArray, List.set_cons_zero, List.set_cons_succ])
  refine wpList_exec_if (op := { dst := some 23, op := Op.move (Operand.tmp 22), type := 4, pos := "law.go:14", after := #[{ on := 7, ground := Ground.data }, { on := 5, ground := Ground.chain }], guard := none }) (by kernel_rfl) ?_ ?_ ?_
  rotate_left
  · (go_simp; try with_reducible rfl)
  (try simp only [Act.put, List.setIfInBounds_toArray, List.set_cons_zero, List.set_cons_succ])
  refine wpList_load_if (op := { dst := some 24, op := Op.load 24 (Operand.tmp 1), type := 24, pos := "law.go:14", after := #[{ on := 8, ground := Ground.guard }], guard := some (8, true) }) (by kernel_rfl) 24 _ rfl g1 0 rfl V2 _ hr0 Tryd.underlying24 rfl HI_V2.out ?_
  (try simp only [Act.put, List.setIfInBounds_toArray, List.set_cons_zero, List.set_cons_succ])
  refine wpList_exec_if (op := { dst := some 25, op := Op.build 24 #[(0, Operand.const (Value.int IntKind.i64 2)), (2, Operand.const (Value.int IntKind.u32 1420))], type := 24, pos := "law.go:14", after := #[{ on := 8, ground := Ground.guard }], guard := some (8, true) }) (by kernel_rfl) (.agg V2.toArray) ?_ ?_
  · (exact run_execN (T := 24) rfl (by rw [List.map_toArray]; rfl) (HC2.out _))
  (try simp only [Act.put, List.setIfInBounds_toArray, List.set_cons_zero, List.set_cons_succ])
  refine wpList_exec_if (op := { dst := some 26, op := Op.binOp BinOp.eql 24 (Operand.tmp 24) (Operand.tmp 25) 24, type := 4, pos := "law.go:14", after := #[{ on := 9, ground := Ground.data }, { on := 10, ground := Ground.data }, { on := 8, ground := Ground.guard }], guard := some (8, true) }) (by kernel_rfl) (.bool true) ?_ ?_
  · (go_simp; try with_reducible rfl)
  (try simp only [Act.put, List.setIfInBounds_toArray, List.set_cons_zero, List.set_cons_succ])
  refine wpList_exec_if (op := { dst := some 27, op := Op.pick (Operand.tmp 23) (Operand.tmp 26) (Operand.const (Value.bool false)), type := 4, pos := "law.go:14", after := #[{ on := 8, ground := Ground.data }, { on := 11, ground := Ground.data }], guard := none }) (by kernel_rfl) ?_ ?_ ?_
  rotate_left
  · (go_simp; try with_reducible rfl)
  (try simp only [Act.put, List.setIfInBounds_toArray, List.set_cons_zero, List.set_cons_succ])
  refine wpList_exec_if (op := { dst := some 28, op := Op.move (Operand.tmp 27), type := 4, pos := "law.go:14", after := #[{ on := 12, ground := Ground.data }, { on := 8, ground := Ground.chain }], guard := none }) (by kernel_rfl) ?_ ?_ ?_
  rotate_left
  · (go_simp; try with_reducible rfl)
  (try simp only [Act.put, List.setIfInBounds_toArray, List.set_cons_zero, List.set_cons_succ])
  refine wpList_load_if (op := { dst := some 29, op := Op.load 24 (Operand.tmp 3), type := 24, pos := "law.go:14", after := #[{ on := 13, ground := Ground.guard }], guard := some (13, true) }) (by kernel_rfl) 24 _ rfl g3 0 rfl V4 _ hr1 Tryd.underlying24 rfl HI_V4.out ?_
  (try simp only [Act.put, List.setIfInBounds_toArray, List.set_cons_zero, List.set_cons_succ])
  refine wpList_exec_if (op := { dst := some 30, op := Op.build 24 #[(0, Operand.const (Value.int IntKind.i64 3)), (1, Operand.const (Value.int IntKind.i64 4)), (2, Operand.const (Value.int IntKind.u32 1260))], type := 24, pos := "law.go:14", after := #[{ on := 13, ground := Ground.guard }], guard := some (13, true) }) (by kernel_rfl) (.agg V4.toArray) ?_ ?_
  · (exact run_execN (T := 24) rfl (by rw [List.map_toArray]; rfl) (HC4.out _))
  (try simp only [Act.put, List.setIfInBounds_toArray, List.set_cons_zero, List.set_cons_succ])
  refine wpList_exec_if (op := { dst := some 31, op := Op.binOp BinOp.eql 24 (Operand.tmp 29) (Operand.tmp 30) 24, type := 4, pos := "law.go:14", after := #[{ on := 14, ground := Ground.data }, { on := 15, ground := Ground.data }, { on := 13, ground := Ground.guard }], guard := some (13, true) }) (by kernel_rfl) (.bool true) ?_ ?_
  · (go_simp; try with_reducible rfl)
  (try simp only [Act.put, List.setIfInBounds_toArray, List.set_cons_zero, List.set_cons_succ])
  clear hr0 hr1 heq1 heq2
  go_wp2_with (fail)
  go_ret
  exact ⟨rfl, HK6.out.2.1⟩
end Go.Proofs.YtnehabpdpkjaeaaDoor
