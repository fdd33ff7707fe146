/-
  Proved here: the law IcmpmapKnown answers true.
  Conditions: none.
-/
import Derived.Test.YtnehabpdpkjaeaaDoorAwk14
namespace Go.Proofs.YtnehabpdpkjaeaaDoor
open Go.RowKit

def kn1 : Mg := ⟨3, 4, 0, ⟨#[]⟩⟩
def kq1 : Mg := ⟨2, 0, 1500, ⟨#[]⟩⟩
theorem kn1_is : six kn1 1500 1500 1500 = (kq1, true) := rfl
theorem knB1 (w : World) : (Instr.build 24 #[(0, .int .i64 3), (1, .int .i64 4)]).run Tryd.prog w = .ok (.agg kn1.vals.toArray) w := by kernel_rfl
def kn2 : Mg := ⟨3, 14, 0, ⟨#[]⟩⟩
def kq2 : Mg := mg0
theorem kn2_is : six kn2 1500 1500 0 = (kq2, false) := rfl
theorem knB2 (w : World) : (Instr.build 24 #[(0, .int .i64 3), (1, .int .i64 14)]).run Tryd.prog w = .ok (.agg kn2.vals.toArray) w := by kernel_rfl
def kn3 : Mg := ⟨4, 0, 40, ⟨#[]⟩⟩
def kq3 : Mg := mg0
theorem kn3_is : four kn3 1500 1500 = (kq3, false) := rfl
theorem knB3 (w : World) : (Instr.build 24 #[(0, .int .i64 4), (2, .int .u32 40)]).run Tryd.prog w = .ok (.agg kn3.vals.toArray) w := by kernel_rfl
def kn4 : Mg := ⟨4, 0, 7, ⟨#[]⟩⟩
def kq4 : Mg := ⟨12, 0, 134217728, ⟨#[]⟩⟩
theorem kn4_is : four kn4 1500 1500 = (kq4, true) := rfl
theorem knB4 (w : World) : (Instr.build 24 #[(0, .int .i64 4), (2, .int .u32 7)]).run Tryd.prog w = .ok (.agg kn4.vals.toArray) w := by kernel_rfl
def kn5 : Mg := ⟨8, 0, 0, ⟨#[]⟩⟩
def kq5 : Mg := mg0
theorem kn5_is : six kn5 67 1500 0 = (kq5, false) := rfl
theorem knB5 (w : World) : (Instr.build 24 #[(0, .int .i64 8)]).run Tryd.prog w = .ok (.agg kn5.vals.toArray) w := by kernel_rfl
def kn6 : Mg := ⟨8, 0, 0, ⟨#[]⟩⟩
def kq6 : Mg := mg0
theorem kn6_is : six kn6 1500 1279 0 = (kq6, false) := rfl
theorem knB6 (w : World) : (Instr.build 24 #[(0, .int .i64 8)]).run Tryd.prog w = .ok (.agg kn6.vals.toArray) w := by kernel_rfl
theorem kqB1 (w : World) : (Instr.build 24 #[(0, .int .i64 2), (2, .int .u32 1500)]).run Tryd.prog w = .ok (.agg kq1.vals.toArray) w := by kernel_rfl
theorem kqB4 (w : World) : (Instr.build 24 #[(0, .int .i64 12), (2, .int .u32 134217728)]).run Tryd.prog w = .ok (.agg kq4.vals.toArray) w := by kernel_rfl
set_option maxRecDepth 100000 in
set_option maxHeartbeats 4000000 in
theorem icmpmapKnown_any (w : World) (hm : Hm w) : Calls Tryd.prog 3 #[] w (fun e w' => e = .returned (.bool true) ∧ Below w.heap.size w w') := by
  have HMB : Hid (∀ W, Below w.heap.size w W → Hm W) := Lib.hid (fun W hW => hm.below hW)
  have HB1 := Lib.hid knB1
  have CH1 : Hid (∀ W, Below w.heap.size w W → Calls Tryd.prog 11 #[.agg kn1.vals.toArray, .int .i64 1500, .int .i64 1500, .int .i64 1500] W fun e w' => e = .returned (.tuple #[.agg kq1.vals.toArray, .bool true]) ∧ Below W.heap.size W w') := Lib.hid (fun W hW => by have hmW := HMB.out W hW; have h := psix_any kn1 1500 1500 1500 W (by decide); rw [kn1_is] at h; exact h)
  have HB2 := Lib.hid knB2
  have CH2 : Hid (∀ W, Below w.heap.size w W → Calls Tryd.prog 11 #[.agg kn2.vals.toArray, .int .i64 1500, .int .i64 1500, .int .i64 0] W fun e w' => e = .returned (.tuple #[.agg kq2.vals.toArray, .bool false]) ∧ Below W.heap.size W w') := Lib.hid (fun W hW => by have hmW := HMB.out W hW; have h := psix_any kn2 1500 1500 0 W (by decide); rw [kn2_is] at h; exact h)
  have HB3 := Lib.hid knB3
  have CH3 : Hid (∀ W, Calls Tryd.prog 12 #[.agg kn3.vals.toArray, .int .i64 1500, .int .i64 1500] W fun e w' => e = .returned (.tuple #[.agg kq3.vals.toArray, .bool false]) ∧ Below W.heap.size W w') := Lib.hid (fun W => by have h := pfour_any kn3 1500 1500 W (by decide); rw [kn3_is] at h; exact h)
  have HB4 := Lib.hid knB4
  have CH4 : Hid (∀ W, Calls Tryd.prog 12 #[.agg kn4.vals.toArray, .int .i64 1500, .int .i64 1500] W fun e w' => e = .returned (.tuple #[.agg kq4.vals.toArray, .bool true]) ∧ Below W.heap.size W w') := Lib.hid (fun W => by have h := pfour_any kn4 1500 1500 W (by decide); rw [kn4_is] at h; exact h)
  have HB5 := Lib.hid knB5
  have CH5 : Hid (∀ W, Below w.heap.size w W → Calls Tryd.prog 11 #[.agg kn5.vals.toArray, .int .i64 67, .int .i64 1500, .int .i64 0] W fun e w' => e = .returned (.tuple #[.agg kq5.vals.toArray, .bool false]) ∧ Below W.heap.size W w') := Lib.hid (fun W hW => by have hmW := HMB.out W hW; have h := psix_any kn5 67 1500 0 W (by decide); rw [kn5_is] at h; exact h)
  have HB6 := Lib.hid knB6
  have CH6 : Hid (∀ W, Below w.heap.size w W → Calls Tryd.prog 11 #[.agg kn6.vals.toArray, .int .i64 1500, .int .i64 1279, .int .i64 0] W fun e w' => e = .returned (.tuple #[.agg kq6.vals.toArray, .bool false]) ∧ Below W.heap.size W w') := Lib.hid (fun W hW => by have hmW := HMB.out W hW; have h := psix_any kn6 1500 1279 0 W (by decide); rw [kn6_is] at h; exact h)
  have HBQ1 := Lib.hid kqB1
  have HBQ4 := Lib.hid kqB4
  have CP68 : Hid (∀ W, Below w.heap.size w W → Calls Tryd.prog 14 #[.int .i64 68] W fun e w' => e = .returned (.int .i64 68) ∧ Below W.heap.size W w') := Lib.hid (fun (W : World) (hW : Below w.heap.size w W) => have hmW := HMB.out W hW; pplat_any 68 W)
  have CP1492 : Hid (∀ W, Below w.heap.size w W → Calls Tryd.prog 14 #[.int .i64 1492] W fun e w' => e = .returned (.int .i64 1006) ∧ Below W.heap.size W w') := Lib.hid (fun (W : World) (hW : Below w.heap.size w W) => have hmW := HMB.out W hW; pplat_any 1492 W)
  have HI_Q1 : Hid ((Tryd.prog.info? 24).map (·.size) = some kq1.vals.length) := Lib.hid (Tryd.infoMg _)
  have HO_Q1 : Hid (kq1.vals.toArray.all (·.oneCell') = true) := Lib.hid (mg_one _)
  have HL_Q1 : Hid (kq1.vals.length = 4) := Lib.hid rfl
  have HI_Q2 : Hid ((Tryd.prog.info? 24).map (·.size) = some kq2.vals.length) := Lib.hid (Tryd.infoMg _)
  have HO_Q2 : Hid (kq2.vals.toArray.all (·.oneCell') = true) := Lib.hid (mg_one _)
  have HL_Q2 : Hid (kq2.vals.length = 4) := Lib.hid rfl
  have HI_Q3 : Hid ((Tryd.prog.info? 24).map (·.size) = some kq3.vals.length) := Lib.hid (Tryd.infoMg _)
  have HO_Q3 : Hid (kq3.vals.toArray.all (·.oneCell') = true) := Lib.hid (mg_one _)
  have HL_Q3 : Hid (kq3.vals.length = 4) := Lib.hid rfl
  have HI_Q4 : Hid ((Tryd.prog.info? 24).map (·.size) = some kq4.vals.length) := Lib.hid (Tryd.infoMg _)
  have HO_Q4 : Hid (kq4.vals.toArray.all (·.oneCell') = true) := Lib.hid (mg_one _)
  have HL_Q4 : Hid (kq4.vals.length = 4) := Lib.hid rfl
  have HI_Q5 : Hid ((Tryd.prog.info? 24).map (·.size) = some kq5.vals.length) := Lib.hid (Tryd.infoMg _)
  have HO_Q5 : Hid (kq5.vals.toArray.all (·.oneCell') = true) := Lib.hid (mg_one _)
  have HL_Q5 : Hid (kq5.vals.length = 4) := Lib.hid rfl
  have HI_Q6 : Hid ((Tryd.prog.info? 24).map (·.size) = some kq6.vals.length) := Lib.hid (Tryd.infoMg _)
  have HO_Q6 : Hid (kq6.vals.toArray.all (·.oneCell') = true) := Lib.hid (mg_one _)
  have HL_Q6 : Hid (kq6.vals.length = 4) := Lib.hid rfl
  have HEV1 := Lib.hid (eqlM kq1)
  have HEV4 := Lib.hid (eqlM kq4)
  generalize kq1.vals = Q1 at *
  generalize kn1.vals = N1 at *
  generalize kq2.vals = Q2 at *
  generalize kn2.vals = N2 at *
  generalize kq3.vals = Q3 at *
  generalize kn3.vals = N3 at *
  generalize kq4.vals = Q4 at *
  generalize kn4.vals = N4 at *
  generalize kq5.vals = Q5 at *
  generalize kn5.vals = N5 at *
  generalize kq6.vals = Q6 at *
  generalize kn6.vals = N6 at *
  have HK1 := Lib.hid (Kp.start w)
  obtain ⟨w1, hw1⟩ : ∃ w1, w1 = w := ⟨_, rfl⟩
  subst hw1
  go_enter Tryd.func3, Tryd.ntmps3
  go_wp2_with (((with_reducible (change wpList _ _ _ _ _ _)); ((refine Great.wpList_readTo rfl _ rfl (.agg N1.toArray) (run_execN (T := 24) rfl (by rw [List.map_toArray]; rfl) (HB1.out _)) ?_))))
  refine (CH1.out _ HK1.out.2.1).mono ?_
  rintro e w2 ⟨rfl, bb⟩
  have HK2 := Lib.hid (HK1.out.below bb (Nat.le_refl _))
  clear bb HK1
  have ht := (bk_new w2 24 ([.int .i64 0, .int .i64 0, .int .u32 0, .string ⟨#[]⟩] : List Value).toArray).there Q1.toArray.size (by have := HL_Q1.out; simp; omega)
  go_upto_region 2 with (((with_reducible (change wpList _ _ _ _ _ _)); ((refine wpList_store_mid rfl 24 _ _ rfl (w2.heap.size) 0 Q1.toArray rfl rfl ht (by simpa using HI_Q1.out) HO_Q1.out ?_))))
  have HK3 := Lib.hid (HK2.out.put 24 ([.int .i64 0, .int .i64 0, .int .u32 0, .string ⟨#[]⟩] : List Value).toArray Q1 (by have := HL_Q1.out; simp; omega))
  clear ht HK2
  generalize (w2.alloc (.cells ([.int .i64 0, .int .i64 0, .int .u32 0, .string ⟨#[]⟩] : List Value).toArray 24)).setCells w2.heap.size 0 Q1 = w3 at *
  generalize w2.heap.size = g1 at *
  go_wp2_with (((with_reducible (change wpList _ _ _ _ _ _)); ((refine Great.wpList_readTo rfl _ rfl (.agg N2.toArray) (run_execN (T := 24) rfl (by rw [List.map_toArray]; rfl) (HB2.out _)) ?_))))
  refine (CH2.out _ HK3.out.2.1).mono ?_
  rintro e w4 ⟨rfl, bb⟩
  have HK4 := Lib.hid (HK3.out.below bb (Nat.le_refl _))
  clear bb HK3
  have ht := (bk_new w4 24 ([.int .i64 0, .int .i64 0, .int .u32 0, .string ⟨#[]⟩] : List Value).toArray).there Q2.toArray.size (by have := HL_Q2.out; simp; omega)
  go_upto_region 3 with (((with_reducible (change wpList _ _ _ _ _ _)); ((refine wpList_store_mid rfl 24 _ _ rfl (w4.heap.size) 0 Q2.toArray rfl rfl ht (by simpa using HI_Q2.out) HO_Q2.out ?_))))
  have HK5 := Lib.hid (HK4.out.put 24 ([.int .i64 0, .int .i64 0, .int .u32 0, .string ⟨#[]⟩] : List Value).toArray Q2 (by have := HL_Q2.out; simp; omega))
  clear ht HK4
  generalize (w4.alloc (.cells ([.int .i64 0, .int .i64 0, .int .u32 0, .string ⟨#[]⟩] : List Value).toArray 24)).setCells w4.heap.size 0 Q2 = w5 at *
  generalize w4.heap.size = g2 at *
  go_wp2_with (((with_reducible (change wpList _ _ _ _ _ _)); ((refine Great.wpList_readTo rfl _ rfl (.agg N3.toArray) (run_execN (T := 24) rfl (by rw [List.map_toArray]; rfl) (HB3.out _)) ?_))))
  refine (CH3.out _).mono ?_
  rintro e w6 ⟨rfl, bb⟩
  have HK6 := Lib.hid (HK5.out.below bb (Nat.le_refl _))
  clear bb HK5
  have ht := (bk_new w6 24 ([.int .i64 0, .int .i64 0, .int .u32 0, .string ⟨#[]⟩] : List Value).toArray).there Q3.toArray.size (by have := HL_Q3.out; simp; omega)
  go_upto_region 4 with (((with_reducible (change wpList _ _ _ _ _ _)); ((refine wpList_store_mid rfl 24 _ _ rfl (w6.heap.size) 0 Q3.toArray rfl rfl ht (by simpa using HI_Q3.out) HO_Q3.out ?_))))
  have HK7 := Lib.hid (HK6.out.put 24 ([.int .i64 0, .int .i64 0, .int .u32 0, .string ⟨#[]⟩] : List Value).toArray Q3 (by have := HL_Q3.out; simp; omega))
  clear ht HK6
  generalize (w6.alloc (.cells ([.int .i64 0, .int .i64 0, .int .u32 0, .string ⟨#[]⟩] : List Value).toArray 24)).setCells w6.heap.size 0 Q3 = w7 at *
  generalize w6.heap.size = g3 at *
  go_wp2_with (((with_reducible (change wpList _ _ _ _ _ _)); ((refine Great.wpList_readTo rfl _ rfl (.agg N4.toArray) (run_execN (T := 24) rfl (by rw [List.map_toArray]; rfl) (HB4.out _)) ?_))))
  refine (CH4.out _).mono ?_
  rintro e w8 ⟨rfl, bb⟩
  have HK8 := Lib.hid (HK7.out.below bb (Nat.le_refl _))
  clear bb HK7
  have ht := (bk_new w8 24 ([.int .i64 0, .int .i64 0, .int .u32 0, .string ⟨#[]⟩] : List Value).toArray).there Q4.toArray.size (by have := HL_Q4.out; simp; omega)
  go_upto_region 5 with (((with_reducible (change wpList _ _ _ _ _ _)); ((refine wpList_store_mid rfl 24 _ _ rfl (w8.heap.size) 0 Q4.toArray rfl rfl ht (by simpa using HI_Q4.out) HO_Q4.out ?_))))
  have HK9 := Lib.hid (HK8.out.put 24 ([.int .i64 0, .int .i64 0, .int .u32 0, .string ⟨#[]⟩] : List Value).toArray Q4 (by have := HL_Q4.out; simp; omega))
  clear ht HK8
  generalize (w8.alloc (.cells ([.int .i64 0, .int .i64 0, .int .u32 0, .string ⟨#[]⟩] : List Value).toArray 24)).setCells w8.heap.size 0 Q4 = w9 at *
  generalize w8.heap.size = g4 at *
  go_wp2_with (((with_reducible (change wpList _ _ _ _ _ _)); ((refine Great.wpList_readTo rfl _ rfl (.agg N5.toArray) (run_execN (T := 24) rfl (by rw [List.map_toArray]; rfl) (HB5.out _)) ?_))))
  refine (CH5.out _ HK9.out.2.1).mono ?_
  rintro e w10 ⟨rfl, bb⟩
  have HK10 := Lib.hid (HK9.out.below bb (Nat.le_refl _))
  clear bb HK9
  have ht := (bk_new w10 24 ([.int .i64 0, .int .i64 0, .int .u32 0, .string ⟨#[]⟩] : List Value).toArray).there Q5.toArray.size (by have := HL_Q5.out; simp; omega)
  go_upto_region 6 with (((with_reducible (change wpList _ _ _ _ _ _)); ((refine wpList_store_mid rfl 24 _ _ rfl (w10.heap.size) 0 Q5.toArray rfl rfl ht (by simpa using HI_Q5.out) HO_Q5.out ?_))))
  have HK11 := Lib.hid (HK10.out.put 24 ([.int .i64 0, .int .i64 0, .int .u32 0, .string ⟨#[]⟩] : List Value).toArray Q5 (by have := HL_Q5.out; simp; omega))
  clear ht HK10
  generalize (w10.alloc (.cells ([.int .i64 0, .int .i64 0, .int .u32 0, .string ⟨#[]⟩] : List Value).toArray 24)).setCells w10.heap.size 0 Q5 = w11 at *
  generalize w10.heap.size = g5 at *
  go_wp2_with (((with_reducible (change wpList _ _ _ _ _ _)); ((refine Great.wpList_readTo rfl _ rfl (.agg N6.toArray) (run_execN (T := 24) rfl (by rw [List.map_toArray]; rfl) (HB6.out _)) ?_))))
  refine (CH6.out _ HK11.out.2.1).mono ?_
  rintro e w12 ⟨rfl, bb⟩
  have HK12 := Lib.hid (HK11.out.below bb (Nat.le_refl _))
  clear bb HK11
  have ht := (bk_new w12 24 ([.int .i64 0, .int .i64 0, .int .u32 0, .string ⟨#[]⟩] : List Value).toArray).there Q6.toArray.size (by have := HL_Q6.out; simp; omega)
  go_upto_region 7 with (((with_reducible (change wpList _ _ _ _ _ _)); ((refine wpList_store_mid rfl 24 _ _ rfl (w12.heap.size) 0 Q6.toArray rfl rfl ht (by simpa using HI_Q6.out) HO_Q6.out ?_))))
  have HK13 := Lib.hid (HK12.out.put 24 ([.int .i64 0, .int .i64 0, .int .u32 0, .string ⟨#[]⟩] : List Value).toArray Q6 (by have := HL_Q6.out; simp; omega))
  clear ht HK12
  generalize (w12.alloc (.cells ([.int .i64 0, .int .i64 0, .int .u32 0, .string ⟨#[]⟩] : List Value).toArray 24)).setCells w12.heap.size 0 Q6 = w13 at *
  generalize w12.heap.size = g6 at *
  go_wp2_with (fail)
  refine (awake14_true _ (HMB.out _ HK13.out.2.1)).mono ?_
  rintro e w14 ⟨rfl, bb⟩
  have HK14 := Lib.hid (HK13.out.below bb (Nat.le_refl _))
  clear bb HK13
  go_wp2_with (fail)
  refine (CP68.out _ HK14.out.2.1).mono ?_
  rintro e w15 ⟨rfl, bb⟩
  have HK15 := Lib.hid (HK14.out.below bb (Nat.le_refl _))
  clear bb HK14
  go_wp2_with (fail)
  refine (CP1492.out _ HK15.out.2.1).mono ?_
  rintro e w16 ⟨rfl, bb⟩
  have HK16 := Lib.hid (HK15.out.below bb (Nat.le_refl _))
  clear bb HK15
  have hr0 := HK16.out.tl.tl.tl.tl.tl.hd.range
  have hr1 := HK16.out.tl.tl.hd.range
  have heq1 := HEV1.out
  have heq2 := HEV4.out
  (dsimp only; refine (‹∀ (a : Act) (w : World), wpList _ _ _ _ a w → _› _ _ ?_))
  refine wpList_exec_if (op := { dst := some 50, op := Op.binOp BinOp.eql 3 (Operand.tmp 49) (Operand.const (Value.int IntKind.i64 1006)) 3, type := 4, pos := "law.go:68", after := #[{ on := 6, ground := Ground.data }, { on := 5, ground := Ground.guard }], guard := some (5, true) }) (by kernel_rfl) ?_ ?_ ?_
  rotate_left
  · (go_simp; try with_reducible rfl)
  (try simp only [Act.put, List.setIfInBounds_toArray, List.set_cons_zero, List.set_cons_succ])
  refine wpList_exec_if (op := { dst := some 51, op := Op.pick (Operand.tmp 48) (Operand.tmp 50) (Operand.const (Value.bool false)), type := 4, pos := "law.go:68", after := #[{ on := 5, ground := Ground.data }, { on := 7, ground := Ground.data }], guard := none }) (by kernel_rfl) ?_ ?_ ?_
  rotate_left
  · (go_simp; try with_reducible rfl)
  (try simp only [Act.put, List.setIfInBounds_toArray, List.set_cons_zero, List.set_cons_succ])
  refine wpList_exec_if (op := { dst := some 52, op := Op.move (Operand.tmp 51), type := 4, pos := "law.go:68", after := #[{ on := 8, ground := Ground.data }, { on := 6, ground := Ground.chain }], guard := none }) (by kernel_rfl) ?_ ?_ ?_
  rotate_left
  · (go_simp; try with_reducible rfl)
  (try simp only [Act.put, List.setIfInBounds_toArray, List.set_cons_zero, List.set_cons_succ])
  refine wpList_exec_if (op := { dst := some 53, op := Op.move (Operand.tmp 2), type := 4, pos := "law.go:68", after := #[{ on := 9, ground := Ground.guard }], guard := some (9, true) }) (by kernel_rfl) ?_ ?_ ?_
  rotate_left
  · (go_simp; try with_reducible rfl)
  (try simp only [Act.put, List.setIfInBounds_toArray, List.set_cons_zero, List.set_cons_succ])
  refine wpList_exec_if (op := { dst := some 54, op := Op.pick (Operand.tmp 52) (Operand.tmp 53) (Operand.const (Value.bool false)), type := 4, pos := "law.go:68", after := #[{ on := 9, ground := Ground.data }, { on := 10, ground := Ground.data }], guard := none }) (by kernel_rfl) ?_ ?_ ?_
  rotate_left
  · (go_simp; try with_reducible rfl)
  (try simp only [Act.put, List.setIfInBounds_toArray, List.set_cons_zero, List.set_cons_succ])
  refine wpList_exec_if (op := { dst := some 55, op := Op.move (Operand.tmp 54), type := 4, pos := "law.go:68", after := #[{ on := 11, ground := Ground.data }, { on := 9, ground := Ground.chain }], guard := none }) (by kernel_rfl) ?_ ?_ ?_
  rotate_left
  · (go_simp; try with_reducible rfl)
  (try simp only [Act.put, List.setIfInBounds_toArray, List.set_cons_zero, List.set_cons_succ])
  refine wpList_load_if (op := { dst := some 56, op := Op.load 24 (Operand.tmp 1), type := 24, pos := "law.go:68", after := #[{ on := 12, ground := Ground.guard }], guard := some (12, true) }) (by kernel_rfl) 24 _ rfl g1 0 rfl Q1 _ hr0 Tryd.underlying24 rfl HI_Q1.out ?_
  (try simp only [Act.put, List.setIfInBounds_toArray, List.set_cons_zero, List.set_cons_succ])
  refine wpList_exec_if (op := { dst := some 57, op := Op.build 24 #[(0, Operand.const (Value.int IntKind.i64 2)), (2, Operand.const (Value.int IntKind.u32 1500))], type := 24, pos := "law.go:68", after := #[{ on := 12, ground := Ground.guard }], guard := some (12, true) }) (by kernel_rfl) (.agg Q1.toArray) ?_ ?_
  · (exact run_execN (T := 24) rfl (by rw [List.map_toArray]; rfl) (HBQ1.out _))
  (try simp only [Act.put, List.setIfInBounds_toArray, List.set_cons_zero, List.set_cons_succ])
  refine wpList_exec_if (op := { dst := some 58, op := Op.binOp BinOp.eql 24 (Operand.tmp 56) (Operand.tmp 57) 24, type := 4, pos := "law.go:68", after := #[{ on := 13, ground := Ground.data }, { on := 14, ground := Ground.data }, { on := 12, ground := Ground.guard }], guard := some (12, true) }) (by kernel_rfl) (.bool true) ?_ ?_
  · (go_simp; try with_reducible rfl)
  (try simp only [Act.put, List.setIfInBounds_toArray, List.set_cons_zero, List.set_cons_succ])
  refine wpList_exec_if (op := { dst := some 59, op := Op.pick (Operand.tmp 55) (Operand.tmp 58) (Operand.const (Value.bool false)), type := 4, pos := "law.go:68", after := #[{ on := 12, ground := Ground.data }, { on := 15, ground := Ground.data }], guard := none }) (by kernel_rfl) ?_ ?_ ?_
  rotate_left
  · (go_simp; try with_reducible rfl)
  (try simp only [Act.put, List.setIfInBounds_toArray, List.set_cons_zero, List.set_cons_succ])
  refine wpList_exec_if (op := { dst := some 60, op := Op.move (Operand.tmp 59), type := 4, pos := "law.go:68", after := #[{ on := 16, ground := Ground.data }, { on := 12, ground := Ground.chain }], guard := none }) (by kernel_rfl) ?_ ?_ ?_
  rotate_left
  · (go_simp; try with_reducible rfl)
  (try simp only [Act.put, List.setIfInBounds_toArray, List.set_cons_zero, List.set_cons_succ])
  refine wpList_exec_if (op := { dst := some 61, op := Op.move (Operand.tmp 4), type := 4, pos := "law.go:68", after := #[{ on := 17, ground := Ground.guard }], guard := some (17, true) }) (by kernel_rfl) ?_ ?_ ?_
  rotate_left
  · (go_simp; try with_reducible rfl)
  (try simp only [Act.put, List.setIfInBounds_toArray, List.set_cons_zero, List.set_cons_succ])
  refine wpList_exec_if (op := { dst := some 62, op := Op.unOp UnOp.not 4 (Operand.tmp 61), type := 4, pos := "law.go:68", after := #[{ on := 18, ground := Ground.data }, { on := 17, ground := Ground.guard }], guard := some (17, true) }) (by kernel_rfl) ?_ ?_ ?_
  rotate_left
  · (go_simp; try with_reducible rfl)
  (try simp only [Act.put, List.setIfInBounds_toArray, List.set_cons_zero, List.set_cons_succ])
  refine wpList_exec_if (op := { dst := some 63, op := Op.pick (Operand.tmp 60) (Operand.tmp 62) (Operand.const (Value.bool false)), type := 4, pos := "law.go:68", after := #[{ on := 17, ground := Ground.data }, { on := 19, ground := Ground.data }], guard := none }) (by kernel_rfl) ?_ ?_ ?_
  rotate_left
  · (go_simp; try with_reducible rfl)
  (try simp only [Act.put, List.setIfInBounds_toArray, List.set_cons_zero, List.set_cons_succ])
  refine wpList_exec_if (op := { dst := some 64, op := Op.move (Operand.tmp 63), type := 4, pos := "law.go:68", after := #[{ on := 20, ground := Ground.data }, { on := 17, ground := Ground.chain }], guard := none }) (by kernel_rfl) ?_ ?_ ?_
  rotate_left
  · (go_simp; try with_reducible rfl)
  (try simp only [Act.put, List.setIfInBounds_toArray, List.set_cons_zero, List.set_cons_succ])
  refine wpList_exec_if (op := { dst := some 65, op := Op.move (Operand.tmp 6), type := 4, pos := "law.go:68", after := #[{ on := 21, ground := Ground.guard }], guard := some (21, true) }) (by kernel_rfl) ?_ ?_ ?_
  rotate_left
  · (go_simp; try with_reducible rfl)
  (try simp only [Act.put, List.setIfInBounds_toArray, List.set_cons_zero, List.set_cons_succ])
  refine wpList_exec_if (op := { dst := some 66, op := Op.unOp UnOp.not 4 (Operand.tmp 65), type := 4, pos := "law.go:68", after := #[{ on := 22, ground := Ground.data }, { on := 21, ground := Ground.guard }], guard := some (21, true) }) (by kernel_rfl) ?_ ?_ ?_
  rotate_left
  · (go_simp; try with_reducible rfl)
  (try simp only [Act.put, List.setIfInBounds_toArray, List.set_cons_zero, List.set_cons_succ])
  refine wpList_exec_if (op := { dst := some 67, op := Op.pick (Operand.tmp 64) (Operand.tmp 66) (Operand.const (Value.bool false)), type := 4, pos := "law.go:68", after := #[{ on := 21, ground := Ground.data }, { on := 23, ground := Ground.data }], guard := none }) (by kernel_rfl) ?_ ?_ ?_
  rotate_left
  · (go_simp; try with_reducible rfl)
  (try simp only [Act.put, List.setIfInBounds_toArray, List.set_cons_zero, List.set_cons_succ])
  refine wpList_exec_if (op := { dst := some 68, op := Op.move (Operand.tmp 67), type := 4, pos := "law.go:68", after := #[{ on := 24, ground := Ground.data }, { on := 21, ground := Ground.chain }], guard := none }) (by kernel_rfl) ?_ ?_ ?_
  rotate_left
  · (go_simp; try with_reducible rfl)
  (try simp only [Act.put, List.setIfInBounds_toArray, List.set_cons_zero, List.set_cons_succ])
  refine wpList_exec_if (op := { dst := some 69, op := Op.move (Operand.tmp 8), type := 4, pos := "law.go:68", after := #[{ on := 25, ground := Ground.guard }], guard := some (25, true) }) (by kernel_rfl) ?_ ?_ ?_
  rotate_left
  · (go_simp; try with_reducible rfl)
  (try simp only [Act.put, List.setIfInBounds_toArray, List.set_cons_zero, List.set_cons_succ])
  refine wpList_exec_if (op := { dst := some 70, op := Op.pick (Operand.tmp 68) (Operand.tmp 69) (Operand.const (Value.bool false)), type := 4, pos := "law.go:68", after := #[{ on := 25, ground := Ground.data }, { on := 26, ground := Ground.data }], guard := none }) (by kernel_rfl) ?_ ?_ ?_
  rotate_left
  · (go_simp; try with_reducible rfl)
  (try simp only [Act.put, List.setIfInBounds_toArray, List.set_cons_zero, List.set_cons_succ])
  refine wpList_exec_if (op := { dst := some 71, op := Op.move (Operand.tmp 70), type := 4, pos := "law.go:68", after := #[{ on := 27, ground := Ground.data }, { on := 25, ground := Ground.chain }], guard := none }) (by kernel_rfl) ?_ ?_ ?_
  rotate_left
  · (go_simp; try with_reducible rfl)
  (try simp only [Act.put, List.setIfInBounds_toArray, List.set_cons_zero, List.set_cons_succ])
  refine wpList_load_if (op := { dst := some 72, op := Op.load 24 (Operand.tmp 7), type := 24, pos := "law.go:68", after := #[{ on := 28, ground := Ground.guard }], guard := some (28, true) }) (by kernel_rfl) 24 _ rfl g4 0 rfl Q4 _ hr1 Tryd.underlying24 rfl HI_Q4.out ?_
  (try simp only [Act.put, List.setIfInBounds_toArray, List.set_cons_zero, List.set_cons_succ])
  refine wpList_exec_if (op := { dst := some 73, op := Op.build 24 #[(0, Operand.const (Value.int IntKind.i64 12)), (2, Operand.const (Value.int IntKind.u32 134217728))], type := 24, pos := "law.go:68", after := #[{ on := 28, ground := Ground.guard }], guard := some (28, true) }) (by kernel_rfl) (.agg Q4.toArray) ?_ ?_
  · (exact run_execN (T := 24) rfl (by rw [List.map_toArray]; rfl) (HBQ4.out _))
  (try simp only [Act.put, List.setIfInBounds_toArray, List.set_cons_zero, List.set_cons_succ])
  refine wpList_exec_if (op := { dst := some 74, op := Op.binOp BinOp.eql 24 (Operand.tmp 72) (Operand.tmp 73) 24, type := 4, pos := "law.go:68", after := #[{ on := 29, ground := Ground.data }, { on := 30, ground := Ground.data }, { on := 28, ground := Ground.guard }], guard := some (28, true) }) (by kernel_rfl) (.bool true) ?_ ?_
  · (go_simp; try with_reducible rfl)
  (try simp only [Act.put, List.setIfInBounds_toArray, List.set_cons_zero, List.set_cons_succ])
  clear hr0 hr1 heq1 heq2
  go_wp2_with (fail)
  go_ret
  exact ⟨rfl, HK16.out.2.1⟩
end Go.Proofs.YtnehabpdpkjaeaaDoor
