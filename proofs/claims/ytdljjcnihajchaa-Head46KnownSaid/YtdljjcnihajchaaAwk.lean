/-
  Proved here: what the law's same answers; that the law's awake answers true.
  Conditions: as each fact says.
-/
import Derived.Test.YtdljjcnihajchaaRh
namespace Go.Proofs.Ytdljjcnihajchaa
open Go.RowKit

theorem same_ok (w : World) :
    Calls Try.prog 10 #[.nilIface, .int .i64 0] w fun e w' => e = .returned (.bool true) ∧ w = w' := by
  go_enter Try.func10, Try.ntmps10
  go_wp2_with fail
  go_ret
  exact ⟨rfl, rfl⟩
theorem Try.isFault (v : Option Addr) (w : World) : (Instr.typeAssert (.iface 50 (.pointer v)) 29 50 true).run Try.prog w = .ok (.tuple #[.pointer v, .bool true]) w := by kernel_rfl
set_option maxRecDepth 100000 in
theorem same_fault {w : World} {b : Nat} {c : Int} (hf : Flt w b c 0) (hc : (c == 0) = false) :
    Calls Try.prog 10 #[.iface 50 (.pointer (some ⟨b, 0, none⟩)), .int .i64 c] w fun e w' => e = .returned (.bool true) ∧ w = w' := by
  have c0 := hf.c0
  have c1 := hf.c1
  have hT := Try.isFault
  clear hf
  go_enter Try.func10, Try.ntmps10
  go_wp2_with fail
  go_ret
  exact ⟨rfl, rfl⟩
/-- An error of a code is the one of that code. -/
theorem same_any {w : World} {B : Nat} {c : Int} {x : Value} (h : ErrV B c x w) :
    Calls Try.prog 10 #[x, .int .i64 c] w fun e w' => e = .returned (.bool true) ∧ w = w' := by
  rcases h with ⟨rfl, rfl⟩ | ⟨hc, f, rfl, hf, _⟩
  · exact same_ok w
  · exact same_fault hf (by rw [beq_eq_false_iff_ne]; exact hc)
/-- The chapter's first packet, and what it becomes. -/
def exP : P4.Pkt := ⟨5, 0, 9, 1, 0, true, false, 0, 0, 0, 0, 0, 0, 0, 0, ⟨#[]⟩, ⟨#[104, 105]⟩⟩
def exF : List UInt8 := [1, 0, 0, 0, 0, 0, 0, 0, 0, 0, 0, 0, 0, 0, 0, 0]
def exT : List UInt8 := [2, 0, 0, 0, 0, 0, 0, 0, 0, 0, 0, 0, 0, 0, 0, 0]
theorem exF_len : exF.length = 16 := rfl
theorem exT_len : exT.length = 16 := rfl
def exQ : Pk6 := ⟨5, 0, 8, exF, exT, [], false, 0, 0, false, 58, ⟨#[104, 105]⟩, exF_len, exT_len⟩
theorem exP_code : hcode exP = 0 := by decide +kernel
theorem exP_out : hout exP exF exT exF_len exT_len = exQ := by rw [hout_ok exP_code]; rfl
theorem ex_head (w : World) : Calls Try.prog 7 #[.agg exP.vals.toArray, .agg (bytV exF).toArray, .agg (bytV exT).toArray] w fun e w' => e = .returned (.tuple #[.agg (exQ.vals (.slice none 0 0)).toArray, .nilIface]) ∧ Below w.heap.size w w' := by
  refine (head_any exP exF exT exF_len exT_len w).mono ?_
  rintro e w' ⟨x, rfl, h, b⟩
  rw [exP_code] at h
  rcases h with ⟨_, rfl⟩ | ⟨h, _⟩
  · exact ⟨by rw [exP_out], b⟩
  · exact absurd rfl h
theorem exB4 (w : World) : (Instr.build 35 #[(0, .int .i64 5), (2, .int .i64 9), (3, .int .i64 1), (5, .bool true), (10, .string ⟨#[104, 105]⟩)]).run Try.prog w = .ok (.agg exP.vals.toArray) w := by kernel_rfl
theorem exBF (w : World) : (Instr.build 23 #[(0, .int .u8 1)]).run Try.prog w = .ok (.agg (bytV exF).toArray) w := by kernel_rfl
theorem exBT (w : World) : (Instr.build 23 #[(0, .int .u8 2)]).run Try.prog w = .ok (.agg (bytV exT).toArray) w := by kernel_rfl
theorem exBQ (w : World) : (Instr.build 27 #[(0, .int .i64 5), (2, .int .i64 8), (10, .int .i64 58), (3, .agg (bytV exF).toArray), (4, .agg (bytV exT).toArray), (11, .string ⟨#[104, 105]⟩)]).run Try.prog w = .ok (.agg (exQ.vals (.slice none 0 0)).toArray) w := by kernel_rfl
set_option maxRecDepth 100000 in
set_option maxHeartbeats 4000000 in
theorem awake_true (w : World) :
    Calls Try.prog 8 #[] w fun e w' => e = .returned (.bool true) ∧ Below w.heap.size w w' := by
  have HB4 := Lib.hid exB4
  have HBF := Lib.hid exBF
  have HBT := Lib.hid exBT
  have HBQ := Lib.hid exBQ
  have CH := Lib.hid ex_head
  have CS : Hid (∀ W, Calls Try.prog 9 #[.agg (exQ.vals (.slice none 0 0)).toArray, .agg (exQ.vals (.slice none 0 0)).toArray] W fun e w' => e = .returned (.bool true) ∧ Below W.heap.size W w') := Lib.hid (fun W => rsame_nil exQ W rfl)
  have HI_VQ : Hid ((Try.prog.info? 27).map (·.size) = some (exQ.vals (.slice none 0 0)).length) := Lib.hid (Try.info6 _ _)
  have HO_VQ : Hid ((exQ.vals (.slice none 0 0)).toArray.all (·.oneCell') = true) := Lib.hid (vals_one _ _ rfl)
  have HL_VQ : Hid ((exQ.vals (.slice none 0 0)).length = 42) := Lib.hid (vals_len _ _)
  generalize exQ.vals (.slice none 0 0) = VQ at *
  generalize exP.vals = VP at *
  generalize bytV exF = VF at *
  generalize bytV exT = VT at *
  have HK1 := Lib.hid (Kp.start w)
  obtain ⟨w1, hw1⟩ : ∃ w1, w1 = w := ⟨_, rfl⟩
  rw [← hw1] at HK1 ⊢
  clear hw1
  go_enter Try.func8, Try.ntmps8
  go_wp2_with (((with_reducible (change wpList _ _ _ _ _ _)); (first | (refine Great.wpList_readTo rfl _ rfl (.agg VP.toArray) (run_execN (T := 35) rfl (by rw [List.map_toArray]; rfl) (HB4.out _)) ?_) | (refine Great.wpList_readTo rfl _ rfl (.agg VF.toArray) (run_execN (T := 23) rfl (by rw [List.map_toArray]; rfl) (HBF.out _)) ?_) | (refine Great.wpList_readTo rfl _ rfl (.agg VT.toArray) (run_execN (T := 23) rfl (by rw [List.map_toArray]; rfl) (HBT.out _)) ?_))))
  refine (CH.out _).mono ?_
  rintro e w2 ⟨rfl, bb⟩
  have HK2 := Lib.hid (HK1.out.below bb (Nat.le_refl _))
  clear bb HK1
  have ht := (bk_new w2 27 ([.int .i64 0, .int .i64 0, .int .i64 0, .int .u8 0, .int .u8 0, .int .u8 0, .int .u8 0, .int .u8 0, .int .u8 0, .int .u8 0, .int .u8 0, .int .u8 0, .int .u8 0, .int .u8 0, .int .u8 0, .int .u8 0, .int .u8 0, .int .u8 0, .int .u8 0, .int .u8 0, .int .u8 0, .int .u8 0, .int .u8 0, .int .u8 0, .int .u8 0, .int .u8 0, .int .u8 0, .int .u8 0, .int .u8 0, .int .u8 0, .int .u8 0, .int .u8 0, .int .u8 0, .int .u8 0, .int .u8 0, .slice none 0 0, .bool false, .int .u32 0, .int .i64 0, .bool false, .int .i64 0, .string ⟨#[]⟩] : List Value).toArray).there VQ.toArray.size (by have := HL_VQ.out; simp; omega)
  go_upto_region 2 with (((with_reducible (change wpList _ _ _ _ _ _)); ((refine wpList_store_mid rfl 27 _ _ rfl (w2.heap.size) 0 VQ.toArray rfl rfl ht (by simpa using HI_VQ.out) HO_VQ.out ?_))))
  have HK3 := Lib.hid (HK2.out.put 27 ([.int .i64 0, .int .i64 0, .int .i64 0, .int .u8 0, .int .u8 0, .int .u8 0, .int .u8 0, .int .u8 0, .int .u8 0, .int .u8 0, .int .u8 0, .int .u8 0, .int .u8 0, .int .u8 0, .int .u8 0, .int .u8 0, .int .u8 0, .int .u8 0, .int .u8 0, .int .u8 0, .int .u8 0, .int .u8 0, .int .u8 0, .int .u8 0, .int .u8 0, .int .u8 0, .int .u8 0, .int .u8 0, .int .u8 0, .int .u8 0, .int .u8 0, .int .u8 0, .int .u8 0, .int .u8 0, .int .u8 0, .slice none 0 0, .bool false, .int .u32 0, .int .i64 0, .bool false, .int .i64 0, .string ⟨#[]⟩] : List Value).toArray VQ (by have := HL_VQ.out; simp; omega))
  clear ht HK2
  generalize (w2.alloc (.cells ([.int .i64 0, .int .i64 0, .int .i64 0, .int .u8 0, .int .u8 0, .int .u8 0, .int .u8 0, .int .u8 0, .int .u8 0, .int .u8 0, .int .u8 0, .int .u8 0, .int .u8 0, .int .u8 0, .int .u8 0, .int .u8 0, .int .u8 0, .int .u8 0, .int .u8 0, .int .u8 0, .int .u8 0, .int .u8 0, .int .u8 0, .int .u8 0, .int .u8 0, .int .u8 0, .int .u8 0, .int .u8 0, .int .u8 0, .int .u8 0, .int .u8 0, .int .u8 0, .int .u8 0, .int .u8 0, .int .u8 0, .slice none 0 0, .bool false, .int .u32 0, .int .i64 0, .bool false, .int .i64 0, .string ⟨#[]⟩] : List Value).toArray 27)).setCells w2.heap.size 0 VQ = w3 at *
  generalize w2.heap.size = g1 at *
  have hr0 := HK3.out.hd.range
  refine wp_region_list ?_
  refine wpList_exec_if (op := { dst := some 10, op := Op.move (Operand.tmp 2), type := 29, pos := "law.go:15", after := #[], guard := none }) (by kernel_rfl) ?_ ?_ ?_
  rotate_left
  · (go_simp; try with_reducible rfl)
  (try simp only [Act.put, List.setIfInBounds_toArray, List.set_cons_zero, List.set_cons_succ])
  refine wpList_exec_if (op := { dst := some 11, op := Op.binOp BinOp.eql 29 (Operand.tmp 10) (Operand.const Value.nilIface) 29, type := 4, pos := "law.go:15", after := #[{ on := 0, ground := Ground.data }], guard := none }) (by kernel_rfl) ?_ ?_ ?_
  rotate_left
  · (go_simp; try with_reducible rfl)
  (try simp only [Act.put, List.setIfInBounds_toArray, List.set_cons_zero, List.set_cons_succ])
  refine wpList_exec_if (op := { dst := some 12, op := Op.move (Operand.tmp 11), type := 4, pos := "law.go:15", after := #[{ on := 1, ground := Ground.data }], guard := none }) (by kernel_rfl) ?_ ?_ ?_
  rotate_left
  · (go_simp; try with_reducible rfl)
  (try simp only [Act.put, List.setIfInBounds_toArray, List.set_cons_zero, List.set_cons_succ])
  refine wpList_load_if (op := { dst := some 13, op := Op.load 27 (Operand.tmp 1), type := 27, pos := "law.go:15", after := #[{ on := 2, ground := Ground.guard }], guard := some (2, true) }) (by kernel_rfl) 27 _ rfl g1 0 rfl VQ _ hr0 Try.underlying27 rfl HI_VQ.out ?_
  (try simp only [Act.put, List.setIfInBounds_toArray, List.set_cons_zero, List.set_cons_succ])
  refine wpList_exec_if (op := { dst := some 14, op := Op.build 23 #[(0, Operand.const (Value.int IntKind.u8 1))], type := 23, pos := "law.go:15", after := #[{ on := 2, ground := Ground.guard }], guard := some (2, true) }) (by kernel_rfl) (.agg VF.toArray) ?_ ?_
  · (exact run_execN (T := 23) rfl (by rw [List.map_toArray]; rfl) (HBF.out _))
  (try simp only [Act.put, List.setIfInBounds_toArray, List.set_cons_zero, List.set_cons_succ])
  refine wpList_exec_if (op := { dst := some 15, op := Op.build 23 #[(0, Operand.const (Value.int IntKind.u8 2))], type := 23, pos := "law.go:15", after := #[{ on := 2, ground := Ground.guard }], guard := some (2, true) }) (by kernel_rfl) (.agg VT.toArray) ?_ ?_
  · (exact run_execN (T := 23) rfl (by rw [List.map_toArray]; rfl) (HBT.out _))
  (try simp only [Act.put, List.setIfInBounds_toArray, List.set_cons_zero, List.set_cons_succ])
  refine wpList_exec_if (op := { dst := some 16, op := Op.build 27 #[(0, Operand.const (Value.int IntKind.i64 5)), (2, Operand.const (Value.int IntKind.i64 8)), (10, Operand.const (Value.int IntKind.i64 58)), (3, Operand.tmp 14), (4, Operand.tmp 15), (11, Operand.const (Value.string { data := #[104, 105] }))], type := 27, pos := "law.go:15", after := #[{ on := 4, ground := Ground.data }, { on := 5, ground := Ground.data }, { on := 2, ground := Ground.guard }], guard := some (2, true) }) (by kernel_rfl) (.agg VQ.toArray) ?_ ?_
  · (exact run_execN (T := 27) rfl (by rw [List.map_toArray]; rfl) (HBQ.out _))
  (try simp only [Act.put, List.setIfInBounds_toArray, List.set_cons_zero, List.set_cons_succ])
  clear hr0
  go_wp2_with (fail)
  refine (CS.out _).mono ?_
  rintro e w4 ⟨rfl, bb⟩
  have HK4 := Lib.hid (HK3.out.below bb (Nat.le_refl _))
  clear bb HK3
  go_wp2_with (fail)
  go_ret
  exact ⟨rfl, HK4.out.2.1⟩
end Go.Proofs.Ytdljjcnihajchaa
