/-
  Proved here: what the laws' same answers; that the laws' awake answers true.
  Conditions: as each fact says.
-/
import Derived.Test.YtkihhmnlefekoaaHp64
import Derived.Test.YtkihhmnlefekoaaFEq
namespace Go.Proofs.Ytkihhmnlefekoaa
open Go.RowKit

theorem same_ok (w : World) :
    Calls Try.prog 13 #[.nilIface, .int .i64 0] w fun e w' => e = .returned (.bool true) ∧ w = w' := by
  go_enter Try.func13, Try.ntmps13
  go_wp2_with fail
  go_ret
  exact ⟨rfl, rfl⟩
theorem Try.isFault (v : Option Addr) (w : World) : (Instr.typeAssert (.iface 75 (.pointer v)) 27 75 true).run Try.prog w = .ok (.tuple #[.pointer v, .bool true]) w := by kernel_rfl
set_option maxRecDepth 100000 in
theorem same_fault {w : World} {b : Nat} {c : Int} (hf : Flt w b c 0) (hc : (c == 0) = false) :
    Calls Try.prog 13 #[.iface 75 (.pointer (some ⟨b, 0, none⟩)), .int .i64 c] w fun e w' => e = .returned (.bool true) ∧ w = w' := by
  have c0 := hf.c0
  have c1 := hf.c1
  have hT := Try.isFault
  clear hf
  go_enter Try.func13, Try.ntmps13
  go_wp2_with fail
  go_ret
  exact ⟨rfl, rfl⟩
/-- An error of a code is the one of that code. -/
theorem same_any {w : World} {B : Nat} {c : Int} {x : Value} (h : ErrV B c x w) :
    Calls Try.prog 13 #[x, .int .i64 c] w fun e w' => e = .returned (.bool true) ∧ w = w' := by
  rcases h with ⟨rfl, rfl⟩ | ⟨hc, f, rfl, hf, _⟩
  · exact same_ok w
  · exact same_fault hf (by rw [beq_eq_false_iff_ne]; exact hc)
theorem nil_exs (w : World) : Exs w (.slice none 0 0) [] := ⟨none, 0, rfl, fun i hi => by cases hi⟩
theorem exs_cell {w : World} {v : Value} {l : List (Int × ByteArray)} (h : Exs w v l) : v.oneCell' = true := by
  obtain ⟨ao, cap, rfl, _⟩ := h
  rfl
def Pk6.small (p : Pk6) : Bool := !p.frag && decide (p.data.size ≤ 1240)
theorem wants64_any (p : Pk6) (v : Value) (w : World) : Calls Try.prog 12 #[.agg (p.vals v).toArray] w fun e w' => e = .returned (.bool p.small) ∧ Below w.heap.size w w' := by
  cases hf : p.frag
  · by_cases hs : (p.data.size : Int) ≤ 1240
    · rw [show p.small = true by unfold Pk6.small; rw [hf, show decide (p.data.size ≤ 1240) = true by rw [decide_eq_true_iff]; omega]; rfl]
      exact wants_small p v w hf hs
    · rw [show p.small = false by unfold Pk6.small; rw [hf, show decide (p.data.size ≤ 1240) = false by rw [decide_eq_false_iff_not]; omega]; rfl]
      exact wants_big p v w hf hs
  · rw [show p.small = false by unfold Pk6.small; rw [hf]; rfl]
    exact wants_frag p v w hf
theorem rwants64_any (p : Pk6) (v : Value) (w : World) : Calls Try.prog 18 #[.agg (p.vals v).toArray] w fun e w' => e = .returned (.bool p.small) ∧ Below w.heap.size w w' := by
  cases hf : p.frag
  · by_cases hs : (p.data.size : Int) ≤ 1240
    · rw [show p.small = true by unfold Pk6.small; rw [hf, show decide (p.data.size ≤ 1240) = true by rw [decide_eq_true_iff]; omega]; rfl]
      exact rwants_small p v w hf hs
    · rw [show p.small = false by unfold Pk6.small; rw [hf, show decide (p.data.size ≤ 1240) = false by rw [decide_eq_false_iff_not]; omega]; rfl]
      exact rwants_big p v w hf hs
  · rw [show p.small = false by unfold Pk6.small; rw [hf]; rfl]
    exact rwants_frag p v w hf
/-- The chapter's first packet, and what it becomes. -/
def exZ : List UInt8 := List.replicate 16 0
theorem exZ_len : exZ.length = 16 := rfl
def exA : Pk6 := ⟨5, 0, 9, exZ, exZ, [], false, 0, 0, false, 58, ⟨#[104, 105]⟩, exZ_len, exZ_len⟩
def exB : P4.Pkt := ⟨5, 7, 8, 1, 0, false, false, 1, 0, 0, 0, 2, 0, 0, 0, ⟨#[]⟩, ⟨#[104, 105]⟩⟩
theorem exA_code : hcode64 exA 7 = 0 := by decide +kernel
theorem exA_out : hout64 exA 1 0 0 0 2 0 0 0 7 = exB := by rw [hout64_ok exA_code]; rfl
theorem ex_head64 (w : World) : Calls Try.prog 9 #[.agg (exA.vals (.slice none 0 0)).toArray, .agg ([.int .u8 1, .int .u8 0, .int .u8 0, .int .u8 0] : List Value).toArray, .agg ([.int .u8 2, .int .u8 0, .int .u8 0, .int .u8 0] : List Value).toArray, .int .i64 7] w fun e w' => e = .returned (.tuple #[.agg exB.vals.toArray, .nilIface]) ∧ Below w.heap.size w w' := by
  refine (head64_any exA _ 1 0 0 0 2 0 0 0 7 w (nil_exs w) (by decide) (by decide)).mono ?_
  rintro e w' ⟨x, rfl, h, b⟩
  rw [exA_code] at h
  rcases h with ⟨_, rfl⟩ | ⟨h, _⟩
  · exact ⟨by rw [exA_out], b⟩
  · exact absurd rfl h
theorem exB6 (w : World) : (Instr.build 35 #[(0, .int .i64 5), (2, .int .i64 9), (10, .int .i64 58), (11, .string ⟨#[104, 105]⟩)]).run Try.prog w = .ok (.agg (exA.vals (.slice none 0 0)).toArray) w := by kernel_rfl
theorem exBF4 (w : World) : (Instr.build 23 #[(0, .int .u8 1)]).run Try.prog w = .ok (.agg ([.int .u8 1, .int .u8 0, .int .u8 0, .int .u8 0] : List Value).toArray) w := by kernel_rfl
theorem exBT4 (w : World) : (Instr.build 23 #[(0, .int .u8 2)]).run Try.prog w = .ok (.agg ([.int .u8 2, .int .u8 0, .int .u8 0, .int .u8 0] : List Value).toArray) w := by kernel_rfl
theorem exBQ4 (w : World) : (Instr.build 25 #[(0, .int .i64 5), (2, .int .i64 8), (3, .int .i64 1), (1, .int .i64 7), (7, .agg ([.int .u8 1, .int .u8 0, .int .u8 0, .int .u8 0] : List Value).toArray), (8, .agg ([.int .u8 2, .int .u8 0, .int .u8 0, .int .u8 0] : List Value).toArray), (10, .string ⟨#[104, 105]⟩)]).run Try.prog w = .ok (.agg exB.vals.toArray) w := by kernel_rfl
set_option maxRecDepth 100000 in
set_option maxHeartbeats 4000000 in
theorem awake64_true (w : World) :
    Calls Try.prog 11 #[] w fun e w' => e = .returned (.bool true) ∧ Below w.heap.size w w' := by
  have HB6 := Lib.hid exB6
  have HBF := Lib.hid exBF4
  have HBT := Lib.hid exBT4
  have HBQ := Lib.hid exBQ4
  have CH := Lib.hid ex_head64
  have HEQ := Lib.hid (P4.eqlP exB)
  have HI_VQ : Hid ((Try.prog.info? 25).map (·.size) = some (exB.vals).length) := Lib.hid (P4.Try.infoIp _)
  have HO_VQ : Hid ((exB.vals).toArray.all (·.oneCell') = true) := Lib.hid (P4.vals_one _)
  have HL_VQ : Hid ((exB.vals).length = 17) := Lib.hid rfl
  generalize exB.vals = VQ at *
  generalize exA.vals (.slice none 0 0) = VP at *
  generalize ([.int .u8 1, .int .u8 0, .int .u8 0, .int .u8 0] : List Value) = VF at *
  generalize ([.int .u8 2, .int .u8 0, .int .u8 0, .int .u8 0] : List Value) = VT at *
  have HK1 := Lib.hid (Kp.start w)
  obtain ⟨w1, hw1⟩ : ∃ w1, w1 = w := ⟨_, rfl⟩
  rw [← hw1] at HK1 ⊢
  clear hw1
  go_enter Try.func11, Try.ntmps11
  go_wp2_with (((with_reducible (change wpList _ _ _ _ _ _)); (first | (refine Great.wpList_readTo rfl _ rfl (.agg VP.toArray) (run_execN (T := 35) rfl (by rw [List.map_toArray]; rfl) (HB6.out _)) ?_) | (refine Great.wpList_readTo rfl _ rfl (.agg VF.toArray) (run_execN (T := 23) rfl (by rw [List.map_toArray]; rfl) (HBF.out _)) ?_) | (refine Great.wpList_readTo rfl _ rfl (.agg VT.toArray) (run_execN (T := 23) rfl (by rw [List.map_toArray]; rfl) (HBT.out _)) ?_))))
  refine (CH.out _).mono ?_
  rintro e w2 ⟨rfl, bb⟩
  have HK2 := Lib.hid (HK1.out.below bb (Nat.le_refl _))
  clear bb HK1
  have ht := (bk_new w2 25 ([.int .i64 0, .int .i64 0, .int .i64 0, .int .i64 0, .int .i64 0, .bool false, .bool false, .int .u8 0, .int .u8 0, .int .u8 0, .int .u8 0, .int .u8 0, .int .u8 0, .int .u8 0, .int .u8 0, .string ⟨#[]⟩, .string ⟨#[]⟩] : List Value).toArray).there VQ.toArray.size (by have := HL_VQ.out; simp; omega)
  go_upto_region 2 with (((with_reducible (change wpList _ _ _ _ _ _)); ((refine wpList_store_mid rfl 25 _ _ rfl (w2.heap.size) 0 VQ.toArray rfl rfl ht (by simpa using HI_VQ.out) HO_VQ.out ?_))))
  have HK3 := Lib.hid (HK2.out.put 25 ([.int .i64 0, .int .i64 0, .int .i64 0, .int .i64 0, .int .i64 0, .bool false, .bool false, .int .u8 0, .int .u8 0, .int .u8 0, .int .u8 0, .int .u8 0, .int .u8 0, .int .u8 0, .int .u8 0, .string ⟨#[]⟩, .string ⟨#[]⟩] : List Value).toArray VQ (by have := HL_VQ.out; simp; omega))
  clear ht HK2
  generalize (w2.alloc (.cells ([.int .i64 0, .int .i64 0, .int .i64 0, .int .i64 0, .int .i64 0, .bool false, .bool false, .int .u8 0, .int .u8 0, .int .u8 0, .int .u8 0, .int .u8 0, .int .u8 0, .int .u8 0, .int .u8 0, .string ⟨#[]⟩, .string ⟨#[]⟩] : List Value).toArray 25)).setCells w2.heap.size 0 VQ = w3 at *
  generalize w2.heap.size = g1 at *
  have hr0 := HK3.out.hd.range
  refine wp_region_list ?_
  refine wpList_exec_if (op := { dst := some 10, op := Op.move (Operand.tmp 2), type := 27, pos := "law.go:16", after := #[], guard := none }) (by kernel_rfl) ?_ ?_ ?_
  rotate_left
  · (go_simp; try with_reducible rfl)
  (try simp only [Act.put, List.setIfInBounds_toArray, List.set_cons_zero, List.set_cons_succ])
  refine wpList_exec_if (op := { dst := some 11, op := Op.binOp BinOp.eql 27 (Operand.tmp 10) (Operand.const Value.nilIface) 27, type := 4, pos := "law.go:16", after := #[{ on := 0, ground := Ground.data }], guard := none }) (by kernel_rfl) ?_ ?_ ?_
  rotate_left
  · (go_simp; try with_reducible rfl)
  (try simp only [Act.put, List.setIfInBounds_toArray, List.set_cons_zero, List.set_cons_succ])
  refine wpList_exec_if (op := { dst := some 12, op := Op.move (Operand.tmp 11), type := 4, pos := "law.go:16", after := #[{ on := 1, ground := Ground.data }], guard := none }) (by kernel_rfl) ?_ ?_ ?_
  rotate_left
  · (go_simp; try with_reducible rfl)
  (try simp only [Act.put, List.setIfInBounds_toArray, List.set_cons_zero, List.set_cons_succ])
  refine wpList_load_if (op := { dst := some 13, op := Op.load 25 (Operand.tmp 1), type := 25, pos := "law.go:16", after := #[{ on := 2, ground := Ground.guard }], guard := some (2, true) }) (by kernel_rfl) 25 _ rfl g1 0 rfl VQ _ hr0 Try.underlying25 rfl HI_VQ.out ?_
  (try simp only [Act.put, List.setIfInBounds_toArray, List.set_cons_zero, List.set_cons_succ])
  refine wpList_exec_if (op := { dst := some 14, op := Op.build 23 #[(0, Operand.const (Value.int IntKind.u8 1))], type := 23, pos := "law.go:16", after := #[{ on := 2, ground := Ground.guard }], guard := some (2, true) }) (by kernel_rfl) (.agg VF.toArray) ?_ ?_
  · (exact run_execN (T := 23) rfl (by rw [List.map_toArray]; rfl) (HBF.out _))
  (try simp only [Act.put, List.setIfInBounds_toArray, List.set_cons_zero, List.set_cons_succ])
  refine wpList_exec_if (op := { dst := some 15, op := Op.build 23 #[(0, Operand.const (Value.int IntKind.u8 2))], type := 23, pos := "law.go:16", after := #[{ on := 2, ground := Ground.guard }], guard := some (2, true) }) (by kernel_rfl) (.agg VT.toArray) ?_ ?_
  · (exact run_execN (T := 23) rfl (by rw [List.map_toArray]; rfl) (HBT.out _))
  (try simp only [Act.put, List.setIfInBounds_toArray, List.set_cons_zero, List.set_cons_succ])
  refine wpList_exec_if (op := { dst := some 16, op := Op.build 25 #[(0, Operand.const (Value.int IntKind.i64 5)), (2, Operand.const (Value.int IntKind.i64 8)), (3, Operand.const (Value.int IntKind.i64 1)), (1, Operand.const (Value.int IntKind.i64 7)), (7, Operand.tmp 14), (8, Operand.tmp 15), (10, Operand.const (Value.string { data := #[104, 105] }))], type := 25, pos := "law.go:16", after := #[{ on := 4, ground := Ground.data }, { on := 5, ground := Ground.data }, { on := 2, ground := Ground.guard }], guard := some (2, true) }) (by kernel_rfl) (.agg VQ.toArray) ?_ ?_
  · (exact run_execN (T := 25) rfl (by rw [List.map_toArray]; rfl) (HBQ.out _))
  (try simp only [Act.put, List.setIfInBounds_toArray, List.set_cons_zero, List.set_cons_succ])
  clear hr0
  have heq := HEQ.out
  go_wp2_with (fail)
  go_ret
  exact ⟨rfl, HK3.out.2.1⟩
end Go.Proofs.Ytkihhmnlefekoaa
