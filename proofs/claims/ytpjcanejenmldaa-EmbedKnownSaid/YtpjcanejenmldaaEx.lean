/-
  Proved here: what the laws' own example answers.
  Conditions: none.
-/
import Derived.Test.YtpjcanejenmldaaProgExtract
import Derived.Test.YtpjcanejenmldaaEq
namespace Go.Proofs.Ytpjcanejenmldaa
open Go.RowKit

def hostA : List Int := [192, 0, 2, 33]
def wellA : List Int := [0, 100, 255, 155, 0, 0, 0, 0, 0, 0, 0, 0, 0, 0, 0, 0]
def wellN : Nt := ⟨wellA, 96⟩
def wellX : List Int := [0, 100, 255, 155, 0, 0, 0, 0, 0, 0, 0, 0, 192, 0, 2, 33]
theorem well_right : wellN.right = true := by decide +kernel
theorem well_emb : wellN.emb hostA = wellX := by decide +kernel
theorem well_in : wellN.inside wellX = true := by decide +kernel
theorem well_takes : wellN.takes wellX = true := by decide +kernel
theorem well_ext : wellN.ext wellX = hostA := by decide +kernel
theorem Try.bHost (W : World) : (Instr.build 31 #[(0, .int .u8 192), (1, .int .u8 0), (2, .int .u8 2), (3, .int .u8 33)]).run Try.prog W = .ok (.agg (b8 hostA).toArray) W := by kernel_rfl
theorem Try.bWell (W : World) : (Instr.build 23 #[(0, .int .u8 0), (1, .int .u8 100), (2, .int .u8 255), (3, .int .u8 155)]).run Try.prog W = .ok (.agg (b8 wellA).toArray) W := by kernel_rfl
theorem Try.bWellX (W : World) : (Instr.build 23 #[(0, .int .u8 0), (1, .int .u8 100), (2, .int .u8 255), (3, .int .u8 155), (12, .int .u8 192), (13, .int .u8 0), (14, .int .u8 2), (15, .int .u8 33)]).run Try.prog W = .ok (.agg (b8 wellX).toArray) W := by kernel_rfl
theorem Try.bNet (W : World) : (Instr.build 26 #[(0, .agg (b8 wellA).toArray), (1, .int .i64 96)]).run Try.prog W = .ok (.agg wellN.vals.toArray) W := by kernel_rfl
theorem run_exec {P : Program} {op : Oper} {a : Act} {w : World} {v : Value} {T : TypeId} {l : Array (Nat × Operand)} {m : Array (Nat × Value)} (ho : op.op = .build T l) (hm : l.map (fun p => (p.1, a.eval p.2)) = m) (h : (Instr.build T m).run P w = .ok v w) : (execOp a.eval op).run P w = .ok (.value v) w := by
  unfold execOp
  simp only [ho, Sem.run_bind]
  rw [← hm] at h
  have e : (l.map fun x => match x with | (i, x) => (i, a.eval x)) = l.map (fun p => (p.1, a.eval p.2)) := rfl
  rw [e, h]
  rfl
set_option maxRecDepth 100000 in
theorem host_any (w : World) : Calls Try.prog 11 #[] w fun e w' => e = .returned (.agg (b8 hostA).toArray) ∧ Below w.heap.size w w' := by
  have HB : Hid (∀ W, (Instr.build 31 #[(0, .int .u8 192), (1, .int .u8 0), (2, .int .u8 2), (3, .int .u8 33)]).run Try.prog W = .ok (.agg (b8 hostA).toArray) W) := Lib.hid Try.bHost
  have HL : Hid ((b8 hostA).length = 4) := Lib.hid rfl
  have HO := Lib.hid (b8_one hostA)
  have HI : Hid ((Try.prog.info? 31).map (·.size) = some (b8 hostA).length) := Lib.hid (Try.infoFour hostA rfl)
  generalize b8 hostA = VH at *
  have hk := bk_new w 31 ([.int .u8 0, .int .u8 0, .int .u8 0, .int .u8 0] : List Value).toArray
  have ht : (w.alloc (.cells ([.int .u8 0, .int .u8 0, .int .u8 0, .int .u8 0] : List Value).toArray 31)).there w.heap.size 0 VH.toArray.size := hk.there _ (by have := HL.out; simp; omega)
  have HK := Lib.hid (Bk.sets VH 0 _ _ hk)
  have HBw := Lib.hid (show Below w.heap.size w (w.alloc (.cells ([.int .u8 0, .int .u8 0, .int .u8 0, .int .u8 0] : List Value).toArray 31)) from (Below.refl _ _).alloc (Nat.le_refl _) _)
  clear hk
  go_enter Try.func11, Try.ntmps11
  go_wp2_with (first | (refine Great.wpList_readTo rfl _ rfl (.agg VH.toArray) (run_exec rfl (by simp only [List.map_toArray, List.map_cons, List.map_nil]; rfl) (HB.out _)) ?_) | (refine wpList_store_mid rfl 31 _ _ rfl w.heap.size 0 VH.toArray rfl rfl ht (by simpa using HI.out) HO.out ?_))
  have hk5 := HK.out
  rw [puts_whole ([.int .u8 0, .int .u8 0, .int .u8 0, .int .u8 0] : List Value).toArray VH (by have := HL.out; simp; omega)] at hk5
  refine bodyPost_ret (v := .agg VH.toArray) ?_ rfl ⟨rfl, below_sets _ (Nat.le_refl _) 0 _ HBw.out⟩
  exact results_cell rfl rfl (run_loadVar_mid _ w.heap.size 0 31 VH _ hk5.range Try.underlying31 rfl HI.out)
set_option maxRecDepth 100000 in
theorem well_any (w : World) : Calls Try.prog 13 #[] w fun e w' => e = .returned (.agg wellN.vals.toArray) ∧ Below w.heap.size w w' := by
  have HB : Hid (∀ W, (Instr.build 23 #[(0, .int .u8 0), (1, .int .u8 100), (2, .int .u8 255), (3, .int .u8 155)]).run Try.prog W = .ok (.agg (b8 wellA).toArray) W) := Lib.hid Try.bWell
  have HC : Hid (∀ W, (Instr.build 26 #[(0, .agg (b8 wellA).toArray), (1, .int .i64 96)]).run Try.prog W = .ok (.agg wellN.vals.toArray) W) := Lib.hid Try.bNet
  have HL : Hid (wellN.vals.length = 17) := Lib.hid rfl
  have HO := Lib.hid (nvals_one wellN)
  have HI : Hid ((Try.prog.info? 26).map (·.size) = some wellN.vals.length) := Lib.hid (Try.infoNet wellN rfl)
  generalize wellN.vals = VN at *
  generalize b8 wellA = VA at *
  have hk := bk_new w 26 ([.int .u8 0, .int .u8 0, .int .u8 0, .int .u8 0, .int .u8 0, .int .u8 0, .int .u8 0, .int .u8 0, .int .u8 0, .int .u8 0, .int .u8 0, .int .u8 0, .int .u8 0, .int .u8 0, .int .u8 0, .int .u8 0, .int .i64 0] : List Value).toArray
  have ht : (w.alloc (.cells ([.int .u8 0, .int .u8 0, .int .u8 0, .int .u8 0, .int .u8 0, .int .u8 0, .int .u8 0, .int .u8 0, .int .u8 0, .int .u8 0, .int .u8 0, .int .u8 0, .int .u8 0, .int .u8 0, .int .u8 0, .int .u8 0, .int .i64 0] : List Value).toArray 26)).there w.heap.size 0 VN.toArray.size := hk.there _ (by have := HL.out; simp; omega)
  have HK := Lib.hid (Bk.sets VN 0 _ _ hk)
  have HBw := Lib.hid (show Below w.heap.size w (w.alloc (.cells ([.int .u8 0, .int .u8 0, .int .u8 0, .int .u8 0, .int .u8 0, .int .u8 0, .int .u8 0, .int .u8 0, .int .u8 0, .int .u8 0, .int .u8 0, .int .u8 0, .int .u8 0, .int .u8 0, .int .u8 0, .int .u8 0, .int .i64 0] : List Value).toArray 26)) from (Below.refl _ _).alloc (Nat.le_refl _) _)
  clear hk
  go_enter Try.func13, Try.ntmps13
  go_wp2_with (first | (refine Great.wpList_readTo rfl _ rfl (.agg VA.toArray) (run_exec rfl (by simp only [List.map_toArray, List.map_cons, List.map_nil]; rfl) (HB.out _)) ?_) | (refine Great.wpList_readTo rfl _ rfl (.agg VN.toArray) (run_exec rfl (by simp only [List.map_toArray, List.map_cons, List.map_nil]; rfl) (HC.out _)) ?_) | (refine wpList_store_mid rfl 26 _ _ rfl w.heap.size 0 VN.toArray rfl rfl ht (by simpa using HI.out) HO.out ?_))
  have hk5 := HK.out
  rw [puts_whole ([.int .u8 0, .int .u8 0, .int .u8 0, .int .u8 0, .int .u8 0, .int .u8 0, .int .u8 0, .int .u8 0, .int .u8 0, .int .u8 0, .int .u8 0, .int .u8 0, .int .u8 0, .int .u8 0, .int .u8 0, .int .u8 0, .int .i64 0] : List Value).toArray VN (by have := HL.out; simp; omega)] at hk5
  refine bodyPost_ret (v := .agg VN.toArray) ?_ rfl ⟨rfl, below_sets _ (Nat.le_refl _) 0 _ HBw.out⟩
  exact results_cell rfl rfl (run_loadVar_mid _ w.heap.size 0 26 VN _ hk5.range Try.underlying26 rfl HI.out)
end Go.Proofs.Ytpjcanejenmldaa
