/-
  Proved here: the law EmbedKnown answers true.
  Conditions: none.
-/
import Derived.Test.YtpjcanejenmldaaAwake
import Derived.Test.YtpjcanejenmldaaOnce
import Derived.Lib.SlBuf
namespace Go.Proofs.Ytpjcanejenmldaa
open Go.RowKit

def baseA : List Int := [32, 1, 13, 184, 1, 34, 3, 68, 0, 0, 0, 0, 0, 0, 0, 0]
def e8A : List Int := [0, 0, 0, 0, 0, 0, 0, 0, 1, 0, 0, 0, 0, 0, 0, 0]
def want0 : List Int := [32, 1, 13, 184, 192, 0, 2, 33, 0, 0, 0, 0, 0, 0, 0, 0]
def pre0 : Nt := ⟨[32, 1, 13, 184, 0, 0, 0, 0, 0, 0, 0, 0, 0, 0, 0, 0], 32⟩
theorem pre0_emb : pre0.emb hostA = want0 := by decide +kernel
theorem pre0_right : pre0.right = true := by decide +kernel
theorem Try.bWant0 (W : World) : (Instr.build 23 #[(0, .int .u8 32), (1, .int .u8 1), (2, .int .u8 13), (3, .int .u8 184), (4, .int .u8 192), (5, .int .u8 0), (6, .int .u8 2), (7, .int .u8 33)]).run Try.prog W = .ok (.agg (b8 want0).toArray) W := by kernel_rfl
theorem Try.bPre0 (W : World) : (Instr.build 26 #[(1, .int .i64 32)]).run Try.prog W = .ok (.agg (Nt.mk zero6 32).vals.toArray) W := by kernel_rfl
def want1 : List Int := [32, 1, 13, 184, 1, 192, 0, 2, 0, 33, 0, 0, 0, 0, 0, 0]
def pre1 : Nt := ⟨[32, 1, 13, 184, 1, 0, 0, 0, 0, 0, 0, 0, 0, 0, 0, 0], 40⟩
theorem pre1_emb : pre1.emb hostA = want1 := by decide +kernel
theorem pre1_right : pre1.right = true := by decide +kernel
theorem Try.bWant1 (W : World) : (Instr.build 23 #[(0, .int .u8 32), (1, .int .u8 1), (2, .int .u8 13), (3, .int .u8 184), (4, .int .u8 1), (5, .int .u8 192), (6, .int .u8 0), (7, .int .u8 2), (8, .int .u8 0), (9, .int .u8 33)]).run Try.prog W = .ok (.agg (b8 want1).toArray) W := by kernel_rfl
theorem Try.bPre1 (W : World) : (Instr.build 26 #[(1, .int .i64 40)]).run Try.prog W = .ok (.agg (Nt.mk zero6 40).vals.toArray) W := by kernel_rfl
def want2 : List Int := [32, 1, 13, 184, 1, 34, 192, 0, 0, 2, 33, 0, 0, 0, 0, 0]
def pre2 : Nt := ⟨[32, 1, 13, 184, 1, 34, 0, 0, 0, 0, 0, 0, 0, 0, 0, 0], 48⟩
theorem pre2_emb : pre2.emb hostA = want2 := by decide +kernel
theorem pre2_right : pre2.right = true := by decide +kernel
theorem Try.bWant2 (W : World) : (Instr.build 23 #[(0, .int .u8 32), (1, .int .u8 1), (2, .int .u8 13), (3, .int .u8 184), (4, .int .u8 1), (5, .int .u8 34), (6, .int .u8 192), (7, .int .u8 0), (8, .int .u8 0), (9, .int .u8 2), (10, .int .u8 33)]).run Try.prog W = .ok (.agg (b8 want2).toArray) W := by kernel_rfl
theorem Try.bPre2 (W : World) : (Instr.build 26 #[(1, .int .i64 48)]).run Try.prog W = .ok (.agg (Nt.mk zero6 48).vals.toArray) W := by kernel_rfl
def want3 : List Int := [32, 1, 13, 184, 1, 34, 3, 192, 0, 0, 2, 33, 0, 0, 0, 0]
def pre3 : Nt := ⟨[32, 1, 13, 184, 1, 34, 3, 0, 0, 0, 0, 0, 0, 0, 0, 0], 56⟩
theorem pre3_emb : pre3.emb hostA = want3 := by decide +kernel
theorem pre3_right : pre3.right = true := by decide +kernel
theorem Try.bWant3 (W : World) : (Instr.build 23 #[(0, .int .u8 32), (1, .int .u8 1), (2, .int .u8 13), (3, .int .u8 184), (4, .int .u8 1), (5, .int .u8 34), (6, .int .u8 3), (7, .int .u8 192), (8, .int .u8 0), (9, .int .u8 0), (10, .int .u8 2), (11, .int .u8 33)]).run Try.prog W = .ok (.agg (b8 want3).toArray) W := by kernel_rfl
theorem Try.bPre3 (W : World) : (Instr.build 26 #[(1, .int .i64 56)]).run Try.prog W = .ok (.agg (Nt.mk zero6 56).vals.toArray) W := by kernel_rfl
def want4 : List Int := [32, 1, 13, 184, 1, 34, 3, 68, 0, 192, 0, 2, 33, 0, 0, 0]
def pre4 : Nt := ⟨[32, 1, 13, 184, 1, 34, 3, 68, 0, 0, 0, 0, 0, 0, 0, 0], 64⟩
theorem pre4_emb : pre4.emb hostA = want4 := by decide +kernel
theorem pre4_right : pre4.right = true := by decide +kernel
theorem Try.bWant4 (W : World) : (Instr.build 23 #[(0, .int .u8 32), (1, .int .u8 1), (2, .int .u8 13), (3, .int .u8 184), (4, .int .u8 1), (5, .int .u8 34), (6, .int .u8 3), (7, .int .u8 68), (8, .int .u8 0), (9, .int .u8 192), (10, .int .u8 0), (11, .int .u8 2), (12, .int .u8 33)]).run Try.prog W = .ok (.agg (b8 want4).toArray) W := by kernel_rfl
theorem Try.bPre4 (W : World) : (Instr.build 26 #[(1, .int .i64 64)]).run Try.prog W = .ok (.agg (Nt.mk zero6 64).vals.toArray) W := by kernel_rfl
theorem Try.bBase (W : World) : (Instr.build 23 #[(0, .int .u8 32), (1, .int .u8 1), (2, .int .u8 13), (3, .int .u8 184), (4, .int .u8 1), (5, .int .u8 34), (6, .int .u8 3), (7, .int .u8 68)]).run Try.prog W = .ok (.agg (b8 baseA).toArray) W := by kernel_rfl
theorem Try.bE8 (W : World) : (Instr.build 23 #[(8, .int .u8 1)]).run Try.prog W = .ok (.agg (b8 e8A).toArray) W := by kernel_rfl
theorem Try.bN33 (W : World) : (Instr.build 26 #[(0, .agg (b8 baseA).toArray), (1, .int .i64 33)]).run Try.prog W = .ok (.agg (Nt.mk baseA 33).vals.toArray) W := by kernel_rfl
theorem Try.bN32 (W : World) : (Instr.build 26 #[(0, .agg (b8 baseA).toArray), (1, .int .i64 32)]).run Try.prog W = .ok (.agg (Nt.mk baseA 32).vals.toArray) W := by kernel_rfl
theorem Try.bN8 (W : World) : (Instr.build 26 #[(0, .agg (b8 e8A).toArray), (1, .int .i64 96)]).run Try.prog W = .ok (.agg (Nt.mk e8A 96).vals.toArray) W := by kernel_rfl
theorem Try.bN96 (W : World) : (Instr.build 26 #[(1, .int .i64 96)]).run Try.prog W = .ok (.agg (Nt.mk zero6 96).vals.toArray) W := by kernel_rfl
theorem kn33 : (Nt.mk baseA 33).right = false := by decide +kernel
theorem kn32 : (Nt.mk baseA 32).right = false := by decide +kernel
theorem kn8 : (Nt.mk e8A 96).right = false := by decide +kernel
theorem kn96 : (Nt.mk zero6 96).right = true := by decide +kernel
theorem knx : wellN.takes baseA = false := by decide +kernel
theorem knxe : wellN.ext baseA = zero4 := by decide +kernel
/-- All that is wanted, one behind the other. -/
def bigL : List Value := b8 want0 ++ (b8 want1 ++ (b8 want2 ++ (b8 want3 ++ b8 want4)))
theorem Try.bBig (W : World) : (Instr.buildSlice 24 5 #[(0, .agg (b8 want0).toArray), (1, .agg (b8 want1).toArray), (2, .agg (b8 want2).toArray), (3, .agg (b8 want3).toArray), (4, .agg (b8 want4).toArray)]).run Try.prog W = .ok (.slice (some ⟨W.heap.size, 0, none⟩) 5 5) (W.alloc (.cells bigL.toArray 23)) := by kernel_rfl
theorem run_execS {P : Program} {op : Oper} {a : Act} {w w' : World} {v : Value} {T : TypeId} {n : Nat} {l : Array (Nat × Operand)} {m : Array (Nat × Value)} (ho : op.op = .buildSlice T n l) (hm : l.map (fun p => (p.1, a.eval p.2)) = m) (h : (Instr.buildSlice T n m).run P w = .ok v w') : (execOp a.eval op).run P w = .ok (.value v) w' := by
  unfold execOp
  simp only [ho, Sem.run_bind]
  rw [← hm] at h
  have e : (l.map fun x => match x with | (i, x) => (i, a.eval x)) = l.map (fun p => (p.1, a.eval p.2)) := rfl
  rw [e, h]
  rfl
theorem range_mid {w : World} {b : Nat} {T : TypeId} {V cs : List Value} {o : Nat} (h : Bk w b T V.toArray) (he : (V.drop o).take 16 = cs) : w.rangeAt b o cs := by
  intro j v hv
  refine h.at ?_
  rw [← he, List.getElem?_take] at hv
  split at hv
  · rw [List.getElem?_drop] at hv
    exact hv
  · cases hv
theorem cells_of_range {w : World} {b : Nat} {T : TypeId} {V : List Value} (h : Bk w b T V.toArray) : ∀ j v, V[j]? = some v → w.cell? ((⟨b, 0, none⟩ : Addr).add j) = some v := by
  intro j v hv
  rw [Addr.add_mid, Nat.zero_add]
  exact h.at hv
theorem infoByte1 : (Try.prog.info? 5).map (·.size) = some 1 := by kernel_rfl
theorem copy_in (w : World) (g g0 n : Nat) (T T' : TypeId) (ZN VB cs : List Value) (hg : Bk w g T ZN.toArray) (h0 : Bk w g0 T' VB.toArray) (hcs : cs = VB.take n) (hn : cs.length = n) (hn' : n ≤ 16) (hz : n ≤ ZN.length) (h1 : VB.toArray.all (·.oneCell') = true) :
    (Builtin.copy_ #[27, 27] 3 #[.slice (some ⟨g, 0, none⟩) n 16, .slice (some ⟨g0, 0, none⟩) 16 16]).run Try.prog w = .ok (goInt n) (w.setCells g 0 cs) := by
  have h := run_copy_cells (P := Try.prog) w 27 27 3 5 g 0 n 16 ⟨g0, 0, none⟩ 16 16 cs Try.underlying27 infoByte1 (by rw [hn]; simp [Nat.min_def]; omega)
    (fun j v hv => cells_of_range h0 j v (by
      rw [hcs, List.getElem?_take] at hv
      split at hv
      · exact hv
      · cases hv))
    (fun j hj => by
      have := hg.at (i := 0 + j) (v := (ZN[j]'(by omega))) (by rw [Nat.zero_add]; exact List.getElem?_eq_getElem _)
      rw [this]; rfl)
    (fun j _ => hg.z _)
    (fun v hv => by
      have := Array.all_eq_true_iff_forall_mem.1 h1 v (by simpa using List.mem_of_mem_take (hcs ▸ hv))
      exact this)
  rwa [hn] at h
theorem puts_to {A : List Value} {vs P : List Value} (h : vs ++ A.drop vs.length = P) (hl : vs.length ≤ A.length) : puts A.toArray 0 vs = P.toArray := by
  apply Array.toList_inj.1
  rw [puts_list vs 0 A.toArray (by simpa using hl)]
  simpa using h
theorem kp_over2 {w0 w : World} {B b : Nat} {T : TypeId} {V P : List Value} {l : List (Nat × TypeId × List Value)} (h : Kp w0 B ((b, T, V) :: l) w) (hne : ∀ x ∈ l, x.1 ≠ b) (hB : B ≤ b) (vs : List Value) (he : vs ++ V.drop vs.length = P) (hl : vs.length ≤ V.length) : Kp w0 B ((b, T, P) :: l) (w.setCells b 0 vs) := by
  have h2 := Bk.sets vs 0 _ _ h.hd
  rw [puts_to he hl] at h2
  exact kp_cons h2 (h.tl.sets hne hB 0 vs)
set_option maxRecDepth 100000 in
set_option maxHeartbeats 4000000 in
theorem embedKnown_any (w : World) :
    Calls Try.prog 3 #[] w fun e w' => e = .returned (.bool true) ∧ Below w.heap.size w w' := by
  have HA := Lib.hid awake_true
  have CH := Lib.hid host_any
  have CW := Lib.hid well_any
  have CX : Hid (∀ W, Calls Try.prog 12 #[.agg wellN.vals.toArray, .agg (b8 baseA).toArray] W fun e w' => e = .returned (.tuple #[.agg (b8 zero4).toArray, .bool false]) ∧ Below W.heap.size W w') := Lib.hid (fun W => by
    have h := extract_any wellN baseA rfl rfl W
    rwa [knx, knxe] at h)
  have C33 : Hid (∀ W, Calls Try.prog 15 #[.agg (Nt.mk baseA 33).vals.toArray] W fun e w' => e = .returned (.bool false) ∧ Below W.heap.size W w') := Lib.hid (fun W => by
    have h := right_any (Nt.mk baseA 33) rfl W
    rwa [kn33] at h)
  have C32 : Hid (∀ W, Calls Try.prog 15 #[.agg (Nt.mk baseA 32).vals.toArray] W fun e w' => e = .returned (.bool false) ∧ Below W.heap.size W w') := Lib.hid (fun W => by
    have h := right_any (Nt.mk baseA 32) rfl W
    rwa [kn32] at h)
  have C8 : Hid (∀ W, Calls Try.prog 15 #[.agg (Nt.mk e8A 96).vals.toArray] W fun e w' => e = .returned (.bool false) ∧ Below W.heap.size W w') := Lib.hid (fun W => by
    have h := right_any (Nt.mk e8A 96) rfl W
    rwa [kn8] at h)
  have C96 : Hid (∀ W, Calls Try.prog 15 #[.agg (Nt.mk zero6 96).vals.toArray] W fun e w' => e = .returned (.bool true) ∧ Below W.heap.size W w') := Lib.hid (fun W => by
    have h := right_any (Nt.mk zero6 96) rfl W
    rwa [kn96] at h)
  have CE0 : Hid (∀ W, Calls Try.prog 10 #[.agg pre0.vals.toArray, .agg (b8 hostA).toArray] W fun e w' => e = .returned (.tuple #[.agg (b8 want0).toArray, .bool true]) ∧ Below W.heap.size W w') := Lib.hid (fun W => by
    have h := embed_any pre0 hostA rfl rfl W
    rwa [pre0_emb, pre0_right] at h)
  have hq0 : ∀ W, (binOp .neq 23 (.agg (b8 want0).toArray) (.agg (b8 want0).toArray)).run Try.prog W = .ok (.bool false) W := fun W => by rw [neq6 want0 want0 rfl rfl W, beq_self_eq_true]; rfl
  have BW0 := Lib.hid Try.bWant0
  have BP0 := Lib.hid Try.bPre0
  have HM0 : Hid ((bigL.drop 0).take 16 = b8 want0) := Lib.hid rfl
  have HIW0 := Lib.hid (Try.infoSix want0 rfl)
  have HOW0 := Lib.hid (b8_one want0)
  have HLW0 : Hid ((b8 want0).length = 16) := Lib.hid rfl
  have HIN0 := Lib.hid (Try.infoNet (Nt.mk zero6 32) rfl)
  have HON0 := Lib.hid (nvals_one (Nt.mk zero6 32))
  have HLN0 : Hid ((Nt.mk zero6 32).vals.length = 17) := Lib.hid rfl
  have HN160 : Hid ((Nt.mk zero6 32).vals[16]? = some (.int .i64 32)) := Lib.hid rfl
  have HP160 : Hid (pre0.vals[16]? = some (.int .i64 32)) := Lib.hid rfl
  have HIP0 := Lib.hid (Try.infoNet pre0 rfl)
  have HCB0 : Hid (((b8 baseA).take 4).length = 4) := Lib.hid rfl
  have HPP0 : Hid ((b8 baseA).take 4 ++ (Nt.mk zero6 32).vals.drop ((b8 baseA).take 4).length = pre0.vals) := Lib.hid rfl
  have CE1 : Hid (∀ W, Calls Try.prog 10 #[.agg pre1.vals.toArray, .agg (b8 hostA).toArray] W fun e w' => e = .returned (.tuple #[.agg (b8 want1).toArray, .bool true]) ∧ Below W.heap.size W w') := Lib.hid (fun W => by
    have h := embed_any pre1 hostA rfl rfl W
    rwa [pre1_emb, pre1_right] at h)
  have hq1 : ∀ W, (binOp .neq 23 (.agg (b8 want1).toArray) (.agg (b8 want1).toArray)).run Try.prog W = .ok (.bool false) W := fun W => by rw [neq6 want1 want1 rfl rfl W, beq_self_eq_true]; rfl
  have BW1 := Lib.hid Try.bWant1
  have BP1 := Lib.hid Try.bPre1
  have HM1 : Hid ((bigL.drop 16).take 16 = b8 want1) := Lib.hid rfl
  have HIW1 := Lib.hid (Try.infoSix want1 rfl)
  have HOW1 := Lib.hid (b8_one want1)
  have HLW1 : Hid ((b8 want1).length = 16) := Lib.hid rfl
  have HIN1 := Lib.hid (Try.infoNet (Nt.mk zero6 40) rfl)
  have HON1 := Lib.hid (nvals_one (Nt.mk zero6 40))
  have HLN1 : Hid ((Nt.mk zero6 40).vals.length = 17) := Lib.hid rfl
  have HN161 : Hid ((Nt.mk zero6 40).vals[16]? = some (.int .i64 40)) := Lib.hid rfl
  have HP161 : Hid (pre1.vals[16]? = some (.int .i64 40)) := Lib.hid rfl
  have HIP1 := Lib.hid (Try.infoNet pre1 rfl)
  have HCB1 : Hid (((b8 baseA).take 5).length = 5) := Lib.hid rfl
  have HPP1 : Hid ((b8 baseA).take 5 ++ (Nt.mk zero6 40).vals.drop ((b8 baseA).take 5).length = pre1.vals) := Lib.hid rfl
  have CE2 : Hid (∀ W, Calls Try.prog 10 #[.agg pre2.vals.toArray, .agg (b8 hostA).toArray] W fun e w' => e = .returned (.tuple #[.agg (b8 want2).toArray, .bool true]) ∧ Below W.heap.size W w') := Lib.hid (fun W => by
    have h := embed_any pre2 hostA rfl rfl W
    rwa [pre2_emb, pre2_right] at h)
  have hq2 : ∀ W, (binOp .neq 23 (.agg (b8 want2).toArray) (.agg (b8 want2).toArray)).run Try.prog W = .ok (.bool false) W := fun W => by rw [neq6 want2 want2 rfl rfl W, beq_self_eq_true]; rfl
  have BW2 := Lib.hid Try.bWant2
  have BP2 := Lib.hid Try.bPre2
  have HM2 : Hid ((bigL.drop 32).take 16 = b8 want2) := Lib.hid rfl
  have HIW2 := Lib.hid (Try.infoSix want2 rfl)
  have HOW2 := Lib.hid (b8_one want2)
  have HLW2 : Hid ((b8 want2).length = 16) := Lib.hid rfl
  have HIN2 := Lib.hid (Try.infoNet (Nt.mk zero6 48) rfl)
  have HON2 := Lib.hid (nvals_one (Nt.mk zero6 48))
  have HLN2 : Hid ((Nt.mk zero6 48).vals.length = 17) := Lib.hid rfl
  have HN162 : Hid ((Nt.mk zero6 48).vals[16]? = some (.int .i64 48)) := Lib.hid rfl
  have HP162 : Hid (pre2.vals[16]? = some (.int .i64 48)) := Lib.hid rfl
  have HIP2 := Lib.hid (Try.infoNet pre2 rfl)
  have HCB2 : Hid (((b8 baseA).take 6).length = 6) := Lib.hid rfl
  have HPP2 : Hid ((b8 baseA).take 6 ++ (Nt.mk zero6 48).vals.drop ((b8 baseA).take 6).length = pre2.vals) := Lib.hid rfl
  have CE3 : Hid (∀ W, Calls Try.prog 10 #[.agg pre3.vals.toArray, .agg (b8 hostA).toArray] W fun e w' => e = .returned (.tuple #[.agg (b8 want3).toArray, .bool true]) ∧ Below W.heap.size W w') := Lib.hid (fun W => by
    have h := embed_any pre3 hostA rfl rfl W
    rwa [pre3_emb, pre3_right] at h)
  have hq3 : ∀ W, (binOp .neq 23 (.agg (b8 want3).toArray) (.agg (b8 want3).toArray)).run Try.prog W = .ok (.bool false) W := fun W => by rw [neq6 want3 want3 rfl rfl W, beq_self_eq_true]; rfl
  have BW3 := Lib.hid Try.bWant3
  have BP3 := Lib.hid Try.bPre3
  have HM3 : Hid ((bigL.drop 48).take 16 = b8 want3) := Lib.hid rfl
  have HIW3 := Lib.hid (Try.infoSix want3 rfl)
  have HOW3 := Lib.hid (b8_one want3)
  have HLW3 : Hid ((b8 want3).length = 16) := Lib.hid rfl
  have HIN3 := Lib.hid (Try.infoNet (Nt.mk zero6 56) rfl)
  have HON3 := Lib.hid (nvals_one (Nt.mk zero6 56))
  have HLN3 : Hid ((Nt.mk zero6 56).vals.length = 17) := Lib.hid rfl
  have HN163 : Hid ((Nt.mk zero6 56).vals[16]? = some (.int .i64 56)) := Lib.hid rfl
  have HP163 : Hid (pre3.vals[16]? = some (.int .i64 56)) := Lib.hid rfl
  have HIP3 := Lib.hid (Try.infoNet pre3 rfl)
  have HCB3 : Hid (((b8 baseA).take 7).length = 7) := Lib.hid rfl
  have HPP3 : Hid ((b8 baseA).take 7 ++ (Nt.mk zero6 56).vals.drop ((b8 baseA).take 7).length = pre3.vals) := Lib.hid rfl
  have CE4 : Hid (∀ W, Calls Try.prog 10 #[.agg pre4.vals.toArray, .agg (b8 hostA).toArray] W fun e w' => e = .returned (.tuple #[.agg (b8 want4).toArray, .bool true]) ∧ Below W.heap.size W w') := Lib.hid (fun W => by
    have h := embed_any pre4 hostA rfl rfl W
    rwa [pre4_emb, pre4_right] at h)
  have hq4 : ∀ W, (binOp .neq 23 (.agg (b8 want4).toArray) (.agg (b8 want4).toArray)).run Try.prog W = .ok (.bool false) W := fun W => by rw [neq6 want4 want4 rfl rfl W, beq_self_eq_true]; rfl
  have BW4 := Lib.hid Try.bWant4
  have BP4 := Lib.hid Try.bPre4
  have HM4 : Hid ((bigL.drop 64).take 16 = b8 want4) := Lib.hid rfl
  have HIW4 := Lib.hid (Try.infoSix want4 rfl)
  have HOW4 := Lib.hid (b8_one want4)
  have HLW4 : Hid ((b8 want4).length = 16) := Lib.hid rfl
  have HIN4 := Lib.hid (Try.infoNet (Nt.mk zero6 64) rfl)
  have HON4 := Lib.hid (nvals_one (Nt.mk zero6 64))
  have HLN4 : Hid ((Nt.mk zero6 64).vals.length = 17) := Lib.hid rfl
  have HN164 : Hid ((Nt.mk zero6 64).vals[16]? = some (.int .i64 64)) := Lib.hid rfl
  have HP164 : Hid (pre4.vals[16]? = some (.int .i64 64)) := Lib.hid rfl
  have HIP4 := Lib.hid (Try.infoNet pre4 rfl)
  have HCB4 : Hid (((b8 baseA).take 8).length = 8) := Lib.hid rfl
  have HPP4 : Hid ((b8 baseA).take 8 ++ (Nt.mk zero6 64).vals.drop ((b8 baseA).take 8).length = pre4.vals) := Lib.hid rfl
  have BB := Lib.hid Try.bBase
  have BE := Lib.hid Try.bE8
  have B33 := Lib.hid Try.bN33
  have B32 := Lib.hid Try.bN32
  have B8 := Lib.hid Try.bN8
  have B96 := Lib.hid Try.bN96
  have BIG := Lib.hid Try.bBig
  have HIB := Lib.hid (Try.infoSix baseA rfl)
  have HOB := Lib.hid (b8_one baseA)
  have HLB : Hid ((b8 baseA).length = 16) := Lib.hid rfl
  have HIZ4 : Hid ((Try.prog.info? 31).map (·.size) = some (b8 zero4).length) := Lib.hid (Try.infoFour zero4 rfl)
  have HOZ4 := Lib.hid (b8_one zero4)
  have HLZ4 : Hid ((b8 zero4).length = 4) := Lib.hid rfl
  generalize bigL = LB at *
  generalize hCS0 : (b8 baseA).take 4 = CS0 at *
  have HCS0 := Lib.hid hCS0
  clear hCS0
  generalize hCS1 : (b8 baseA).take 5 = CS1 at *
  have HCS1 := Lib.hid hCS1
  clear hCS1
  generalize hCS2 : (b8 baseA).take 6 = CS2 at *
  have HCS2 := Lib.hid hCS2
  clear hCS2
  generalize hCS3 : (b8 baseA).take 7 = CS3 at *
  have HCS3 := Lib.hid hCS3
  clear hCS3
  generalize hCS4 : (b8 baseA).take 8 = CS4 at *
  have HCS4 := Lib.hid hCS4
  clear hCS4
  generalize b8 want0 = WK0 at *
  generalize (Nt.mk zero6 32).vals = ZN0 at *
  generalize pre0.vals = PK0 at *
  generalize b8 want1 = WK1 at *
  generalize (Nt.mk zero6 40).vals = ZN1 at *
  generalize pre1.vals = PK1 at *
  generalize b8 want2 = WK2 at *
  generalize (Nt.mk zero6 48).vals = ZN2 at *
  generalize pre2.vals = PK2 at *
  generalize b8 want3 = WK3 at *
  generalize (Nt.mk zero6 56).vals = ZN3 at *
  generalize pre3.vals = PK3 at *
  generalize b8 want4 = WK4 at *
  generalize (Nt.mk zero6 64).vals = ZN4 at *
  generalize pre4.vals = PK4 at *
  generalize (Nt.mk baseA 33).vals = N33 at *
  generalize (Nt.mk baseA 32).vals = N32 at *
  generalize (Nt.mk e8A 96).vals = N8 at *
  generalize (Nt.mk zero6 96).vals = N96 at *
  generalize b8 baseA = VB at *
  generalize b8 e8A = V8 at *
  generalize b8 hostA = VH at *
  generalize wellN.vals = VW at *
  generalize b8 zero4 = VZ4 at *
  have ht := (bk_new w 23 ([.int .u8 0, .int .u8 0, .int .u8 0, .int .u8 0, .int .u8 0, .int .u8 0, .int .u8 0, .int .u8 0, .int .u8 0, .int .u8 0, .int .u8 0, .int .u8 0, .int .u8 0, .int .u8 0, .int .u8 0, .int .u8 0] : List Value).toArray).there VB.toArray.size (by have := HLB.out; simp; omega)
  go_enter Try.func3, Try.ntmps3
  go_upto_region 2 with (first | (refine Great.wpList_readTo rfl _ rfl (.agg VB.toArray) (run_exec rfl (by rw [List.map_toArray]; rfl) (BB.out _)) ?_) | (refine wpList_store_mid rfl 23 _ _ rfl w.heap.size 0 VB.toArray rfl rfl ht (by simpa using HIB.out) HOB.out ?_))
  have HK1 := Lib.hid ((Kp.start w).put 23 ([.int .u8 0, .int .u8 0, .int .u8 0, .int .u8 0, .int .u8 0, .int .u8 0, .int .u8 0, .int .u8 0, .int .u8 0, .int .u8 0, .int .u8 0, .int .u8 0, .int .u8 0, .int .u8 0, .int .u8 0, .int .u8 0] : List Value).toArray VB (by have := HLB.out; simp; omega))
  clear ht
  generalize (w.alloc (.cells ([.int .u8 0, .int .u8 0, .int .u8 0, .int .u8 0, .int .u8 0, .int .u8 0, .int .u8 0, .int .u8 0, .int .u8 0, .int .u8 0, .int .u8 0, .int .u8 0, .int .u8 0, .int .u8 0, .int .u8 0, .int .u8 0] : List Value).toArray 23)).setCells w.heap.size 0 VB = w1 at *
  have HB0 : Hid (w.heap.size ≤ w.heap.size) := Lib.hid (Nat.le_refl _)
  go_upto_region 3 with (first | (refine Great.wpList_readTo rfl _ rfl (.agg WK0.toArray) (run_exec rfl (by rw [List.map_toArray]; rfl) (BW0.out _)) ?_) | (refine Great.wpList_readTo rfl _ rfl (.agg WK1.toArray) (run_exec rfl (by rw [List.map_toArray]; rfl) (BW1.out _)) ?_) | (refine Great.wpList_readTo rfl _ rfl (.agg WK2.toArray) (run_exec rfl (by rw [List.map_toArray]; rfl) (BW2.out _)) ?_) | (refine Great.wpList_readTo rfl _ rfl (.agg WK3.toArray) (run_exec rfl (by rw [List.map_toArray]; rfl) (BW3.out _)) ?_) | (refine Great.wpList_readTo rfl _ rfl (.agg WK4.toArray) (run_exec rfl (by rw [List.map_toArray]; rfl) (BW4.out _)) ?_) | (refine Great.wpList_allocTo rfl _ rfl (.slice (some ⟨w1.heap.size, 0, none⟩) 5 5) (.cells LB.toArray 23) (run_execS rfl (by rw [List.map_toArray]; rfl) (BIG.out _)) ?_))
  have HK2 := Lib.hid (HK1.out.new 23 LB)
  clear HK1 BW0 BW1 BW2 BW3 BW4 BIG BB
  generalize w1.alloc (.cells LB.toArray 23) = w2 at *
  generalize w1.heap.size = gs at *
  go_wp2_with fail
  go_loopw [3] (fun i wr => ∃ k : Nat, k ≤ 5 ∧ i = .int .i64 k ∧ Kp w w.heap.size [(gs, 23, LB), (w.heap.size, 23, VB)] wr) (fun i _ => 5 - (intOf i).toNat)
  case atStart => exact ⟨0, by omega, rfl, HK2.out⟩
  case round =>
    obtain ⟨k, hk, rfl, hK⟩ := hrel
    have HK3 := Lib.hid hK
    clear hK HK2
    have hk6 : k = 0 ∨ k = 1 ∨ k = 2 ∨ k = 3 ∨ k = 4 ∨ k = 5 := by omega
    clear hk
    rcases hk6 with rfl | rfl | rfl | rfl | rfl | rfl
    · have ht := (bk_new wr 26 ([.int .u8 0, .int .u8 0, .int .u8 0, .int .u8 0, .int .u8 0, .int .u8 0, .int .u8 0, .int .u8 0, .int .u8 0, .int .u8 0, .int .u8 0, .int .u8 0, .int .u8 0, .int .u8 0, .int .u8 0, .int .u8 0, .int .i64 0] : List Value).toArray).there ZN0.toArray.size (by have := HLN0.out; simp; omega)
      go_upto_region 7 with (first | (refine Great.wpList_readTo rfl _ rfl (.agg ZN0.toArray) (run_exec rfl (by rw [List.map_toArray]; rfl) (BP0.out _)) ?_) | (refine wpList_store_mid rfl 26 _ _ rfl wr.heap.size 0 ZN0.toArray rfl rfl ht (by simpa using HIN0.out) HON0.out ?_))
      have HK4 := Lib.hid (HK3.out.put 26 ([.int .u8 0, .int .u8 0, .int .u8 0, .int .u8 0, .int .u8 0, .int .u8 0, .int .u8 0, .int .u8 0, .int .u8 0, .int .u8 0, .int .u8 0, .int .u8 0, .int .u8 0, .int .u8 0, .int .u8 0, .int .u8 0, .int .i64 0] : List Value).toArray ZN0 (by have := HLN0.out; simp; omega))
      have HN4 := Lib.hid HK3.out.ne
      have HB4 := Lib.hid HK3.out.2.2
      clear ht HK3
      generalize (wr.alloc (.cells ([.int .u8 0, .int .u8 0, .int .u8 0, .int .u8 0, .int .u8 0, .int .u8 0, .int .u8 0, .int .u8 0, .int .u8 0, .int .u8 0, .int .u8 0, .int .u8 0, .int .u8 0, .int .u8 0, .int .u8 0, .int .u8 0, .int .i64 0] : List Value).toArray 26)).setCells wr.heap.size 0 ZN0 = w4 at *
      generalize wr.heap.size = g4 at *
      have hcp := copy_in w4.drew g4 w.heap.size 4 26 23 ZN0 VB CS0 HK4.out.drew.hd HK4.out.drew.tl.tl.hd HCS0.out.symm HCB0.out (by omega) (by have := HLN0.out; omega) HOB.out
      have HCP := Lib.hid hcp
      clear hcp
      have HS4 := Lib.hid (HK4.out.drew.hd.at HN160.out)
      have HK5 := Lib.hid (kp_over2 HK4.out.drew HN4.out HB4.out CS0 HPP0.out (by have := HCB0.out; have := HLN0.out; omega))
      have hc5 := HK5.out.hd.at HP160.out
      have HC5 := Lib.hid hc5
      clear hc5 HK4 HN4 HB4
      have k2 : IntKind.i64.wrap (4 : Int) = 4 := by decide
      refine wp_region_noPanic ?_
      refine wp_region_held_drew (S := fun w' => w'.cell? ⟨g4, 16, none⟩ = some (.int .i64 32)) (by kernel_rfl) (HS4.out) (fun hHeld => ?_)
      refine wpAnyH_take (i := 0) (oi := { dst := some 24, op := Op.fieldAddr 26 (Operand.tmp 4) 0, type := 0, pos := "law.go:57", after := #[], guard := none }) (v := ?_) rfl (by kernel_rfl) (by kernel_rfl) (by kernel_rfl) (fun _ _ _ h => h) (Or.inl ⟨by rfl, ?_⟩) (by assumption) ?_
      rotate_left
      · (intro ww hSw; (try dsimp only at hSw); go_simp; try with_reducible rfl)
      (try simp only [Act.put, List.setIfInBounds_toArray, List.set_cons_zero, List.set_cons_succ])
      refine wpAnyH_take (i := 1) (oi := { dst := some 25, op := Op.fieldAddr 26 (Operand.tmp 4) 1, type := 0, pos := "law.go:57", after := #[], guard := none }) (v := ?_) rfl (by kernel_rfl) (by kernel_rfl) (by kernel_rfl) (fun _ _ _ h => h) (Or.inl ⟨by rfl, ?_⟩) (by assumption) ?_
      rotate_left
      · (intro ww hSw; (try dsimp only at hSw); go_simp; try with_reducible rfl)
      (try simp only [Act.put, List.setIfInBounds_toArray, List.set_cons_zero, List.set_cons_succ])
      refine wpAnyH_take (i := 2) (oi := { dst := some 26, op := Op.load 3 (Operand.tmp 25), type := 3, pos := "law.go:57", after := #[{ on := 1, ground := Ground.data }], guard := none }) (v := ?_) rfl (by kernel_rfl) (by kernel_rfl) (by kernel_rfl) (fun _ _ _ h => h) (Or.inl ⟨by rfl, ?_⟩) (by assumption) ?_
      rotate_left
      · (intro ww hSw; (try dsimp only at hSw); go_simp; try with_reducible rfl)
      (try simp only [Act.put, List.setIfInBounds_toArray, List.set_cons_zero, List.set_cons_succ])
      refine wpAnyH_take (i := 3) (oi := { dst := some 27, op := Op.binOp BinOp.quo 3 (Operand.tmp 26) (Operand.const (Value.int IntKind.i64 8)) 3, type := 3, pos := "law.go:57", after := #[{ on := 2, ground := Ground.data }], guard := none }) (v := ?_) rfl (by kernel_rfl) (by kernel_rfl) (by kernel_rfl) (fun _ _ _ h => h) (Or.inl ⟨by rfl, ?_⟩) (by assumption) ?_
      rotate_left
      · (intro ww hSw; (try dsimp only at hSw); go_simp; try with_reducible rfl)
      (try simp only [Act.put, List.setIfInBounds_toArray, List.set_cons_zero, List.set_cons_succ])
      refine wpAnyH_take (i := 4) (oi := { dst := some 28, op := Op.slice 23 (Operand.tmp 24) none (some (Operand.tmp 27)) none, type := 27, pos := "law.go:57", after := #[{ on := 0, ground := Ground.data }, { on := 3, ground := Ground.data }], guard := none }) (v := ?_) rfl (by kernel_rfl) (by kernel_rfl) (by kernel_rfl) (fun _ _ _ h => h) (Or.inl ⟨by rfl, ?_⟩) (by assumption) ?_
      rotate_left
      · (intro ww hSw; (try dsimp only at hSw); go_simp; try with_reducible rfl)
      (try simp only [Act.put, List.setIfInBounds_toArray, List.set_cons_zero, List.set_cons_succ])
      refine wpAnyH_take (i := 5) (oi := { dst := some 29, op := Op.slice 23 (Operand.tmp 1) none none none, type := 27, pos := "law.go:57", after := #[], guard := none }) (v := ?_) rfl (by kernel_rfl) (by kernel_rfl) (by kernel_rfl) (fun _ _ _ h => h) (Or.inl ⟨by rfl, ?_⟩) (by assumption) ?_
      rotate_left
      · (intro ww hSw; (try dsimp only at hSw); go_simp; try with_reducible rfl)
      (try simp only [Act.put, List.setIfInBounds_toArray, List.set_cons_zero, List.set_cons_succ])
      refine wpAnyH_ready (rs := [6]) (by kernel_rfl) (by simp) ?_
      refine AllReadyH.cons (o := { dst := some 30, op := Op.call { callee := Callee.builtin Builtin.copy, args := #[Operand.tmp 28, Operand.tmp 29], argTypes := #[27, 27] }, type := 3, pos := "law.go:57", after := #[{ on := 4, ground := Ground.data }, { on := 5, ground := Ground.data }], guard := none }) rfl (fun K hK => ?_) AllReadyH.nil
      rw [if_pos (by rfl)]
      refine Lib.wp_copy_run _ _ _ 27 27 rfl _ _ rfl rfl HCP.out ?_
      refine hK.out _ _ (HC5.out) (fun hHeld => ?_)
      clear hK K
      (try simp only [Act.put, List.setIfInBounds_toArray, List.set_cons_zero, List.set_cons_succ])
      refine wpAnyH_done (by kernel_rfl) ?_ _
      refine NoPanic.normal ?_
      clear hHeld HS4 HC5 HCP k2
      generalize w4.drew.setCells g4 0 CS0 = w5 at *
      go_upto_region 8 with (fail)
      rename_i KK hKK
      have key : Hid (∀ (g5 : Nat) (w7 : World), Bk w7 g5 23 WK0.toArray → Kp w w.heap.size [(g4, 26, PK0), (gs, 23, LB), (w.heap.size, 23, VB)] w7 → KK {tmps := #[u0, .pointer (some ⟨w.heap.size, 0, none⟩), .slice (some ⟨gs, 0, none⟩) 5 5, .int .i64 0, .pointer (some ⟨g4, 0, none⟩), .pointer (some ⟨g5, 0, none⟩), .bool true, undef, undef, .agg VB.toArray, .agg WK0.toArray, .agg WK1.toArray, .agg WK2.toArray, .agg WK3.toArray, .agg WK4.toArray, .slice (some ⟨gs, 0, none⟩) 5 5, .int .i64 0, .bool true, u18, u19, .int .i64 0, .int .i64 0, .int .i64 32, .agg ZN0.toArray, .pointer (some ⟨g4, 0, none⟩), .pointer (some ⟨g4, 16, none⟩), .int .i64 32, .int .i64 4, .slice (some ⟨g4, 0, none⟩) 4 16, .slice (some ⟨w.heap.size, 0, none⟩) 16 16, .int .i64 4, .tuple #[.agg WK0.toArray, .bool true], .agg PK0.toArray, .agg VH.toArray, .tuple #[.agg WK0.toArray, .bool true], .agg WK0.toArray, .bool true, u37, u38, u39, u40, u41, u42, u43, u44, u45, u46, undef, undef, undef, undef, undef, undef, undef, undef, undef, undef, undef, undef, undef, undef, undef, undef, undef, undef, undef, undef, undef, undef, undef, undef, undef, undef, undef, undef, undef, undef, undef, undef, undef], defers := []} w7) := Lib.hid (by
        intro g5 w7 h2 h3
        refine hKK _ _ ?_
        have HK7 := Lib.hid (kp_cons h2 h3)
        clear h2 h3 hKK
        go_upto_region 9 with (fail)
        have HKR := Lib.hid (show ∀ W : World, Kp w w.heap.size ((g5, 23, WK0) :: [(g4, 26, PK0), (gs, 23, LB), (w.heap.size, 23, VB)]) W → Kp w w.heap.size ((g5, 23, WK0) :: [(g4, 26, PK0), (gs, 23, LB), (w.heap.size, 23, VB)]) W ∧ W.rangeAt g5 0 WK0 ∧ W.rangeAt gs 0 WK0 from fun W k => ⟨k, k.hd.range, range_mid k.tl.tl.hd HM0.out⟩)
        refine wp_region_noPanic ?_
        refine wp_region_held_drew (S := fun w' => Kp w w.heap.size ((g5, 23, WK0) :: [(g4, 26, PK0), (gs, 23, LB), (w.heap.size, 23, VB)]) w' ∧ w'.rangeAt g5 0 WK0 ∧ w'.rangeAt gs 0 WK0) (by kernel_rfl) (HKR.out _ HK7.out.drew) (fun hHeld => ?_)
        refine wpAnyH_take (i := 0) (oi := { dst := some 37, op := Op.move (Operand.tmp 6), type := 4, pos := "law.go:59", after := #[], guard := none }) (v := ?_) rfl (by kernel_rfl) (by kernel_rfl) (by kernel_rfl) (fun _ _ _ h => h) (Or.inl ⟨by rfl, ?_⟩) (by assumption) ?_
        rotate_left
        · (intro ww hSw; (try dsimp only at hSw); go_simp; try with_reducible rfl)
        (try simp only [Act.put, List.setIfInBounds_toArray, List.set_cons_zero, List.set_cons_succ])
        refine wpAnyH_take (i := 1) (oi := { dst := some 38, op := Op.unOp UnOp.not 4 (Operand.tmp 37), type := 4, pos := "law.go:59", after := #[{ on := 0, ground := Ground.data }], guard := none }) (v := ?_) rfl (by kernel_rfl) (by kernel_rfl) (by kernel_rfl) (fun _ _ _ h => h) (Or.inl ⟨by rfl, ?_⟩) (by assumption) ?_
        rotate_left
        · (intro ww hSw; (try dsimp only at hSw); go_simp; try with_reducible rfl)
        (try simp only [Act.put, List.setIfInBounds_toArray, List.set_cons_zero, List.set_cons_succ])
        refine wpAnyH_take (i := 2) (oi := { dst := some 39, op := Op.move (Operand.tmp 38), type := 4, pos := "law.go:59", after := #[{ on := 1, ground := Ground.data }], guard := none }) (v := ?_) rfl (by kernel_rfl) (by kernel_rfl) (by kernel_rfl) (fun _ _ _ h => h) (Or.inl ⟨by rfl, ?_⟩) (by assumption) ?_
        rotate_left
        · (intro ww hSw; (try dsimp only at hSw); go_simp; try with_reducible rfl)
        (try simp only [Act.put, List.setIfInBounds_toArray, List.set_cons_zero, List.set_cons_succ])
        refine wpAnyH_take (i := 3) (oi := { dst := some 40, op := Op.load 23 (Operand.tmp 5), type := 23, pos := "law.go:59", after := #[{ on := 2, ground := Ground.guard }], guard := some (2, false) }) (v := .agg (WK0).toArray) rfl (by kernel_rfl) (by kernel_rfl) (by kernel_rfl) (fun _ _ _ h => h) (yieldsIf_load_mid (by rfl) _ _ rfl (g5) 0 rfl (WK0) _ (fun ww hSw => hSw.2.1) Try.underlying23 rfl HIW0.out) (by assumption) ?_
        (try simp only [Act.put, List.setIfInBounds_toArray, List.set_cons_zero, List.set_cons_succ])
        refine wpAnyH_take (i := 4) (oi := { dst := some 41, op := Op.move (Operand.tmp 2), type := 24, pos := "law.go:59", after := #[{ on := 2, ground := Ground.guard }], guard := some (2, false) }) (v := ?_) rfl (by kernel_rfl) (by kernel_rfl) (by kernel_rfl) (fun _ _ _ h => h) (Or.inl ⟨by rfl, ?_⟩) (by assumption) ?_
        rotate_left
        · (intro ww hSw; (try dsimp only at hSw); go_simp; try with_reducible rfl)
        (try simp only [Act.put, List.setIfInBounds_toArray, List.set_cons_zero, List.set_cons_succ])
        refine wpAnyH_take (i := 5) (oi := { dst := some 42, op := Op.move (Operand.tmp 3), type := 3, pos := "law.go:59", after := #[{ on := 2, ground := Ground.guard }], guard := some (2, false) }) (v := ?_) rfl (by kernel_rfl) (by kernel_rfl) (by kernel_rfl) (fun _ _ _ h => h) (Or.inl ⟨by rfl, ?_⟩) (by assumption) ?_
        rotate_left
        · (intro ww hSw; (try dsimp only at hSw); go_simp; try with_reducible rfl)
        (try simp only [Act.put, List.setIfInBounds_toArray, List.set_cons_zero, List.set_cons_succ])
        refine wpAnyH_take (i := 6) (oi := { dst := some 43, op := Op.indexAddr 24 (Operand.tmp 41) (Operand.tmp 42), type := 0, pos := "law.go:59", after := #[{ on := 4, ground := Ground.data }, { on := 5, ground := Ground.data }, { on := 2, ground := Ground.guard }], guard := some (2, false) }) (v := ?_) rfl (by kernel_rfl) (by kernel_rfl) (by kernel_rfl) (fun _ _ _ h => h) (Or.inl ⟨by rfl, ?_⟩) (by assumption) ?_
        rotate_left
        · (intro ww hSw; (try dsimp only at hSw); go_simp; try with_reducible rfl)
        (try simp only [Act.put, List.setIfInBounds_toArray, List.set_cons_zero, List.set_cons_succ])
        refine wpAnyH_take (i := 7) (oi := { dst := some 44, op := Op.load 23 (Operand.tmp 43), type := 23, pos := "law.go:59", after := #[{ on := 6, ground := Ground.data }, { on := 2, ground := Ground.guard }], guard := some (2, false) }) (v := .agg (WK0).toArray) rfl (by kernel_rfl) (by kernel_rfl) (by kernel_rfl) (fun _ _ _ h => h) (yieldsIf_load_mid (by rfl) _ _ rfl (gs) 0 rfl (WK0) _ (fun ww hSw => hSw.2.2) Try.underlying23 rfl HIW0.out) (by assumption) ?_
        (try simp only [Act.put, List.setIfInBounds_toArray, List.set_cons_zero, List.set_cons_succ])
        refine wpAnyH_take (i := 8) (oi := { dst := some 45, op := Op.binOp BinOp.neq 23 (Operand.tmp 40) (Operand.tmp 44) 23, type := 4, pos := "law.go:59", after := #[{ on := 3, ground := Ground.data }, { on := 7, ground := Ground.data }, { on := 2, ground := Ground.guard }], guard := some (2, false) }) (v := ?_) rfl (by kernel_rfl) (by kernel_rfl) (by kernel_rfl) (fun _ _ _ h => h) (Or.inl ⟨by rfl, ?_⟩) (by assumption) ?_
        rotate_left
        · (intro ww hSw; (try dsimp only at hSw); go_simp; try with_reducible rfl)
        (try simp only [Act.put, List.setIfInBounds_toArray, List.set_cons_zero, List.set_cons_succ])
        refine wpAnyH_take (i := 9) (oi := { dst := some 46, op := Op.pick (Operand.tmp 39) (Operand.const (Value.bool true)) (Operand.tmp 45), type := 4, pos := "law.go:59", after := #[{ on := 2, ground := Ground.data }, { on := 8, ground := Ground.data }], guard := none }) (v := ?_) rfl (by kernel_rfl) (by kernel_rfl) (by kernel_rfl) (fun _ _ _ h => h) (Or.inl ⟨by rfl, ?_⟩) (by assumption) ?_
        rotate_left
        · (intro ww hSw; (try dsimp only at hSw); go_simp; try with_reducible rfl)
        (try simp only [Act.put, List.setIfInBounds_toArray, List.set_cons_zero, List.set_cons_succ])
        refine wpAnyH_done (by kernel_rfl) ?_ _
        refine NoPanic.normal ?_
        have HK9 := Lib.hid (And.left hHeld)
        clear hHeld HKR HK7
        go_wp2_with fail
        go_roundw
        case rel => exact ⟨1, by omega, by first | rfl | go_num, HK9.out.tl.tl⟩
        case measure => simp [intOf])
      refine wp_region_noPanic ?_
      refine wp_region_held_drew (S := fun w' => Kp w w.heap.size [(g4, 26, PK0), (gs, 23, LB), (w.heap.size, 23, VB)] w' ∧ w'.rangeAt g4 0 PK0) (by kernel_rfl) (kr1 HK5.out.drew) (fun hHeld => ?_)
      refine wpAnyH_take (i := 0) (oi := { dst := some 32, op := Op.load 26 (Operand.tmp 4), type := 26, pos := "law.go:58", after := #[], guard := none }) (v := .agg (PK0).toArray) rfl (by kernel_rfl) (by kernel_rfl) (by kernel_rfl) (fun _ _ _ h => h) (yieldsIf_load_mid (by rfl) _ _ rfl (g4) 0 rfl (PK0) _ (fun ww hSw => hSw.2) Try.underlying26 rfl HIP0.out) (by assumption) ?_
      (try simp only [Act.put, List.setIfInBounds_toArray, List.set_cons_zero, List.set_cons_succ])
      refine wpAnyH_ready (rs := [1, 6]) (by kernel_rfl) (by simp) ?_
      refine AllReadyH.cons (o := { dst := some 33, op := Op.call { callee := Callee.value (Operand.func 11), args := #[], argTypes := #[] }, type := 31, pos := "law.go:58", after := #[], guard := none }) rfl (fun K hK => ?_) (AllReadyH.cons (o := { dst := some 5, op := Op.alloc 23, type := 0, pos := "law.go:58", after := #[], guard := none }) rfl (fun K hK => ?_) AllReadyH.nil)
      · go_simp
        ((with_reducible refine (CH.out _).mono ?_); rintro e wA ⟨rfl, hb9⟩)
        refine hK.out _ _ (kr1 ((And.left hHeld).below hb9 (Nat.le_refl _))) (fun hHeld => ?_)
        clear hK K
        (try simp only [Act.put, List.setIfInBounds_toArray, List.set_cons_zero, List.set_cons_succ])
        refine wpAnyH_ready (rs := [2, 6]) (by kernel_rfl) (by simp) ?_
        refine AllReadyH.cons (o := { dst := some 34, op := Op.call { callee := Callee.value (Operand.func 10), args := #[Operand.tmp 32, Operand.tmp 33], argTypes := #[26, 31] }, type := 28, pos := "law.go:58", after := #[{ on := 0, ground := Ground.data }, { on := 1, ground := Ground.data }, { on := 1, ground := Ground.chain }], guard := none }) rfl (fun K hK => ?_) (AllReadyH.cons (o := { dst := some 5, op := Op.alloc 23, type := 0, pos := "law.go:58", after := #[], guard := none }) rfl (fun K hK => ?_) AllReadyH.nil)
        · go_simp
          ((with_reducible refine (CE0.out _).mono ?_); rintro e wB ⟨rfl, hb9⟩)
          refine hK.out _ _ (kr1 ((And.left hHeld).below hb9 (Nat.le_refl _))) (fun hHeld => ?_)
          clear hK K
          (try simp only [Act.put, List.setIfInBounds_toArray, List.set_cons_zero, List.set_cons_succ])
          refine wpAnyH_take (i := 3) (oi := { dst := some 31, op := Op.move (Operand.tmp 34), type := 28, pos := "law.go:58", after := #[{ on := 2, ground := Ground.data }], guard := none }) (v := ?_) rfl (by kernel_rfl) (by kernel_rfl) (by kernel_rfl) (fun _ _ _ h => h) (Or.inl ⟨by rfl, ?_⟩) (by assumption) ?_
          rotate_left
          · (intro ww hSw; (try dsimp only at hSw); go_simp; try with_reducible rfl)
          (try simp only [Act.put, List.setIfInBounds_toArray, List.set_cons_zero, List.set_cons_succ])
          refine wpAnyH_take (i := 4) (oi := { dst := some 35, op := Op.extract (Operand.tmp 31) 0, type := 23, pos := "law.go:58", after := #[{ on := 3, ground := Ground.data }], guard := none }) (v := ?_) rfl (by kernel_rfl) (by kernel_rfl) (by kernel_rfl) (fun _ _ _ h => h) (Or.inl ⟨by rfl, ?_⟩) (by assumption) ?_
          rotate_left
          · (intro ww hSw; (try dsimp only at hSw); go_simp; try with_reducible rfl)
          (try simp only [Act.put, List.setIfInBounds_toArray, List.set_cons_zero, List.set_cons_succ])
          refine wpAnyH_take (i := 5) (oi := { dst := some 36, op := Op.extract (Operand.tmp 31) 1, type := 4, pos := "law.go:58", after := #[{ on := 3, ground := Ground.data }, { on := 7, ground := Ground.gcOnly Departure.lateStores }], guard := none }) (v := ?_) rfl (by kernel_rfl) (by kernel_rfl) (by kernel_rfl) (fun _ _ _ h => h) (Or.inl ⟨by rfl, ?_⟩) (by assumption) ?_
          rotate_left
          · (intro ww hSw; (try dsimp only at hSw); go_simp; try with_reducible rfl)
          (try simp only [Act.put, List.setIfInBounds_toArray, List.set_cons_zero, List.set_cons_succ])
          refine wpAnyH_ready (rs := [6]) (by kernel_rfl) (by simp) ?_
          refine AllReadyH.cons (o := { dst := some 5, op := Op.alloc 23, type := 0, pos := "law.go:58", after := #[], guard := none }) rfl (fun K hK => ?_) AllReadyH.nil
          have hnw := (And.left hHeld).2.2
          have hne := fun x hx => (And.left hHeld).ne x hx
          go_simp
          refine hK.out _ _ (kr1 ((And.left hHeld).alloc _)) (fun hHeld => ?_)
          clear hK K
          (try simp only [Act.put, List.setIfInBounds_toArray, List.set_cons_zero, List.set_cons_succ])
          have hA := bk_new (wB) 23 ([.int .u8 0, .int .u8 0, .int .u8 0, .int .u8 0, .int .u8 0, .int .u8 0, .int .u8 0, .int .u8 0, .int .u8 0, .int .u8 0, .int .u8 0, .int .u8 0, .int .u8 0, .int .u8 0, .int .u8 0, .int .u8 0] : List Value).toArray
          refine wpAnyH_ready (rs := [7]) (by kernel_rfl) (by simp) ?_
          refine AllReadyH.cons (o := { dst := none, op := Op.store 23 (Operand.tmp 5) (Operand.tmp 35), type := 0, pos := "law.go:58", after := #[{ on := 6, ground := Ground.data }, { on := 4, ground := Ground.data }, { on := 2, ground := Ground.chain }, { on := 0, ground := Ground.phase }, { on := 1, ground := Ground.phase }, { on := 2, ground := Ground.phase }, { on := 3, ground := Ground.phase }, { on := 4, ground := Ground.phase }, { on := 5, ground := Ground.textOnly Departure.lateStores }, { on := 6, ground := Ground.phase }], guard := none }) rfl (fun K hK => ?_) AllReadyH.nil
          rw [if_pos (by rfl)]
          have hS := Bk.sets WK0 0 _ _ hA
          rw [puts_whole ([.int .u8 0, .int .u8 0, .int .u8 0, .int .u8 0, .int .u8 0, .int .u8 0, .int .u8 0, .int .u8 0, .int .u8 0, .int .u8 0, .int .u8 0, .int .u8 0, .int .u8 0, .int .u8 0, .int .u8 0, .int .u8 0] : List Value).toArray WK0 (by have := HLW0.out; simp; omega)] at hS
          refine wp_store_mid 23 _ _ rfl (wB).heap.size 0 WK0.toArray rfl rfl (hA.there _ (by have := HLW0.out; simp; omega)) (by simpa using HIW0.out) HOW0.out ?_
          refine hK.out _ _ (kr1 ((And.left hHeld).sets hne hnw 0 WK0)) (fun hHeld => ?_)
          clear hK K
          (try simp only [Act.put])
          refine wpAnyH_take (i := 8) (oi := { dst := some 6, op := Op.assign (Operand.tmp 36), type := 4, pos := "law.go:58", after := #[{ on := 5, ground := Ground.data }, { on := 7, ground := Ground.chain }, { on := 0, ground := Ground.phase }, { on := 1, ground := Ground.phase }, { on := 2, ground := Ground.phase }, { on := 3, ground := Ground.phase }, { on := 4, ground := Ground.phase }, { on := 5, ground := Ground.phase }, { on := 6, ground := Ground.phase }, { on := 7, ground := Ground.phase }], guard := none }) (v := ?_) rfl (by kernel_rfl) (by kernel_rfl) (by kernel_rfl) (fun _ _ _ h => h) (Or.inl ⟨by rfl, ?_⟩) (by assumption) ?_
          rotate_left
          · (intro ww hSw; (try dsimp only at hSw); go_simp; try with_reducible rfl)
          (try simp only [Act.put, List.setIfInBounds_toArray, List.set_cons_zero, List.set_cons_succ])
          refine wpAnyH_done (by kernel_rfl) ?_ _
          refine NoPanic.normal ?_
          exact key.out _ _ hS (And.left hHeld)
        · have hnw := (And.left hHeld).2.2
          have hne := fun x hx => (And.left hHeld).ne x hx
          go_simp
          refine hK.out _ _ (kr1 ((And.left hHeld).alloc _)) (fun hHeld => ?_)
          clear hK K
          (try simp only [Act.put, List.setIfInBounds_toArray, List.set_cons_zero, List.set_cons_succ])
          have hA := bk_new (wA) 23 ([.int .u8 0, .int .u8 0, .int .u8 0, .int .u8 0, .int .u8 0, .int .u8 0, .int .u8 0, .int .u8 0, .int .u8 0, .int .u8 0, .int .u8 0, .int .u8 0, .int .u8 0, .int .u8 0, .int .u8 0, .int .u8 0] : List Value).toArray
          refine wpAnyH_ready (rs := [2]) (by kernel_rfl) (by simp) ?_
          refine AllReadyH.cons (o := { dst := some 34, op := Op.call { callee := Callee.value (Operand.func 10), args := #[Operand.tmp 32, Operand.tmp 33], argTypes := #[26, 31] }, type := 28, pos := "law.go:58", after := #[{ on := 0, ground := Ground.data }, { on := 1, ground := Ground.data }, { on := 1, ground := Ground.chain }], guard := none }) rfl (fun K hK => ?_) AllReadyH.nil
          go_simp
          ((with_reducible refine (CE0.out _).mono ?_); rintro e wB ⟨rfl, hb9⟩)
          refine hK.out _ _ (kr1 ((And.left hHeld).below hb9 (Nat.le_refl _))) (fun hHeld => ?_)
          clear hK K
          (try simp only [Act.put, List.setIfInBounds_toArray, List.set_cons_zero, List.set_cons_succ])
          have hA := hA.below hb9 hA.lt
          refine wpAnyH_take (i := 3) (oi := { dst := some 31, op := Op.move (Operand.tmp 34), type := 28, pos := "law.go:58", after := #[{ on := 2, ground := Ground.data }], guard := none }) (v := ?_) rfl (by kernel_rfl) (by kernel_rfl) (by kernel_rfl) (fun _ _ _ h => h) (Or.inl ⟨by rfl, ?_⟩) (by assumption) ?_
          rotate_left
          · (intro ww hSw; (try dsimp only at hSw); go_simp; try with_reducible rfl)
          (try simp only [Act.put, List.setIfInBounds_toArray, List.set_cons_zero, List.set_cons_succ])
          refine wpAnyH_take (i := 4) (oi := { dst := some 35, op := Op.extract (Operand.tmp 31) 0, type := 23, pos := "law.go:58", after := #[{ on := 3, ground := Ground.data }], guard := none }) (v := ?_) rfl (by kernel_rfl) (by kernel_rfl) (by kernel_rfl) (fun _ _ _ h => h) (Or.inl ⟨by rfl, ?_⟩) (by assumption) ?_
          rotate_left
          · (intro ww hSw; (try dsimp only at hSw); go_simp; try with_reducible rfl)
          (try simp only [Act.put, List.setIfInBounds_toArray, List.set_cons_zero, List.set_cons_succ])
          refine wpAnyH_take (i := 5) (oi := { dst := some 36, op := Op.extract (Operand.tmp 31) 1, type := 4, pos := "law.go:58", after := #[{ on := 3, ground := Ground.data }, { on := 7, ground := Ground.gcOnly Departure.lateStores }], guard := none }) (v := ?_) rfl (by kernel_rfl) (by kernel_rfl) (by kernel_rfl) (fun _ _ _ h => h) (Or.inl ⟨by rfl, ?_⟩) (by assumption) ?_
          rotate_left
          · (intro ww hSw; (try dsimp only at hSw); go_simp; try with_reducible rfl)
          (try simp only [Act.put, List.setIfInBounds_toArray, List.set_cons_zero, List.set_cons_succ])
          refine wpAnyH_ready (rs := [7]) (by kernel_rfl) (by simp) ?_
          refine AllReadyH.cons (o := { dst := none, op := Op.store 23 (Operand.tmp 5) (Operand.tmp 35), type := 0, pos := "law.go:58", after := #[{ on := 6, ground := Ground.data }, { on := 4, ground := Ground.data }, { on := 2, ground := Ground.chain }, { on := 0, ground := Ground.phase }, { on := 1, ground := Ground.phase }, { on := 2, ground := Ground.phase }, { on := 3, ground := Ground.phase }, { on := 4, ground := Ground.phase }, { on := 5, ground := Ground.textOnly Departure.lateStores }, { on := 6, ground := Ground.phase }], guard := none }) rfl (fun K hK => ?_) AllReadyH.nil
          rw [if_pos (by rfl)]
          have hS := Bk.sets WK0 0 _ _ hA
          rw [puts_whole ([.int .u8 0, .int .u8 0, .int .u8 0, .int .u8 0, .int .u8 0, .int .u8 0, .int .u8 0, .int .u8 0, .int .u8 0, .int .u8 0, .int .u8 0, .int .u8 0, .int .u8 0, .int .u8 0, .int .u8 0, .int .u8 0] : List Value).toArray WK0 (by have := HLW0.out; simp; omega)] at hS
          refine wp_store_mid 23 _ _ rfl (wA).heap.size 0 WK0.toArray rfl rfl (hA.there _ (by have := HLW0.out; simp; omega)) (by simpa using HIW0.out) HOW0.out ?_
          refine hK.out _ _ (kr1 ((And.left hHeld).sets hne hnw 0 WK0)) (fun hHeld => ?_)
          clear hK K
          (try simp only [Act.put])
          refine wpAnyH_take (i := 8) (oi := { dst := some 6, op := Op.assign (Operand.tmp 36), type := 4, pos := "law.go:58", after := #[{ on := 5, ground := Ground.data }, { on := 7, ground := Ground.chain }, { on := 0, ground := Ground.phase }, { on := 1, ground := Ground.phase }, { on := 2, ground := Ground.phase }, { on := 3, ground := Ground.phase }, { on := 4, ground := Ground.phase }, { on := 5, ground := Ground.phase }, { on := 6, ground := Ground.phase }, { on := 7, ground := Ground.phase }], guard := none }) (v := ?_) rfl (by kernel_rfl) (by kernel_rfl) (by kernel_rfl) (fun _ _ _ h => h) (Or.inl ⟨by rfl, ?_⟩) (by assumption) ?_
          rotate_left
          · (intro ww hSw; (try dsimp only at hSw); go_simp; try with_reducible rfl)
          (try simp only [Act.put, List.setIfInBounds_toArray, List.set_cons_zero, List.set_cons_succ])
          refine wpAnyH_done (by kernel_rfl) ?_ _
          refine NoPanic.normal ?_
          exact key.out _ _ hS (And.left hHeld)
      · have hnw := (And.left hHeld).2.2
        have hne := fun x hx => (And.left hHeld).ne x hx
        go_simp
        refine hK.out _ _ (kr1 ((And.left hHeld).alloc _)) (fun hHeld => ?_)
        clear hK K
        (try simp only [Act.put, List.setIfInBounds_toArray, List.set_cons_zero, List.set_cons_succ])
        have hA := bk_new (w5.drew) 23 ([.int .u8 0, .int .u8 0, .int .u8 0, .int .u8 0, .int .u8 0, .int .u8 0, .int .u8 0, .int .u8 0, .int .u8 0, .int .u8 0, .int .u8 0, .int .u8 0, .int .u8 0, .int .u8 0, .int .u8 0, .int .u8 0] : List Value).toArray
        refine wpAnyH_ready (rs := [1]) (by kernel_rfl) (by simp) ?_
        refine AllReadyH.cons (o := { dst := some 33, op := Op.call { callee := Callee.value (Operand.func 11), args := #[], argTypes := #[] }, type := 31, pos := "law.go:58", after := #[], guard := none }) rfl (fun K hK => ?_) AllReadyH.nil
        go_simp
        ((with_reducible refine (CH.out _).mono ?_); rintro e wA ⟨rfl, hb9⟩)
        refine hK.out _ _ (kr1 ((And.left hHeld).below hb9 (Nat.le_refl _))) (fun hHeld => ?_)
        clear hK K
        (try simp only [Act.put, List.setIfInBounds_toArray, List.set_cons_zero, List.set_cons_succ])
        have hA := hA.below hb9 hA.lt
        refine wpAnyH_ready (rs := [2]) (by kernel_rfl) (by simp) ?_
        refine AllReadyH.cons (o := { dst := some 34, op := Op.call { callee := Callee.value (Operand.func 10), args := #[Operand.tmp 32, Operand.tmp 33], argTypes := #[26, 31] }, type := 28, pos := "law.go:58", after := #[{ on := 0, ground := Ground.data }, { on := 1, ground := Ground.data }, { on := 1, ground := Ground.chain }], guard := none }) rfl (fun K hK => ?_) AllReadyH.nil
        go_simp
        ((with_reducible refine (CE0.out _).mono ?_); rintro e wB ⟨rfl, hb9⟩)
        refine hK.out _ _ (kr1 ((And.left hHeld).below hb9 (Nat.le_refl _))) (fun hHeld => ?_)
        clear hK K
        (try simp only [Act.put, List.setIfInBounds_toArray, List.set_cons_zero, List.set_cons_succ])
        have hA := hA.below hb9 hA.lt
        refine wpAnyH_take (i := 3) (oi := { dst := some 31, op := Op.move (Operand.tmp 34), type := 28, pos := "law.go:58", after := #[{ on := 2, ground := Ground.data }], guard := none }) (v := ?_) rfl (by kernel_rfl) (by kernel_rfl) (by kernel_rfl) (fun _ _ _ h => h) (Or.inl ⟨by rfl, ?_⟩) (by assumption) ?_
        rotate_left
        · (intro ww hSw; (try dsimp only at hSw); go_simp; try with_reducible rfl)
        (try simp only [Act.put, List.setIfInBounds_toArray, List.set_cons_zero, List.set_cons_succ])
        refine wpAnyH_take (i := 4) (oi := { dst := some 35, op := Op.extract (Operand.tmp 31) 0, type := 23, pos := "law.go:58", after := #[{ on := 3, ground := Ground.data }], guard := none }) (v := ?_) rfl (by kernel_rfl) (by kernel_rfl) (by kernel_rfl) (fun _ _ _ h => h) (Or.inl ⟨by rfl, ?_⟩) (by assumption) ?_
        rotate_left
        · (intro ww hSw; (try dsimp only at hSw); go_simp; try with_reducible rfl)
        (try simp only [Act.put, List.setIfInBounds_toArray, List.set_cons_zero, List.set_cons_succ])
        refine wpAnyH_take (i := 5) (oi := { dst := some 36, op := Op.extract (Operand.tmp 31) 1, type := 4, pos := "law.go:58", after := #[{ on := 3, ground := Ground.data }, { on := 7, ground := Ground.gcOnly Departure.lateStores }], guard := none }) (v := ?_) rfl (by kernel_rfl) (by kernel_rfl) (by kernel_rfl) (fun _ _ _ h => h) (Or.inl ⟨by rfl, ?_⟩) (by assumption) ?_
        rotate_left
        · (intro ww hSw; (try dsimp only at hSw); go_simp; try with_reducible rfl)
        (try simp only [Act.put, List.setIfInBounds_toArray, List.set_cons_zero, List.set_cons_succ])
        refine wpAnyH_ready (rs := [7]) (by kernel_rfl) (by simp) ?_
        refine AllReadyH.cons (o := { dst := none, op := Op.store 23 (Operand.tmp 5) (Operand.tmp 35), type := 0, pos := "law.go:58", after := #[{ on := 6, ground := Ground.data }, { on := 4, ground := Ground.data }, { on := 2, ground := Ground.chain }, { on := 0, ground := Ground.phase }, { on := 1, ground := Ground.phase }, { on := 2, ground := Ground.phase }, { on := 3, ground := Ground.phase }, { on := 4, ground := Ground.phase }, { on := 5, ground := Ground.textOnly Departure.lateStores }, { on := 6, ground := Ground.phase }], guard := none }) rfl (fun K hK => ?_) AllReadyH.nil
        rw [if_pos (by rfl)]
        have hS := Bk.sets WK0 0 _ _ hA
        rw [puts_whole ([.int .u8 0, .int .u8 0, .int .u8 0, .int .u8 0, .int .u8 0, .int .u8 0, .int .u8 0, .int .u8 0, .int .u8 0, .int .u8 0, .int .u8 0, .int .u8 0, .int .u8 0, .int .u8 0, .int .u8 0, .int .u8 0] : List Value).toArray WK0 (by have := HLW0.out; simp; omega)] at hS
        refine wp_store_mid 23 _ _ rfl (w5.drew).heap.size 0 WK0.toArray rfl rfl (hA.there _ (by have := HLW0.out; simp; omega)) (by simpa using HIW0.out) HOW0.out ?_
        refine hK.out _ _ (kr1 ((And.left hHeld).sets hne hnw 0 WK0)) (fun hHeld => ?_)
        clear hK K
        (try simp only [Act.put])
        refine wpAnyH_take (i := 8) (oi := { dst := some 6, op := Op.assign (Operand.tmp 36), type := 4, pos := "law.go:58", after := #[{ on := 5, ground := Ground.data }, { on := 7, ground := Ground.chain }, { on := 0, ground := Ground.phase }, { on := 1, ground := Ground.phase }, { on := 2, ground := Ground.phase }, { on := 3, ground := Ground.phase }, { on := 4, ground := Ground.phase }, { on := 5, ground := Ground.phase }, { on := 6, ground := Ground.phase }, { on := 7, ground := Ground.phase }], guard := none }) (v := ?_) rfl (by kernel_rfl) (by kernel_rfl) (by kernel_rfl) (fun _ _ _ h => h) (Or.inl ⟨by rfl, ?_⟩) (by assumption) ?_
        rotate_left
        · (intro ww hSw; (try dsimp only at hSw); go_simp; try with_reducible rfl)
        (try simp only [Act.put, List.setIfInBounds_toArray, List.set_cons_zero, List.set_cons_succ])
        refine wpAnyH_done (by kernel_rfl) ?_ _
        refine NoPanic.normal ?_
        exact key.out _ _ hS (And.left hHeld)
    · have ht := (bk_new wr 26 ([.int .u8 0, .int .u8 0, .int .u8 0, .int .u8 0, .int .u8 0, .int .u8 0, .int .u8 0, .int .u8 0, .int .u8 0, .int .u8 0, .int .u8 0, .int .u8 0, .int .u8 0, .int .u8 0, .int .u8 0, .int .u8 0, .int .i64 0] : List Value).toArray).there ZN1.toArray.size (by have := HLN1.out; simp; omega)
      go_upto_region 7 with (first | (refine Great.wpList_readTo rfl _ rfl (.agg ZN1.toArray) (run_exec rfl (by rw [List.map_toArray]; rfl) (BP1.out _)) ?_) | (refine wpList_store_mid rfl 26 _ _ rfl wr.heap.size 0 ZN1.toArray rfl rfl ht (by simpa using HIN1.out) HON1.out ?_))
      have HK4 := Lib.hid (HK3.out.put 26 ([.int .u8 0, .int .u8 0, .int .u8 0, .int .u8 0, .int .u8 0, .int .u8 0, .int .u8 0, .int .u8 0, .int .u8 0, .int .u8 0, .int .u8 0, .int .u8 0, .int .u8 0, .int .u8 0, .int .u8 0, .int .u8 0, .int .i64 0] : List Value).toArray ZN1 (by have := HLN1.out; simp; omega))
      have HN4 := Lib.hid HK3.out.ne
      have HB4 := Lib.hid HK3.out.2.2
      clear ht HK3
      generalize (wr.alloc (.cells ([.int .u8 0, .int .u8 0, .int .u8 0, .int .u8 0, .int .u8 0, .int .u8 0, .int .u8 0, .int .u8 0, .int .u8 0, .int .u8 0, .int .u8 0, .int .u8 0, .int .u8 0, .int .u8 0, .int .u8 0, .int .u8 0, .int .i64 0] : List Value).toArray 26)).setCells wr.heap.size 0 ZN1 = w4 at *
      generalize wr.heap.size = g4 at *
      have hcp := copy_in w4.drew g4 w.heap.size 5 26 23 ZN1 VB CS1 HK4.out.drew.hd HK4.out.drew.tl.tl.hd HCS1.out.symm HCB1.out (by omega) (by have := HLN1.out; omega) HOB.out
      have HCP := Lib.hid hcp
      clear hcp
      have HS4 := Lib.hid (HK4.out.drew.hd.at HN161.out)
      have HK5 := Lib.hid (kp_over2 HK4.out.drew HN4.out HB4.out CS1 HPP1.out (by have := HCB1.out; have := HLN1.out; omega))
      have hc5 := HK5.out.hd.at HP161.out
      have HC5 := Lib.hid hc5
      clear hc5 HK4 HN4 HB4
      have k2 : IntKind.i64.wrap (5 : Int) = 5 := by decide
      refine wp_region_noPanic ?_
      refine wp_region_held_drew (S := fun w' => w'.cell? ⟨g4, 16, none⟩ = some (.int .i64 40)) (by kernel_rfl) (HS4.out) (fun hHeld => ?_)
      refine wpAnyH_take (i := 0) (oi := { dst := some 24, op := Op.fieldAddr 26 (Operand.tmp 4) 0, type := 0, pos := "law.go:57", after := #[], guard := none }) (v := ?_) rfl (by kernel_rfl) (by kernel_rfl) (by kernel_rfl) (fun _ _ _ h => h) (Or.inl ⟨by rfl, ?_⟩) (by assumption) ?_
      rotate_left
      · (intro ww hSw; (try dsimp only at hSw); go_simp; try with_reducible rfl)
      (try simp only [Act.put, List.setIfInBounds_toArray, List.set_cons_zero, List.set_cons_succ])
      refine wpAnyH_take (i := 1) (oi := { dst := some 25, op := Op.fieldAddr 26 (Operand.tmp 4) 1, type := 0, pos := "law.go:57", after := #[], guard := none }) (v := ?_) rfl (by kernel_rfl) (by kernel_rfl) (by kernel_rfl) (fun _ _ _ h => h) (Or.inl ⟨by rfl, ?_⟩) (by assumption) ?_
      rotate_left
      · (intro ww hSw; (try dsimp only at hSw); go_simp; try with_reducible rfl)
      (try simp only [Act.put, List.setIfInBounds_toArray, List.set_cons_zero, List.set_cons_succ])
      refine wpAnyH_take (i := 2) (oi := { dst := some 26, op := Op.load 3 (Operand.tmp 25), type := 3, pos := "law.go:57", after := #[{ on := 1, ground := Ground.data }], guard := none }) (v := ?_) rfl (by kernel_rfl) (by kernel_rfl) (by kernel_rfl) (fun _ _ _ h => h) (Or.inl ⟨by rfl, ?_⟩) (by assumption) ?_
      rotate_left
      · (intro ww hSw; (try dsimp only at hSw); go_simp; try with_reducible rfl)
      (try simp only [Act.put, List.setIfInBounds_toArray, List.set_cons_zero, List.set_cons_succ])
      refine wpAnyH_take (i := 3) (oi := { dst := some 27, op := Op.binOp BinOp.quo 3 (Operand.tmp 26) (Operand.const (Value.int IntKind.i64 8)) 3, type := 3, pos := "law.go:57", after := #[{ on := 2, ground := Ground.data }], guard := none }) (v := ?_) rfl (by kernel_rfl) (by kernel_rfl) (by kernel_rfl) (fun _ _ _ h => h) (Or.inl ⟨by rfl, ?_⟩) (by assumption) ?_
      rotate_left
      · (intro ww hSw; (try dsimp only at hSw); go_simp; try with_reducible rfl)
      (try simp only [Act.put, List.setIfInBounds_toArray, List.set_cons_zero, List.set_cons_succ])
      refine wpAnyH_take (i := 4) (oi := { dst := some 28, op := Op.slice 23 (Operand.tmp 24) none (some (Operand.tmp 27)) none, type := 27, pos := "law.go:57", after := #[{ on := 0, ground := Ground.data }, { on := 3, ground := Ground.data }], guard := none }) (v := ?_) rfl (by kernel_rfl) (by kernel_rfl) (by kernel_rfl) (fun _ _ _ h => h) (Or.inl ⟨by rfl, ?_⟩) (by assumption) ?_
      rotate_left
      · (intro ww hSw; (try dsimp only at hSw); go_simp; try with_reducible rfl)
      (try simp only [Act.put, List.setIfInBounds_toArray, List.set_cons_zero, List.set_cons_succ])
      refine wpAnyH_take (i := 5) (oi := { dst := some 29, op := Op.slice 23 (Operand.tmp 1) none none none, type := 27, pos := "law.go:57", after := #[], guard := none }) (v := ?_) rfl (by kernel_rfl) (by kernel_rfl) (by kernel_rfl) (fun _ _ _ h => h) (Or.inl ⟨by rfl, ?_⟩) (by assumption) ?_
      rotate_left
      · (intro ww hSw; (try dsimp only at hSw); go_simp; try with_reducible rfl)
      (try simp only [Act.put, List.setIfInBounds_toArray, List.set_cons_zero, List.set_cons_succ])
      refine wpAnyH_ready (rs := [6]) (by kernel_rfl) (by simp) ?_
      refine AllReadyH.cons (o := { dst := some 30, op := Op.call { callee := Callee.builtin Builtin.copy, args := #[Operand.tmp 28, Operand.tmp 29], argTypes := #[27, 27] }, type := 3, pos := "law.go:57", after := #[{ on := 4, ground := Ground.data }, { on := 5, ground := Ground.data }], guard := none }) rfl (fun K hK => ?_) AllReadyH.nil
      rw [if_pos (by rfl)]
      refine Lib.wp_copy_run _ _ _ 27 27 rfl _ _ rfl rfl HCP.out ?_
      refine hK.out _ _ (HC5.out) (fun hHeld => ?_)
      clear hK K
      (try simp only [Act.put, List.setIfInBounds_toArray, List.set_cons_zero, List.set_cons_succ])
      refine wpAnyH_done (by kernel_rfl) ?_ _
      refine NoPanic.normal ?_
      clear hHeld HS4 HC5 HCP k2
      generalize w4.drew.setCells g4 0 CS1 = w5 at *
      go_upto_region 8 with (fail)
      rename_i KK hKK
      have key : Hid (∀ (g5 : Nat) (w7 : World), Bk w7 g5 23 WK1.toArray → Kp w w.heap.size [(g4, 26, PK1), (gs, 23, LB), (w.heap.size, 23, VB)] w7 → KK {tmps := #[u0, .pointer (some ⟨w.heap.size, 0, none⟩), .slice (some ⟨gs, 0, none⟩) 5 5, .int .i64 1, .pointer (some ⟨g4, 0, none⟩), .pointer (some ⟨g5, 0, none⟩), .bool true, undef, undef, .agg VB.toArray, .agg WK0.toArray, .agg WK1.toArray, .agg WK2.toArray, .agg WK3.toArray, .agg WK4.toArray, .slice (some ⟨gs, 0, none⟩) 5 5, .int .i64 1, .bool true, u18, u19, .int .i64 1, .int .i64 8, .int .i64 40, .agg ZN1.toArray, .pointer (some ⟨g4, 0, none⟩), .pointer (some ⟨g4, 16, none⟩), .int .i64 40, .int .i64 5, .slice (some ⟨g4, 0, none⟩) 5 16, .slice (some ⟨w.heap.size, 0, none⟩) 16 16, .int .i64 5, .tuple #[.agg WK1.toArray, .bool true], .agg PK1.toArray, .agg VH.toArray, .tuple #[.agg WK1.toArray, .bool true], .agg WK1.toArray, .bool true, u37, u38, u39, u40, u41, u42, u43, u44, u45, u46, undef, undef, undef, undef, undef, undef, undef, undef, undef, undef, undef, undef, undef, undef, undef, undef, undef, undef, undef, undef, undef, undef, undef, undef, undef, undef, undef, undef, undef, undef, undef, undef, undef], defers := []} w7) := Lib.hid (by
        intro g5 w7 h2 h3
        refine hKK _ _ ?_
        have HK7 := Lib.hid (kp_cons h2 h3)
        clear h2 h3 hKK
        go_upto_region 9 with (fail)
        have HKR := Lib.hid (show ∀ W : World, Kp w w.heap.size ((g5, 23, WK1) :: [(g4, 26, PK1), (gs, 23, LB), (w.heap.size, 23, VB)]) W → Kp w w.heap.size ((g5, 23, WK1) :: [(g4, 26, PK1), (gs, 23, LB), (w.heap.size, 23, VB)]) W ∧ W.rangeAt g5 0 WK1 ∧ W.rangeAt gs 16 WK1 from fun W k => ⟨k, k.hd.range, range_mid k.tl.tl.hd HM1.out⟩)
        refine wp_region_noPanic ?_
        refine wp_region_held_drew (S := fun w' => Kp w w.heap.size ((g5, 23, WK1) :: [(g4, 26, PK1), (gs, 23, LB), (w.heap.size, 23, VB)]) w' ∧ w'.rangeAt g5 0 WK1 ∧ w'.rangeAt gs 16 WK1) (by kernel_rfl) (HKR.out _ HK7.out.drew) (fun hHeld => ?_)
        refine wpAnyH_take (i := 0) (oi := { dst := some 37, op := Op.move (Operand.tmp 6), type := 4, pos := "law.go:59", after := #[], guard := none }) (v := ?_) rfl (by kernel_rfl) (by kernel_rfl) (by kernel_rfl) (fun _ _ _ h => h) (Or.inl ⟨by rfl, ?_⟩) (by assumption) ?_
        rotate_left
        · (intro ww hSw; (try dsimp only at hSw); go_simp; try with_reducible rfl)
        (try simp only [Act.put, List.setIfInBounds_toArray, List.set_cons_zero, List.set_cons_succ])
        refine wpAnyH_take (i := 1) (oi := { dst := some 38, op := Op.unOp UnOp.not 4 (Operand.tmp 37), type := 4, pos := "law.go:59", after := #[{ on := 0, ground := Ground.data }], guard := none }) (v := ?_) rfl (by kernel_rfl) (by kernel_rfl) (by kernel_rfl) (fun _ _ _ h => h) (Or.inl ⟨by rfl, ?_⟩) (by assumption) ?_
        rotate_left
        · (intro ww hSw; (try dsimp only at hSw); go_simp; try with_reducible rfl)
        (try simp only [Act.put, List.setIfInBounds_toArray, List.set_cons_zero, List.set_cons_succ])
        refine wpAnyH_take (i := 2) (oi := { dst := some 39, op := Op.move (Operand.tmp 38), type := 4, pos := "law.go:59", after := #[{ on := 1, ground := Ground.data }], guard := none }) (v := ?_) rfl (by kernel_rfl) (by kernel_rfl) (by kernel_rfl) (fun _ _ _ h => h) (Or.inl ⟨by rfl, ?_⟩) (by assumption) ?_
        rotate_left
        · (intro ww hSw; (try dsimp only at hSw); go_simp; try with_reducible rfl)
        (try simp only [Act.put, List.setIfInBounds_toArray, List.set_cons_zero, List.set_cons_succ])
        refine wpAnyH_take (i := 3) (oi := { dst := some 40, op := Op.load 23 (Operand.tmp 5), type := 23, pos := "law.go:59", after := #[{ on := 2, ground := Ground.guard }], guard := some (2, false) }) (v := .agg (WK1).toArray) rfl (by kernel_rfl) (by kernel_rfl) (by kernel_rfl) (fun _ _ _ h => h) (yieldsIf_load_mid (by rfl) _ _ rfl (g5) 0 rfl (WK1) _ (fun ww hSw => hSw.2.1) Try.underlying23 rfl HIW1.out) (by assumption) ?_
        (try simp only [Act.put, List.setIfInBounds_toArray, List.set_cons_zero, List.set_cons_succ])
        refine wpAnyH_take (i := 4) (oi := { dst := some 41, op := Op.move (Operand.tmp 2), type := 24, pos := "law.go:59", after := #[{ on := 2, ground := Ground.guard }], guard := some (2, false) }) (v := ?_) rfl (by kernel_rfl) (by kernel_rfl) (by kernel_rfl) (fun _ _ _ h => h) (Or.inl ⟨by rfl, ?_⟩) (by assumption) ?_
        rotate_left
        · (intro ww hSw; (try dsimp only at hSw); go_simp; try with_reducible rfl)
        (try simp only [Act.put, List.setIfInBounds_toArray, List.set_cons_zero, List.set_cons_succ])
        refine wpAnyH_take (i := 5) (oi := { dst := some 42, op := Op.move (Operand.tmp 3), type := 3, pos := "law.go:59", after := #[{ on := 2, ground := Ground.guard }], guard := some (2, false) }) (v := ?_) rfl (by kernel_rfl) (by kernel_rfl) (by kernel_rfl) (fun _ _ _ h => h) (Or.inl ⟨by rfl, ?_⟩) (by assumption) ?_
        rotate_left
        · (intro ww hSw; (try dsimp only at hSw); go_simp; try with_reducible rfl)
        (try simp only [Act.put, List.setIfInBounds_toArray, List.set_cons_zero, List.set_cons_succ])
        refine wpAnyH_take (i := 6) (oi := { dst := some 43, op := Op.indexAddr 24 (Operand.tmp 41) (Operand.tmp 42), type := 0, pos := "law.go:59", after := #[{ on := 4, ground := Ground.data }, { on := 5, ground := Ground.data }, { on := 2, ground := Ground.guard }], guard := some (2, false) }) (v := ?_) rfl (by kernel_rfl) (by kernel_rfl) (by kernel_rfl) (fun _ _ _ h => h) (Or.inl ⟨by rfl, ?_⟩) (by assumption) ?_
        rotate_left
        · (intro ww hSw; (try dsimp only at hSw); go_simp; try with_reducible rfl)
        (try simp only [Act.put, List.setIfInBounds_toArray, List.set_cons_zero, List.set_cons_succ])
        refine wpAnyH_take (i := 7) (oi := { dst := some 44, op := Op.load 23 (Operand.tmp 43), type := 23, pos := "law.go:59", after := #[{ on := 6, ground := Ground.data }, { on := 2, ground := Ground.guard }], guard := some (2, false) }) (v := .agg (WK1).toArray) rfl (by kernel_rfl) (by kernel_rfl) (by kernel_rfl) (fun _ _ _ h => h) (yieldsIf_load_mid (by rfl) _ _ rfl (gs) 16 rfl (WK1) _ (fun ww hSw => hSw.2.2) Try.underlying23 rfl HIW1.out) (by assumption) ?_
        (try simp only [Act.put, List.setIfInBounds_toArray, List.set_cons_zero, List.set_cons_succ])
        refine wpAnyH_take (i := 8) (oi := { dst := some 45, op := Op.binOp BinOp.neq 23 (Operand.tmp 40) (Operand.tmp 44) 23, type := 4, pos := "law.go:59", after := #[{ on := 3, ground := Ground.data }, { on := 7, ground := Ground.data }, { on := 2, ground := Ground.guard }], guard := some (2, false) }) (v := ?_) rfl (by kernel_rfl) (by kernel_rfl) (by kernel_rfl) (fun _ _ _ h => h) (Or.inl ⟨by rfl, ?_⟩) (by assumption) ?_
        rotate_left
        · (intro ww hSw; (try dsimp only at hSw); go_simp; try with_reducible rfl)
        (try simp only [Act.put, List.setIfInBounds_toArray, List.set_cons_zero, List.set_cons_succ])
        refine wpAnyH_take (i := 9) (oi := { dst := some 46, op := Op.pick (Operand.tmp 39) (Operand.const (Value.bool true)) (Operand.tmp 45), type := 4, pos := "law.go:59", after := #[{ on := 2, ground := Ground.data }, { on := 8, ground := Ground.data }], guard := none }) (v := ?_) rfl (by kernel_rfl) (by kernel_rfl) (by kernel_rfl) (fun _ _ _ h => h) (Or.inl ⟨by rfl, ?_⟩) (by assumption) ?_
        rotate_left
        · (intro ww hSw; (try dsimp only at hSw); go_simp; try with_reducible rfl)
        (try simp only [Act.put, List.setIfInBounds_toArray, List.set_cons_zero, List.set_cons_succ])
        refine wpAnyH_done (by kernel_rfl) ?_ _
        refine NoPanic.normal ?_
        have HK9 := Lib.hid (And.left hHeld)
        clear hHeld HKR HK7
        go_wp2_with fail
        go_roundw
        case rel => exact ⟨2, by omega, by first | rfl | go_num, HK9.out.tl.tl⟩
        case measure => simp [intOf])
      refine wp_region_noPanic ?_
      refine wp_region_held_drew (S := fun w' => Kp w w.heap.size [(g4, 26, PK1), (gs, 23, LB), (w.heap.size, 23, VB)] w' ∧ w'.rangeAt g4 0 PK1) (by kernel_rfl) (kr1 HK5.out.drew) (fun hHeld => ?_)
      refine wpAnyH_take (i := 0) (oi := { dst := some 32, op := Op.load 26 (Operand.tmp 4), type := 26, pos := "law.go:58", after := #[], guard := none }) (v := .agg (PK1).toArray) rfl (by kernel_rfl) (by kernel_rfl) (by kernel_rfl) (fun _ _ _ h => h) (yieldsIf_load_mid (by rfl) _ _ rfl (g4) 0 rfl (PK1) _ (fun ww hSw => hSw.2) Try.underlying26 rfl HIP1.out) (by assumption) ?_
      (try simp only [Act.put, List.setIfInBounds_toArray, List.set_cons_zero, List.set_cons_succ])
      refine wpAnyH_ready (rs := [1, 6]) (by kernel_rfl) (by simp) ?_
      refine AllReadyH.cons (o := { dst := some 33, op := Op.call { callee := Callee.value (Operand.func 11), args := #[], argTypes := #[] }, type := 31, pos := "law.go:58", after := #[], guard := none }) rfl (fun K hK => ?_) (AllReadyH.cons (o := { dst := some 5, op := Op.alloc 23, type := 0, pos := "law.go:58", after := #[], guard := none }) rfl (fun K hK => ?_) AllReadyH.nil)
      · go_simp
        ((with_reducible refine (CH.out _).mono ?_); rintro e wA ⟨rfl, hb9⟩)
        refine hK.out _ _ (kr1 ((And.left hHeld).below hb9 (Nat.le_refl _))) (fun hHeld => ?_)
        clear hK K
        (try simp only [Act.put, List.setIfInBounds_toArray, List.set_cons_zero, List.set_cons_succ])
        refine wpAnyH_ready (rs := [2, 6]) (by kernel_rfl) (by simp) ?_
        refine AllReadyH.cons (o := { dst := some 34, op := Op.call { callee := Callee.value (Operand.func 10), args := #[Operand.tmp 32, Operand.tmp 33], argTypes := #[26, 31] }, type := 28, pos := "law.go:58", after := #[{ on := 0, ground := Ground.data }, { on := 1, ground := Ground.data }, { on := 1, ground := Ground.chain }], guard := none }) rfl (fun K hK => ?_) (AllReadyH.cons (o := { dst := some 5, op := Op.alloc 23, type := 0, pos := "law.go:58", after := #[], guard := none }) rfl (fun K hK => ?_) AllReadyH.nil)
        · go_simp
          ((with_reducible refine (CE1.out _).mono ?_); rintro e wB ⟨rfl, hb9⟩)
          refine hK.out _ _ (kr1 ((And.left hHeld).below hb9 (Nat.le_refl _))) (fun hHeld => ?_)
          clear hK K
          (try simp only [Act.put, List.setIfInBounds_toArray, List.set_cons_zero, List.set_cons_succ])
          refine wpAnyH_take (i := 3) (oi := { dst := some 31, op := Op.move (Operand.tmp 34), type := 28, pos := "law.go:58", after := #[{ on := 2, ground := Ground.data }], guard := none }) (v := ?_) rfl (by kernel_rfl) (by kernel_rfl) (by kernel_rfl) (fun _ _ _ h => h) (Or.inl ⟨by rfl, ?_⟩) (by assumption) ?_
          rotate_left
          · (intro ww hSw; (try dsimp only at hSw); go_simp; try with_reducible rfl)
          (try simp only [Act.put, List.setIfInBounds_toArray, List.set_cons_zero, List.set_cons_succ])
          refine wpAnyH_take (i := 4) (oi := { dst := some 35, op := Op.extract (Operand.tmp 31) 0, type := 23, pos := "law.go:58", after := #[{ on := 3, ground := Ground.data }], guard := none }) (v := ?_) rfl (by kernel_rfl) (by kernel_rfl) (by kernel_rfl) (fun _ _ _ h => h) (Or.inl ⟨by rfl, ?_⟩) (by assumption) ?_
          rotate_left
          · (intro ww hSw; (try dsimp only at hSw); go_simp; try with_reducible rfl)
          (try simp only [Act.put, List.setIfInBounds_toArray, List.set_cons_zero, List.set_cons_succ])
          refine wpAnyH_take (i := 5) (oi := { dst := some 36, op := Op.extract (Operand.tmp 31) 1, type := 4, pos := "law.go:58", after := #[{ on := 3, ground := Ground.data }, { on := 7, ground := Ground.gcOnly Departure.lateStores }], guard := none }) (v := ?_) rfl (by kernel_rfl) (by kernel_rfl) (by kernel_rfl) (fun _ _ _ h => h) (Or.inl ⟨by rfl, ?_⟩) (by assumption) ?_
          rotate_left
          · (intro ww hSw; (try dsimp only at hSw); go_simp; try with_reducible rfl)
          (try simp only [Act.put, List.setIfInBounds_toArray, List.set_cons_zero, List.set_cons_succ])
          refine wpAnyH_ready (rs := [6]) (by kernel_rfl) (by simp) ?_
          refine AllReadyH.cons (o := { dst := some 5, op := Op.alloc 23, type := 0, pos := "law.go:58", after := #[], guard := none }) rfl (fun K hK => ?_) AllReadyH.nil
          have hnw := (And.left hHeld).2.2
          have hne := fun x hx => (And.left hHeld).ne x hx
          go_simp
          refine hK.out _ _ (kr1 ((And.left hHeld).alloc _)) (fun hHeld => ?_)
          clear hK K
          (try simp only [Act.put, List.setIfInBounds_toArray, List.set_cons_zero, List.set_cons_succ])
          have hA := bk_new (wB) 23 ([.int .u8 0, .int .u8 0, .int .u8 0, .int .u8 0, .int .u8 0, .int .u8 0, .int .u8 0, .int .u8 0, .int .u8 0, .int .u8 0, .int .u8 0, .int .u8 0, .int .u8 0, .int .u8 0, .int .u8 0, .int .u8 0] : List Value).toArray
          refine wpAnyH_ready (rs := [7]) (by kernel_rfl) (by simp) ?_
          refine AllReadyH.cons (o := { dst := none, op := Op.store 23 (Operand.tmp 5) (Operand.tmp 35), type := 0, pos := "law.go:58", after := #[{ on := 6, ground := Ground.data }, { on := 4, ground := Ground.data }, { on := 2, ground := Ground.chain }, { on := 0, ground := Ground.phase }, { on := 1, ground := Ground.phase }, { on := 2, ground := Ground.phase }, { on := 3, ground := Ground.phase }, { on := 4, ground := Ground.phase }, { on := 5, ground := Ground.textOnly Departure.lateStores }, { on := 6, ground := Ground.phase }], guard := none }) rfl (fun K hK => ?_) AllReadyH.nil
          rw [if_pos (by rfl)]
          have hS := Bk.sets WK1 0 _ _ hA
          rw [puts_whole ([.int .u8 0, .int .u8 0, .int .u8 0, .int .u8 0, .int .u8 0, .int .u8 0, .int .u8 0, .int .u8 0, .int .u8 0, .int .u8 0, .int .u8 0, .int .u8 0, .int .u8 0, .int .u8 0, .int .u8 0, .int .u8 0] : List Value).toArray WK1 (by have := HLW1.out; simp; omega)] at hS
          refine wp_store_mid 23 _ _ rfl (wB).heap.size 0 WK1.toArray rfl rfl (hA.there _ (by have := HLW1.out; simp; omega)) (by simpa using HIW1.out) HOW1.out ?_
          refine hK.out _ _ (kr1 ((And.left hHeld).sets hne hnw 0 WK1)) (fun hHeld => ?_)
          clear hK K
          (try simp only [Act.put])
          refine wpAnyH_take (i := 8) (oi := { dst := some 6, op := Op.assign (Operand.tmp 36), type := 4, pos := "law.go:58", after := #[{ on := 5, ground := Ground.data }, { on := 7, ground := Ground.chain }, { on := 0, ground := Ground.phase }, { on := 1, ground := Ground.phase }, { on := 2, ground := Ground.phase }, { on := 3, ground := Ground.phase }, { on := 4, ground := Ground.phase }, { on := 5, ground := Ground.phase }, { on := 6, ground := Ground.phase }, { on := 7, ground := Ground.phase }], guard := none }) (v := ?_) rfl (by kernel_rfl) (by kernel_rfl) (by kernel_rfl) (fun _ _ _ h => h) (Or.inl ⟨by rfl, ?_⟩) (by assumption) ?_
          rotate_left
          · (intro ww hSw; (try dsimp only at hSw); go_simp; try with_reducible rfl)
          (try simp only [Act.put, List.setIfInBounds_toArray, List.set_cons_zero, List.set_cons_succ])
          refine wpAnyH_done (by kernel_rfl) ?_ _
          refine NoPanic.normal ?_
          exact key.out _ _ hS (And.left hHeld)
        · have hnw := (And.left hHeld).2.2
          have hne := fun x hx => (And.left hHeld).ne x hx
          go_simp
          refine hK.out _ _ (kr1 ((And.left hHeld).alloc _)) (fun hHeld => ?_)
          clear hK K
          (try simp only [Act.put, List.setIfInBounds_toArray, List.set_cons_zero, List.set_cons_succ])
          have hA := bk_new (wA) 23 ([.int .u8 0, .int .u8 0, .int .u8 0, .int .u8 0, .int .u8 0, .int .u8 0, .int .u8 0, .int .u8 0, .int .u8 0, .int .u8 0, .int .u8 0, .int .u8 0, .int .u8 0, .int .u8 0, .int .u8 0, .int .u8 0] : List Value).toArray
          refine wpAnyH_ready (rs := [2]) (by kernel_rfl) (by simp) ?_
          refine AllReadyH.cons (o := { dst := some 34, op := Op.call { callee := Callee.value (Operand.func 10), args := #[Operand.tmp 32, Operand.tmp 33], argTypes := #[26, 31] }, type := 28, pos := "law.go:58", after := #[{ on := 0, ground := Ground.data }, { on := 1, ground := Ground.data }, { on := 1, ground := Ground.chain }], guard := none }) rfl (fun K hK => ?_) AllReadyH.nil
          go_simp
          ((with_reducible refine (CE1.out _).mono ?_); rintro e wB ⟨rfl, hb9⟩)
          refine hK.out _ _ (kr1 ((And.left hHeld).below hb9 (Nat.le_refl _))) (fun hHeld => ?_)
          clear hK K
          (try simp only [Act.put, List.setIfInBounds_toArray, List.set_cons_zero, List.set_cons_succ])
          have hA := hA.below hb9 hA.lt
          refine wpAnyH_take (i := 3) (oi := { dst := some 31, op := Op.move (Operand.tmp 34), type := 28, pos := "law.go:58", after := #[{ on := 2, ground := Ground.data }], guard := none }) (v := ?_) rfl (by kernel_rfl) (by kernel_rfl) (by kernel_rfl) (fun _ _ _ h => h) (Or.inl ⟨by rfl, ?_⟩) (by assumption) ?_
          rotate_left
          · (intro ww hSw; (try dsimp only at hSw); go_simp; try with_reducible rfl)
          (try simp only [Act.put, List.setIfInBounds_toArray, List.set_cons_zero, List.set_cons_succ])
          refine wpAnyH_take (i := 4) (oi := { dst := some 35, op := Op.extract (Operand.tmp 31) 0, type := 23, pos := "law.go:58", after := #[{ on := 3, ground := Ground.data }], guard := none }) (v := ?_) rfl (by kernel_rfl) (by kernel_rfl) (by kernel_rfl) (fun _ _ _ h => h) (Or.inl ⟨by rfl, ?_⟩) (by assumption) ?_
          rotate_left
          · (intro ww hSw; (try dsimp only at hSw); go_simp; try with_reducible rfl)
          (try simp only [Act.put, List.setIfInBounds_toArray, List.set_cons_zero, List.set_cons_succ])
          refine wpAnyH_take (i := 5) (oi := { dst := some 36, op := Op.extract (Operand.tmp 31) 1, type := 4, pos := "law.go:58", after := #[{ on := 3, ground := Ground.data }, { on := 7, ground := Ground.gcOnly Departure.lateStores }], guard := none }) (v := ?_) rfl (by kernel_rfl) (by kernel_rfl) (by kernel_rfl) (fun _ _ _ h => h) (Or.inl ⟨by rfl, ?_⟩) (by assumption) ?_
          rotate_left
          · (intro ww hSw; (try dsimp only at hSw); go_simp; try with_reducible rfl)
          (try simp only [Act.put, List.setIfInBounds_toArray, List.set_cons_zero, List.set_cons_succ])
          refine wpAnyH_ready (rs := [7]) (by kernel_rfl) (by simp) ?_
          refine AllReadyH.cons (o := { dst := none, op := Op.store 23 (Operand.tmp 5) (Operand.tmp 35), type := 0, pos := "law.go:58", after := #[{ on := 6, ground := Ground.data }, { on := 4, ground := Ground.data }, { on := 2, ground := Ground.chain }, { on := 0, ground := Ground.phase }, { on := 1, ground := Ground.phase }, { on := 2, ground := Ground.phase }, { on := 3, ground := Ground.phase }, { on := 4, ground := Ground.phase }, { on := 5, ground := Ground.textOnly Departure.lateStores }, { on := 6, ground := Ground.phase }], guard := none }) rfl (fun K hK => ?_) AllReadyH.nil
          rw [if_pos (by rfl)]
          have hS := Bk.sets WK1 0 _ _ hA
          rw [puts_whole ([.int .u8 0, .int .u8 0, .int .u8 0, .int .u8 0, .int .u8 0, .int .u8 0, .int .u8 0, .int .u8 0, .int .u8 0, .int .u8 0, .int .u8 0, .int .u8 0, .int .u8 0, .int .u8 0, .int .u8 0, .int .u8 0] : List Value).toArray WK1 (by have := HLW1.out; simp; omega)] at hS
          refine wp_store_mid 23 _ _ rfl (wA).heap.size 0 WK1.toArray rfl rfl (hA.there _ (by have := HLW1.out; simp; omega)) (by simpa using HIW1.out) HOW1.out ?_
          refine hK.out _ _ (kr1 ((And.left hHeld).sets hne hnw 0 WK1)) (fun hHeld => ?_)
          clear hK K
          (try simp only [Act.put])
          refine wpAnyH_take (i := 8) (oi := { dst := some 6, op := Op.assign (Operand.tmp 36), type := 4, pos := "law.go:58", after := #[{ on := 5, ground := Ground.data }, { on := 7, ground := Ground.chain }, { on := 0, ground := Ground.phase }, { on := 1, ground := Ground.phase }, { on := 2, ground := Ground.phase }, { on := 3, ground := Ground.phase }, { on := 4, ground := Ground.phase }, { on := 5, ground := Ground.phase }, { on := 6, ground := Ground.phase }, { on := 7, ground := Ground.phase }], guard := none }) (v := ?_) rfl (by kernel_rfl) (by kernel_rfl) (by kernel_rfl) (fun _ _ _ h => h) (Or.inl ⟨by rfl, ?_⟩) (by assumption) ?_
          rotate_left
          · (intro ww hSw; (try dsimp only at hSw); go_simp; try with_reducible rfl)
          (try simp only [Act.put, List.setIfInBounds_toArray, List.set_cons_zero, List.set_cons_succ])
          refine wpAnyH_done (by kernel_rfl) ?_ _
          refine NoPanic.normal ?_
          exact key.out _ _ hS (And.left hHeld)
      · have hnw := (And.left hHeld).2.2
        have hne := fun x hx => (And.left hHeld).ne x hx
        go_simp
        refine hK.out _ _ (kr1 ((And.left hHeld).alloc _)) (fun hHeld => ?_)
        clear hK K
        (try simp only [Act.put, List.setIfInBounds_toArray, List.set_cons_zero, List.set_cons_succ])
        have hA := bk_new (w5.drew) 23 ([.int .u8 0, .int .u8 0, .int .u8 0, .int .u8 0, .int .u8 0, .int .u8 0, .int .u8 0, .int .u8 0, .int .u8 0, .int .u8 0, .int .u8 0, .int .u8 0, .int .u8 0, .int .u8 0, .int .u8 0, .int .u8 0] : List Value).toArray
        refine wpAnyH_ready (rs := [1]) (by kernel_rfl) (by simp) ?_
        refine AllReadyH.cons (o := { dst := some 33, op := Op.call { callee := Callee.value (Operand.func 11), args := #[], argTypes := #[] }, type := 31, pos := "law.go:58", after := #[], guard := none }) rfl (fun K hK => ?_) AllReadyH.nil
        go_simp
        ((with_reducible refine (CH.out _).mono ?_); rintro e wA ⟨rfl, hb9⟩)
        refine hK.out _ _ (kr1 ((And.left hHeld).below hb9 (Nat.le_refl _))) (fun hHeld => ?_)
        clear hK K
        (try simp only [Act.put, List.setIfInBounds_toArray, List.set_cons_zero, List.set_cons_succ])
        have hA := hA.below hb9 hA.lt
        refine wpAnyH_ready (rs := [2]) (by kernel_rfl) (by simp) ?_
        refine AllReadyH.cons (o := { dst := some 34, op := Op.call { callee := Callee.value (Operand.func 10), args := #[Operand.tmp 32, Operand.tmp 33], argTypes := #[26, 31] }, type := 28, pos := "law.go:58", after := #[{ on := 0, ground := Ground.data }, { on := 1, ground := Ground.data }, { on := 1, ground := Ground.chain }], guard := none }) rfl (fun K hK => ?_) AllReadyH.nil
        go_simp
        ((with_reducible refine (CE1.out _).mono ?_); rintro e wB ⟨rfl, hb9⟩)
        refine hK.out _ _ (kr1 ((And.left hHeld).below hb9 (Nat.le_refl _))) (fun hHeld => ?_)
        clear hK K
        (try simp only [Act.put, List.setIfInBounds_toArray, List.set_cons_zero, List.set_cons_succ])
        have hA := hA.below hb9 hA.lt
        refine wpAnyH_take (i := 3) (oi := { dst := some 31, op := Op.move (Operand.tmp 34), type := 28, pos := "law.go:58", after := #[{ on := 2, ground := Ground.data }], guard := none }) (v := ?_) rfl (by kernel_rfl) (by kernel_rfl) (by kernel_rfl) (fun _ _ _ h => h) (Or.inl ⟨by rfl, ?_⟩) (by assumption) ?_
        rotate_left
        · (intro ww hSw; (try dsimp only at hSw); go_simp; try with_reducible rfl)
        (try simp only [Act.put, List.setIfInBounds_toArray, List.set_cons_zero, List.set_cons_succ])
        refine wpAnyH_take (i := 4) (oi := { dst := some 35, op := Op.extract (Operand.tmp 31) 0, type := 23, pos := "law.go:58", after := #[{ on := 3, ground := Ground.data }], guard := none }) (v := ?_) rfl (by kernel_rfl) (by kernel_rfl) (by kernel_rfl) (fun _ _ _ h => h) (Or.inl ⟨by rfl, ?_⟩) (by assumption) ?_
        rotate_left
        · (intro ww hSw; (try dsimp only at hSw); go_simp; try with_reducible rfl)
        (try simp only [Act.put, List.setIfInBounds_toArray, List.set_cons_zero, List.set_cons_succ])
        refine wpAnyH_take (i := 5) (oi := { dst := some 36, op := Op.extract (Operand.tmp 31) 1, type := 4, pos := "law.go:58", after := #[{ on := 3, ground := Ground.data }, { on := 7, ground := Ground.gcOnly Departure.lateStores }], guard := none }) (v := ?_) rfl (by kernel_rfl) (by kernel_rfl) (by kernel_rfl) (fun _ _ _ h => h) (Or.inl ⟨by rfl, ?_⟩) (by assumption) ?_
        rotate_left
        · (intro ww hSw; (try dsimp only at hSw); go_simp; try with_reducible rfl)
        (try simp only [Act.put, List.setIfInBounds_toArray, List.set_cons_zero, List.set_cons_succ])
        refine wpAnyH_ready (rs := [7]) (by kernel_rfl) (by simp) ?_
        refine AllReadyH.cons (o := { dst := none, op := Op.store 23 (Operand.tmp 5) (Operand.tmp 35), type := 0, pos := "law.go:58", after := #[{ on := 6, ground := Ground.data }, { on := 4, ground := Ground.data }, { on := 2, ground := Ground.chain }, { on := 0, ground := Ground.phase }, { on := 1, ground := Ground.phase }, { on := 2, ground := Ground.phase }, { on := 3, ground := Ground.phase }, { on := 4, ground := Ground.phase }, { on := 5, ground := Ground.textOnly Departure.lateStores }, { on := 6, ground := Ground.phase }], guard := none }) rfl (fun K hK => ?_) AllReadyH.nil
        rw [if_pos (by rfl)]
        have hS := Bk.sets WK1 0 _ _ hA
        rw [puts_whole ([.int .u8 0, .int .u8 0, .int .u8 0, .int .u8 0, .int .u8 0, .int .u8 0, .int .u8 0, .int .u8 0, .int .u8 0, .int .u8 0, .int .u8 0, .int .u8 0, .int .u8 0, .int .u8 0, .int .u8 0, .int .u8 0] : List Value).toArray WK1 (by have := HLW1.out; simp; omega)] at hS
        refine wp_store_mid 23 _ _ rfl (w5.drew).heap.size 0 WK1.toArray rfl rfl (hA.there _ (by have := HLW1.out; simp; omega)) (by simpa using HIW1.out) HOW1.out ?_
        refine hK.out _ _ (kr1 ((And.left hHeld).sets hne hnw 0 WK1)) (fun hHeld => ?_)
        clear hK K
        (try simp only [Act.put])
        refine wpAnyH_take (i := 8) (oi := { dst := some 6, op := Op.assign (Operand.tmp 36), type := 4, pos := "law.go:58", after := #[{ on := 5, ground := Ground.data }, { on := 7, ground := Ground.chain }, { on := 0, ground := Ground.phase }, { on := 1, ground := Ground.phase }, { on := 2, ground := Ground.phase }, { on := 3, ground := Ground.phase }, { on := 4, ground := Ground.phase }, { on := 5, ground := Ground.phase }, { on := 6, ground := Ground.phase }, { on := 7, ground := Ground.phase }], guard := none }) (v := ?_) rfl (by kernel_rfl) (by kernel_rfl) (by kernel_rfl) (fun _ _ _ h => h) (Or.inl ⟨by rfl, ?_⟩) (by assumption) ?_
        rotate_left
        · (intro ww hSw; (try dsimp only at hSw); go_simp; try with_reducible rfl)
        (try simp only [Act.put, List.setIfInBounds_toArray, List.set_cons_zero, List.set_cons_succ])
        refine wpAnyH_done (by kernel_rfl) ?_ _
        refine NoPanic.normal ?_
        exact key.out _ _ hS (And.left hHeld)
    · have ht := (bk_new wr 26 ([.int .u8 0, .int .u8 0, .int .u8 0, .int .u8 0, .int .u8 0, .int .u8 0, .int .u8 0, .int .u8 0, .int .u8 0, .int .u8 0, .int .u8 0, .int .u8 0, .int .u8 0, .int .u8 0, .int .u8 0, .int .u8 0, .int .i64 0] : List Value).toArray).there ZN2.toArray.size (by have := HLN2.out; simp; omega)
      go_upto_region 7 with (first | (refine Great.wpList_readTo rfl _ rfl (.agg ZN2.toArray) (run_exec rfl (by rw [List.map_toArray]; rfl) (BP2.out _)) ?_) | (refine wpList_store_mid rfl 26 _ _ rfl wr.heap.size 0 ZN2.toArray rfl rfl ht (by simpa using HIN2.out) HON2.out ?_))
      have HK4 := Lib.hid (HK3.out.put 26 ([.int .u8 0, .int .u8 0, .int .u8 0, .int .u8 0, .int .u8 0, .int .u8 0, .int .u8 0, .int .u8 0, .int .u8 0, .int .u8 0, .int .u8 0, .int .u8 0, .int .u8 0, .int .u8 0, .int .u8 0, .int .u8 0, .int .i64 0] : List Value).toArray ZN2 (by have := HLN2.out; simp; omega))
      have HN4 := Lib.hid HK3.out.ne
      have HB4 := Lib.hid HK3.out.2.2
      clear ht HK3
      generalize (wr.alloc (.cells ([.int .u8 0, .int .u8 0, .int .u8 0, .int .u8 0, .int .u8 0, .int .u8 0, .int .u8 0, .int .u8 0, .int .u8 0, .int .u8 0, .int .u8 0, .int .u8 0, .int .u8 0, .int .u8 0, .int .u8 0, .int .u8 0, .int .i64 0] : List Value).toArray 26)).setCells wr.heap.size 0 ZN2 = w4 at *
      generalize wr.heap.size = g4 at *
      have hcp := copy_in w4.drew g4 w.heap.size 6 26 23 ZN2 VB CS2 HK4.out.drew.hd HK4.out.drew.tl.tl.hd HCS2.out.symm HCB2.out (by omega) (by have := HLN2.out; omega) HOB.out
      have HCP := Lib.hid hcp
      clear hcp
      have HS4 := Lib.hid (HK4.out.drew.hd.at HN162.out)
      have HK5 := Lib.hid (kp_over2 HK4.out.drew HN4.out HB4.out CS2 HPP2.out (by have := HCB2.out; have := HLN2.out; omega))
      have hc5 := HK5.out.hd.at HP162.out
      have HC5 := Lib.hid hc5
      clear hc5 HK4 HN4 HB4
      have k2 : IntKind.i64.wrap (6 : Int) = 6 := by decide
      refine wp_region_noPanic ?_
      refine wp_region_held_drew (S := fun w' => w'.cell? ⟨g4, 16, none⟩ = some (.int .i64 48)) (by kernel_rfl) (HS4.out) (fun hHeld => ?_)
      refine wpAnyH_take (i := 0) (oi := { dst := some 24, op := Op.fieldAddr 26 (Operand.tmp 4) 0, type := 0, pos := "law.go:57", after := #[], guard := none }) (v := ?_) rfl (by kernel_rfl) (by kernel_rfl) (by kernel_rfl) (fun _ _ _ h => h) (Or.inl ⟨by rfl, ?_⟩) (by assumption) ?_
      rotate_left
      · (intro ww hSw; (try dsimp only at hSw); go_simp; try with_reducible rfl)
      (try simp only [Act.put, List.setIfInBounds_toArray, List.set_cons_zero, List.set_cons_succ])
      refine wpAnyH_take (i := 1) (oi := { dst := some 25, op := Op.fieldAddr 26 (Operand.tmp 4) 1, type := 0, pos := "law.go:57", after := #[], guard := none }) (v := ?_) rfl (by kernel_rfl) (by kernel_rfl) (by kernel_rfl) (fun _ _ _ h => h) (Or.inl ⟨by rfl, ?_⟩) (by assumption) ?_
      rotate_left
      · (intro ww hSw; (try dsimp only at hSw); go_simp; try with_reducible rfl)
      (try simp only [Act.put, List.setIfInBounds_toArray, List.set_cons_zero, List.set_cons_succ])
      refine wpAnyH_take (i := 2) (oi := { dst := some 26, op := Op.load 3 (Operand.tmp 25), type := 3, pos := "law.go:57", after := #[{ on := 1, ground := Ground.data }], guard := none }) (v := ?_) rfl (by kernel_rfl) (by kernel_rfl) (by kernel_rfl) (fun _ _ _ h => h) (Or.inl ⟨by rfl, ?_⟩) (by assumption) ?_
      rotate_left
      · (intro ww hSw; (try dsimp only at hSw); go_simp; try with_reducible rfl)
      (try simp only [Act.put, List.setIfInBounds_toArray, List.set_cons_zero, List.set_cons_succ])
      refine wpAnyH_take (i := 3) (oi := { dst := some 27, op := Op.binOp BinOp.quo 3 (Operand.tmp 26) (Operand.const (Value.int IntKind.i64 8)) 3, type := 3, pos := "law.go:57", after := #[{ on := 2, ground := Ground.data }], guard := none }) (v := ?_) rfl (by kernel_rfl) (by kernel_rfl) (by kernel_rfl) (fun _ _ _ h => h) (Or.inl ⟨by rfl, ?_⟩) (by assumption) ?_
      rotate_left
      · (intro ww hSw; (try dsimp only at hSw); go_simp; try with_reducible rfl)
      (try simp only [Act.put, List.setIfInBounds_toArray, List.set_cons_zero, List.set_cons_succ])
      refine wpAnyH_take (i := 4) (oi := { dst := some 28, op := Op.slice 23 (Operand.tmp 24) none (some (Operand.tmp 27)) none, type := 27, pos := "law.go:57", after := #[{ on := 0, ground := Ground.data }, { on := 3, ground := Ground.data }], guard := none }) (v := ?_) rfl (by kernel_rfl) (by kernel_rfl) (by kernel_rfl) (fun _ _ _ h => h) (Or.inl ⟨by rfl, ?_⟩) (by assumption) ?_
      rotate_left
      · (intro ww hSw; (try dsimp only at hSw); go_simp; try with_reducible rfl)
      (try simp only [Act.put, List.setIfInBounds_toArray, List.set_cons_zero, List.set_cons_succ])
      refine wpAnyH_take (i := 5) (oi := { dst := some 29, op := Op.slice 23 (Operand.tmp 1) none none none, type := 27, pos := "law.go:57", after := #[], guard := none }) (v := ?_) rfl (by kernel_rfl) (by kernel_rfl) (by kernel_rfl) (fun _ _ _ h => h) (Or.inl ⟨by rfl, ?_⟩) (by assumption) ?_
      rotate_left
      · (intro ww hSw; (try dsimp only at hSw); go_simp; try with_reducible rfl)
      (try simp only [Act.put, List.setIfInBounds_toArray, List.set_cons_zero, List.set_cons_succ])
      refine wpAnyH_ready (rs := [6]) (by kernel_rfl) (by simp) ?_
      refine AllReadyH.cons (o := { dst := some 30, op := Op.call { callee := Callee.builtin Builtin.copy, args := #[Operand.tmp 28, Operand.tmp 29], argTypes := #[27, 27] }, type := 3, pos := "law.go:57", after := #[{ on := 4, ground := Ground.data }, { on := 5, ground := Ground.data }], guard := none }) rfl (fun K hK => ?_) AllReadyH.nil
      rw [if_pos (by rfl)]
      refine Lib.wp_copy_run _ _ _ 27 27 rfl _ _ rfl rfl HCP.out ?_
      refine hK.out _ _ (HC5.out) (fun hHeld => ?_)
      clear hK K
      (try simp only [Act.put, List.setIfInBounds_toArray, List.set_cons_zero, List.set_cons_succ])
      refine wpAnyH_done (by kernel_rfl) ?_ _
      refine NoPanic.normal ?_
      clear hHeld HS4 HC5 HCP k2
      generalize w4.drew.setCells g4 0 CS2 = w5 at *
      go_upto_region 8 with (fail)
      rename_i KK hKK
      have key : Hid (∀ (g5 : Nat) (w7 : World), Bk w7 g5 23 WK2.toArray → Kp w w.heap.size [(g4, 26, PK2), (gs, 23, LB), (w.heap.size, 23, VB)] w7 → KK {tmps := #[u0, .pointer (some ⟨w.heap.size, 0, none⟩), .slice (some ⟨gs, 0, none⟩) 5 5, .int .i64 2, .pointer (some ⟨g4, 0, none⟩), .pointer (some ⟨g5, 0, none⟩), .bool true, undef, undef, .agg VB.toArray, .agg WK0.toArray, .agg WK1.toArray, .agg WK2.toArray, .agg WK3.toArray, .agg WK4.toArray, .slice (some ⟨gs, 0, none⟩) 5 5, .int .i64 2, .bool true, u18, u19, .int .i64 2, .int .i64 16, .int .i64 48, .agg ZN2.toArray, .pointer (some ⟨g4, 0, none⟩), .pointer (some ⟨g4, 16, none⟩), .int .i64 48, .int .i64 6, .slice (some ⟨g4, 0, none⟩) 6 16, .slice (some ⟨w.heap.size, 0, none⟩) 16 16, .int .i64 6, .tuple #[.agg WK2.toArray, .bool true], .agg PK2.toArray, .agg VH.toArray, .tuple #[.agg WK2.toArray, .bool true], .agg WK2.toArray, .bool true, u37, u38, u39, u40, u41, u42, u43, u44, u45, u46, undef, undef, undef, undef, undef, undef, undef, undef, undef, undef, undef, undef, undef, undef, undef, undef, undef, undef, undef, undef, undef, undef, undef, undef, undef, undef, undef, undef, undef, undef, undef, undef, undef], defers := []} w7) := Lib.hid (by
        intro g5 w7 h2 h3
        refine hKK _ _ ?_
        have HK7 := Lib.hid (kp_cons h2 h3)
        clear h2 h3 hKK
        go_upto_region 9 with (fail)
        have HKR := Lib.hid (show ∀ W : World, Kp w w.heap.size ((g5, 23, WK2) :: [(g4, 26, PK2), (gs, 23, LB), (w.heap.size, 23, VB)]) W → Kp w w.heap.size ((g5, 23, WK2) :: [(g4, 26, PK2), (gs, 23, LB), (w.heap.size, 23, VB)]) W ∧ W.rangeAt g5 0 WK2 ∧ W.rangeAt gs 32 WK2 from fun W k => ⟨k, k.hd.range, range_mid k.tl.tl.hd HM2.out⟩)
        refine wp_region_noPanic ?_
        refine wp_region_held_drew (S := fun w' => Kp w w.heap.size ((g5, 23, WK2) :: [(g4, 26, PK2), (gs, 23, LB), (w.heap.size, 23, VB)]) w' ∧ w'.rangeAt g5 0 WK2 ∧ w'.rangeAt gs 32 WK2) (by kernel_rfl) (HKR.out _ HK7.out.drew) (fun hHeld => ?_)
        refine wpAnyH_take (i := 0) (oi := { dst := some 37, op := Op.move (Operand.tmp 6), type := 4, pos := "law.go:59", after := #[], guard := none }) (v := ?_) rfl (by kernel_rfl) (by kernel_rfl) (by kernel_rfl) (fun _ _ _ h => h) (Or.inl ⟨by rfl, ?_⟩) (by assumption) ?_
        rotate_left
        · (intro ww hSw; (try dsimp only at hSw); go_simp; try with_reducible rfl)
        (try simp only [Act.put, List.setIfInBounds_toArray, List.set_cons_zero, List.set_cons_succ])
        refine wpAnyH_take (i := 1) (oi := { dst := some 38, op := Op.unOp UnOp.not 4 (Operand.tmp 37), type := 4, pos := "law.go:59", after := #[{ on := 0, ground := Ground.data }], guard := none }) (v := ?_) rfl (by kernel_rfl) (by kernel_rfl) (by kernel_rfl) (fun _ _ _ h => h) (Or.inl ⟨by rfl, ?_⟩) (by assumption) ?_
        rotate_left
        · (intro ww hSw; (try dsimp only at hSw); go_simp; try with_reducible rfl)
        (try simp only [Act.put, List.setIfInBounds_toArray, List.set_cons_zero, List.set_cons_succ])
        refine wpAnyH_take (i := 2) (oi := { dst := some 39, op := Op.move (Operand.tmp 38), type := 4, pos := "law.go:59", after := #[{ on := 1, ground := Ground.data }], guard := none }) (v := ?_) rfl (by kernel_rfl) (by kernel_rfl) (by kernel_rfl) (fun _ _ _ h => h) (Or.inl ⟨by rfl, ?_⟩) (by assumption) ?_
        rotate_left
        · (intro ww hSw; (try dsimp only at hSw); go_simp; try with_reducible rfl)
        (try simp only [Act.put, List.setIfInBounds_toArray, List.set_cons_zero, List.set_cons_succ])
        refine wpAnyH_take (i := 3) (oi := { dst := some 40, op := Op.load 23 (Operand.tmp 5), type := 23, pos := "law.go:59", after := #[{ on := 2, ground := Ground.guard }], guard := some (2, false) }) (v := .agg (WK2).toArray) rfl (by kernel_rfl) (by kernel_rfl) (by kernel_rfl) (fun _ _ _ h => h) (yieldsIf_load_mid (by rfl) _ _ rfl (g5) 0 rfl (WK2) _ (fun ww hSw => hSw.2.1) Try.underlying23 rfl HIW2.out) (by assumption) ?_
        (try simp only [Act.put, List.setIfInBounds_toArray, List.set_cons_zero, List.set_cons_succ])
        refine wpAnyH_take (i := 4) (oi := { dst := some 41, op := Op.move (Operand.tmp 2), type := 24, pos := "law.go:59", after := #[{ on := 2, ground := Ground.guard }], guard := some (2, false) }) (v := ?_) rfl (by kernel_rfl) (by kernel_rfl) (by kernel_rfl) (fun _ _ _ h => h) (Or.inl ⟨by rfl, ?_⟩) (by assumption) ?_
        rotate_left
        · (intro ww hSw; (try dsimp only at hSw); go_simp; try with_reducible rfl)
        (try simp only [Act.put, List.setIfInBounds_toArray, List.set_cons_zero, List.set_cons_succ])
        refine wpAnyH_take (i := 5) (oi := { dst := some 42, op := Op.move (Operand.tmp 3), type := 3, pos := "law.go:59", after := #[{ on := 2, ground := Ground.guard }], guard := some (2, false) }) (v := ?_) rfl (by kernel_rfl) (by kernel_rfl) (by kernel_rfl) (fun _ _ _ h => h) (Or.inl ⟨by rfl, ?_⟩) (by assumption) ?_
        rotate_left
        · (intro ww hSw; (try dsimp only at hSw); go_simp; try with_reducible rfl)
        (try simp only [Act.put, List.setIfInBounds_toArray, List.set_cons_zero, List.set_cons_succ])
        refine wpAnyH_take (i := 6) (oi := { dst := some 43, op := Op.indexAddr 24 (Operand.tmp 41) (Operand.tmp 42), type := 0, pos := "law.go:59", after := #[{ on := 4, ground := Ground.data }, { on := 5, ground := Ground.data }, { on := 2, ground := Ground.guard }], guard := some (2, false) }) (v := ?_) rfl (by kernel_rfl) (by kernel_rfl) (by kernel_rfl) (fun _ _ _ h => h) (Or.inl ⟨by rfl, ?_⟩) (by assumption) ?_
        rotate_left
        · (intro ww hSw; (try dsimp only at hSw); go_simp; try with_reducible rfl)
        (try simp only [Act.put, List.setIfInBounds_toArray, List.set_cons_zero, List.set_cons_succ])
        refine wpAnyH_take (i := 7) (oi := { dst := some 44, op := Op.load 23 (Operand.tmp 43), type := 23, pos := "law.go:59", after := #[{ on := 6, ground := Ground.data }, { on := 2, ground := Ground.guard }], guard := some (2, false) }) (v := .agg (WK2).toArray) rfl (by kernel_rfl) (by kernel_rfl) (by kernel_rfl) (fun _ _ _ h => h) (yieldsIf_load_mid (by rfl) _ _ rfl (gs) 32 rfl (WK2) _ (fun ww hSw => hSw.2.2) Try.underlying23 rfl HIW2.out) (by assumption) ?_
        (try simp only [Act.put, List.setIfInBounds_toArray, List.set_cons_zero, List.set_cons_succ])
        refine wpAnyH_take (i := 8) (oi := { dst := some 45, op := Op.binOp BinOp.neq 23 (Operand.tmp 40) (Operand.tmp 44) 23, type := 4, pos := "law.go:59", after := #[{ on := 3, ground := Ground.data }, { on := 7, ground := Ground.data }, { on := 2, ground := Ground.guard }], guard := some (2, false) }) (v := ?_) rfl (by kernel_rfl) (by kernel_rfl) (by kernel_rfl) (fun _ _ _ h => h) (Or.inl ⟨by rfl, ?_⟩) (by assumption) ?_
        rotate_left
        · (intro ww hSw; (try dsimp only at hSw); go_simp; try with_reducible rfl)
        (try simp only [Act.put, List.setIfInBounds_toArray, List.set_cons_zero, List.set_cons_succ])
        refine wpAnyH_take (i := 9) (oi := { dst := some 46, op := Op.pick (Operand.tmp 39) (Operand.const (Value.bool true)) (Operand.tmp 45), type := 4, pos := "law.go:59", after := #[{ on := 2, ground := Ground.data }, { on := 8, ground := Ground.data }], guard := none }) (v := ?_) rfl (by kernel_rfl) (by kernel_rfl) (by kernel_rfl) (fun _ _ _ h => h) (Or.inl ⟨by rfl, ?_⟩) (by assumption) ?_
        rotate_left
        · (intro ww hSw; (try dsimp only at hSw); go_simp; try with_reducible rfl)
        (try simp only [Act.put, List.setIfInBounds_toArray, List.set_cons_zero, List.set_cons_succ])
        refine wpAnyH_done (by kernel_rfl) ?_ _
        refine NoPanic.normal ?_
        have HK9 := Lib.hid (And.left hHeld)
        clear hHeld HKR HK7
        go_wp2_with fail
        go_roundw
        case rel => exact ⟨3, by omega, by first | rfl | go_num, HK9.out.tl.tl⟩
        case measure => simp [intOf])
      refine wp_region_noPanic ?_
      refine wp_region_held_drew (S := fun w' => Kp w w.heap.size [(g4, 26, PK2), (gs, 23, LB), (w.heap.size, 23, VB)] w' ∧ w'.rangeAt g4 0 PK2) (by kernel_rfl) (kr1 HK5.out.drew) (fun hHeld => ?_)
      refine wpAnyH_take (i := 0) (oi := { dst := some 32, op := Op.load 26 (Operand.tmp 4), type := 26, pos := "law.go:58", after := #[], guard := none }) (v := .agg (PK2).toArray) rfl (by kernel_rfl) (by kernel_rfl) (by kernel_rfl) (fun _ _ _ h => h) (yieldsIf_load_mid (by rfl) _ _ rfl (g4) 0 rfl (PK2) _ (fun ww hSw => hSw.2) Try.underlying26 rfl HIP2.out) (by assumption) ?_
      (try simp only [Act.put, List.setIfInBounds_toArray, List.set_cons_zero, List.set_cons_succ])
      refine wpAnyH_ready (rs := [1, 6]) (by kernel_rfl) (by simp) ?_
      refine AllReadyH.cons (o := { dst := some 33, op := Op.call { callee := Callee.value (Operand.func 11), args := #[], argTypes := #[] }, type := 31, pos := "law.go:58", after := #[], guard := none }) rfl (fun K hK => ?_) (AllReadyH.cons (o := { dst := some 5, op := Op.alloc 23, type := 0, pos := "law.go:58", after := #[], guard := none }) rfl (fun K hK => ?_) AllReadyH.nil)
      · go_simp
        ((with_reducible refine (CH.out _).mono ?_); rintro e wA ⟨rfl, hb9⟩)
        refine hK.out _ _ (kr1 ((And.left hHeld).below hb9 (Nat.le_refl _))) (fun hHeld => ?_)
        clear hK K
        (try simp only [Act.put, List.setIfInBounds_toArray, List.set_cons_zero, List.set_cons_succ])
        refine wpAnyH_ready (rs := [2, 6]) (by kernel_rfl) (by simp) ?_
        refine AllReadyH.cons (o := { dst := some 34, op := Op.call { callee := Callee.value (Operand.func 10), args := #[Operand.tmp 32, Operand.tmp 33], argTypes := #[26, 31] }, type := 28, pos := "law.go:58", after := #[{ on := 0, ground := Ground.data }, { on := 1, ground := Ground.data }, { on := 1, ground := Ground.chain }], guard := none }) rfl (fun K hK => ?_) (AllReadyH.cons (o := { dst := some 5, op := Op.alloc 23, type := 0, pos := "law.go:58", after := #[], guard := none }) rfl (fun K hK => ?_) AllReadyH.nil)
        · go_simp
          ((with_reducible refine (CE2.out _).mono ?_); rintro e wB ⟨rfl, hb9⟩)
          refine hK.out _ _ (kr1 ((And.left hHeld).below hb9 (Nat.le_refl _))) (fun hHeld => ?_)
          clear hK K
          (try simp only [Act.put, List.setIfInBounds_toArray, List.set_cons_zero, List.set_cons_succ])
          refine wpAnyH_take (i := 3) (oi := { dst := some 31, op := Op.move (Operand.tmp 34), type := 28, pos := "law.go:58", after := #[{ on := 2, ground := Ground.data }], guard := none }) (v := ?_) rfl (by kernel_rfl) (by kernel_rfl) (by kernel_rfl) (fun _ _ _ h => h) (Or.inl ⟨by rfl, ?_⟩) (by assumption) ?_
          rotate_left
          · (intro ww hSw; (try dsimp only at hSw); go_simp; try with_reducible rfl)
          (try simp only [Act.put, List.setIfInBounds_toArray, List.set_cons_zero, List.set_cons_succ])
          refine wpAnyH_take (i := 4) (oi := { dst := some 35, op := Op.extract (Operand.tmp 31) 0, type := 23, pos := "law.go:58", after := #[{ on := 3, ground := Ground.data }], guard := none }) (v := ?_) rfl (by kernel_rfl) (by kernel_rfl) (by kernel_rfl) (fun _ _ _ h => h) (Or.inl ⟨by rfl, ?_⟩) (by assumption) ?_
          rotate_left
          · (intro ww hSw; (try dsimp only at hSw); go_simp; try with_reducible rfl)
          (try simp only [Act.put, List.setIfInBounds_toArray, List.set_cons_zero, List.set_cons_succ])
          refine wpAnyH_take (i := 5) (oi := { dst := some 36, op := Op.extract (Operand.tmp 31) 1, type := 4, pos := "law.go:58", after := #[{ on := 3, ground := Ground.data }, { on := 7, ground := Ground.gcOnly Departure.lateStores }], guard := none }) (v := ?_) rfl (by kernel_rfl) (by kernel_rfl) (by kernel_rfl) (fun _ _ _ h => h) (Or.inl ⟨by rfl, ?_⟩) (by assumption) ?_
          rotate_left
          · (intro ww hSw; (try dsimp only at hSw); go_simp; try with_reducible rfl)
          (try simp only [Act.put, List.setIfInBounds_toArray, List.set_cons_zero, List.set_cons_succ])
          refine wpAnyH_ready (rs := [6]) (by kernel_rfl) (by simp) ?_
          refine AllReadyH.cons (o := { dst := some 5, op := Op.alloc 23, type := 0, pos := "law.go:58", after := #[], guard := none }) rfl (fun K hK => ?_) AllReadyH.nil
          have hnw := (And.left hHeld).2.2
          have hne := fun x hx => (And.left hHeld).ne x hx
          go_simp
          refine hK.out _ _ (kr1 ((And.left hHeld).alloc _)) (fun hHeld => ?_)
          clear hK K
          (try simp only [Act.put, List.setIfInBounds_toArray, List.set_cons_zero, List.set_cons_succ])
          have hA := bk_new (wB) 23 ([.int .u8 0, .int .u8 0, .int .u8 0, .int .u8 0, .int .u8 0, .int .u8 0, .int .u8 0, .int .u8 0, .int .u8 0, .int .u8 0, .int .u8 0, .int .u8 0, .int .u8 0, .int .u8 0, .int .u8 0, .int .u8 0] : List Value).toArray
          refine wpAnyH_ready (rs := [7]) (by kernel_rfl) (by simp) ?_
          refine AllReadyH.cons (o := { dst := none, op := Op.store 23 (Operand.tmp 5) (Operand.tmp 35), type := 0, pos := "law.go:58", after := #[{ on := 6, ground := Ground.data }, { on := 4, ground := Ground.data }, { on := 2, ground := Ground.chain }, { on := 0, ground := Ground.phase }, { on := 1, ground := Ground.phase }, { on := 2, ground := Ground.phase }, { on := 3, ground := Ground.phase }, { on := 4, ground := Ground.phase }, { on := 5, ground := Ground.textOnly Departure.lateStores }, { on := 6, ground := Ground.phase }], guard := none }) rfl (fun K hK => ?_) AllReadyH.nil
          rw [if_pos (by rfl)]
          have hS := Bk.sets WK2 0 _ _ hA
          rw [puts_whole ([.int .u8 0, .int .u8 0, .int .u8 0, .int .u8 0, .int .u8 0, .int .u8 0, .int .u8 0, .int .u8 0, .int .u8 0, .int .u8 0, .int .u8 0, .int .u8 0, .int .u8 0, .int .u8 0, .int .u8 0, .int .u8 0] : List Value).toArray WK2 (by have := HLW2.out; simp; omega)] at hS
          refine wp_store_mid 23 _ _ rfl (wB).heap.size 0 WK2.toArray rfl rfl (hA.there _ (by have := HLW2.out; simp; omega)) (by simpa using HIW2.out) HOW2.out ?_
          refine hK.out _ _ (kr1 ((And.left hHeld).sets hne hnw 0 WK2)) (fun hHeld => ?_)
          clear hK K
          (try simp only [Act.put])
          refine wpAnyH_take (i := 8) (oi := { dst := some 6, op := Op.assign (Operand.tmp 36), type := 4, pos := "law.go:58", after := #[{ on := 5, ground := Ground.data }, { on := 7, ground := Ground.chain }, { on := 0, ground := Ground.phase }, { on := 1, ground := Ground.phase }, { on := 2, ground := Ground.phase }, { on := 3, ground := Ground.phase }, { on := 4, ground := Ground.phase }, { on := 5, ground := Ground.phase }, { on := 6, ground := Ground.phase }, { on := 7, ground := Ground.phase }], guard := none }) (v := ?_) rfl (by kernel_rfl) (by kernel_rfl) (by kernel_rfl) (fun _ _ _ h => h) (Or.inl ⟨by rfl, ?_⟩) (by assumption) ?_
          rotate_left
          · (intro ww hSw; (try dsimp only at hSw); go_simp; try with_reducible rfl)
          (try simp only [Act.put, List.setIfInBounds_toArray, List.set_cons_zero, List.set_cons_succ])
          refine wpAnyH_done (by kernel_rfl) ?_ _
          refine NoPanic.normal ?_
          exact key.out _ _ hS (And.left hHeld)
        · have hnw := (And.left hHeld).2.2
          have hne := fun x hx => (And.left hHeld).ne x hx
          go_simp
          refine hK.out _ _ (kr1 ((And.left hHeld).alloc _)) (fun hHeld => ?_)
          clear hK K
          (try simp only [Act.put, List.setIfInBounds_toArray, List.set_cons_zero, List.set_cons_succ])
          have hA := bk_new (wA) 23 ([.int .u8 0, .int .u8 0, .int .u8 0, .int .u8 0, .int .u8 0, .int .u8 0, .int .u8 0, .int .u8 0, .int .u8 0, .int .u8 0, .int .u8 0, .int .u8 0, .int .u8 0, .int .u8 0, .int .u8 0, .int .u8 0] : List Value).toArray
          refine wpAnyH_ready (rs := [2]) (by kernel_rfl) (by simp) ?_
          refine AllReadyH.cons (o := { dst := some 34, op := Op.call { callee := Callee.value (Operand.func 10), args := #[Operand.tmp 32, Operand.tmp 33], argTypes := #[26, 31] }, type := 28, pos := "law.go:58", after := #[{ on := 0, ground := Ground.data }, { on := 1, ground := Ground.data }, { on := 1, ground := Ground.chain }], guard := none }) rfl (fun K hK => ?_) AllReadyH.nil
          go_simp
          ((with_reducible refine (CE2.out _).mono ?_); rintro e wB ⟨rfl, hb9⟩)
          refine hK.out _ _ (kr1 ((And.left hHeld).below hb9 (Nat.le_refl _))) (fun hHeld => ?_)
          clear hK K
          (try simp only [Act.put, List.setIfInBounds_toArray, List.set_cons_zero, List.set_cons_succ])
          have hA := hA.below hb9 hA.lt
          refine wpAnyH_take (i := 3) (oi := { dst := some 31, op := Op.move (Operand.tmp 34), type := 28, pos := "law.go:58", after := #[{ on := 2, ground := Ground.data }], guard := none }) (v := ?_) rfl (by kernel_rfl) (by kernel_rfl) (by kernel_rfl) (fun _ _ _ h => h) (Or.inl ⟨by rfl, ?_⟩) (by assumption) ?_
          rotate_left
          · (intro ww hSw; (try dsimp only at hSw); go_simp; try with_reducible rfl)
          (try simp only [Act.put, List.setIfInBounds_toArray, List.set_cons_zero, List.set_cons_succ])
          refine wpAnyH_take (i := 4) (oi := { dst := some 35, op := Op.extract (Operand.tmp 31) 0, type := 23, pos := "law.go:58", after := #[{ on := 3, ground := Ground.data }], guard := none }) (v := ?_) rfl (by kernel_rfl) (by kernel_rfl) (by kernel_rfl) (fun _ _ _ h => h) (Or.inl ⟨by rfl, ?_⟩) (by assumption) ?_
          rotate_left
          · (intro ww hSw; (try dsimp only at hSw); go_simp; try with_reducible rfl)
          (try simp only [Act.put, List.setIfInBounds_toArray, List.set_cons_zero, List.set_cons_succ])
          refine wpAnyH_take (i := 5) (oi := { dst := some 36, op := Op.extract (Operand.tmp 31) 1, type := 4, pos := "law.go:58", after := #[{ on := 3, ground := Ground.data }, { on := 7, ground := Ground.gcOnly Departure.lateStores }], guard := none }) (v := ?_) rfl (by kernel_rfl) (by kernel_rfl) (by kernel_rfl) (fun _ _ _ h => h) (Or.inl ⟨by rfl, ?_⟩) (by assumption) ?_
          rotate_left
          · (intro ww hSw; (try dsimp only at hSw); go_simp; try with_reducible rfl)
          (try simp only [Act.put, List.setIfInBounds_toArray, List.set_cons_zero, List.set_cons_succ])
          refine wpAnyH_ready (rs := [7]) (by kernel_rfl) (by simp) ?_
          refine AllReadyH.cons (o := { dst := none, op := Op.store 23 (Operand.tmp 5) (Operand.tmp 35), type := 0, pos := "law.go:58", after := #[{ on := 6, ground := Ground.data }, { on := 4, ground := Ground.data }, { on := 2, ground := Ground.chain }, { on := 0, ground := Ground.phase }, { on := 1, ground := Ground.phase }, { on := 2, ground := Ground.phase }, { on := 3, ground := Ground.phase }, { on := 4, ground := Ground.phase }, { on := 5, ground := Ground.textOnly Departure.lateStores }, { on := 6, ground := Ground.phase }], guard := none }) rfl (fun K hK => ?_) AllReadyH.nil
          rw [if_pos (by rfl)]
          have hS := Bk.sets WK2 0 _ _ hA
          rw [puts_whole ([.int .u8 0, .int .u8 0, .int .u8 0, .int .u8 0, .int .u8 0, .int .u8 0, .int .u8 0, .int .u8 0, .int .u8 0, .int .u8 0, .int .u8 0, .int .u8 0, .int .u8 0, .int .u8 0, .int .u8 0, .int .u8 0] : List Value).toArray WK2 (by have := HLW2.out; simp; omega)] at hS
          refine wp_store_mid 23 _ _ rfl (wA).heap.size 0 WK2.toArray rfl rfl (hA.there _ (by have := HLW2.out; simp; omega)) (by simpa using HIW2.out) HOW2.out ?_
          refine hK.out _ _ (kr1 ((And.left hHeld).sets hne hnw 0 WK2)) (fun hHeld => ?_)
          clear hK K
          (try simp only [Act.put])
          refine wpAnyH_take (i := 8) (oi := { dst := some 6, op := Op.assign (Operand.tmp 36), type := 4, pos := "law.go:58", after := #[{ on := 5, ground := Ground.data }, { on := 7, ground := Ground.chain }, { on := 0, ground := Ground.phase }, { on := 1, ground := Ground.phase }, { on := 2, ground := Ground.phase }, { on := 3, ground := Ground.phase }, { on := 4, ground := Ground.phase }, { on := 5, ground := Ground.phase }, { on := 6, ground := Ground.phase }, { on := 7, ground := Ground.phase }], guard := none }) (v := ?_) rfl (by kernel_rfl) (by kernel_rfl) (by kernel_rfl) (fun _ _ _ h => h) (Or.inl ⟨by rfl, ?_⟩) (by assumption) ?_
          rotate_left
          · (intro ww hSw; (try dsimp only at hSw); go_simp; try with_reducible rfl)
          (try simp only [Act.put, List.setIfInBounds_toArray, List.set_cons_zero, List.set_cons_succ])
          refine wpAnyH_done (by kernel_rfl) ?_ _
          refine NoPanic.normal ?_
          exact key.out _ _ hS (And.left hHeld)
      · have hnw := (And.left hHeld).2.2
        have hne := fun x hx => (And.left hHeld).ne x hx
        go_simp
        refine hK.out _ _ (kr1 ((And.left hHeld).alloc _)) (fun hHeld => ?_)
        clear hK K
        (try simp only [Act.put, List.setIfInBounds_toArray, List.set_cons_zero, List.set_cons_succ])
        have hA := bk_new (w5.drew) 23 ([.int .u8 0, .int .u8 0, .int .u8 0, .int .u8 0, .int .u8 0, .int .u8 0, .int .u8 0, .int .u8 0, .int .u8 0, .int .u8 0, .int .u8 0, .int .u8 0, .int .u8 0, .int .u8 0, .int .u8 0, .int .u8 0] : List Value).toArray
        refine wpAnyH_ready (rs := [1]) (by kernel_rfl) (by simp) ?_
        refine AllReadyH.cons (o := { dst := some 33, op := Op.call { callee := Callee.value (Operand.func 11), args := #[], argTypes := #[] }, type := 31, pos := "law.go:58", after := #[], guard := none }) rfl (fun K hK => ?_) AllReadyH.nil
        go_simp
        ((with_reducible refine (CH.out _).mono ?_); rintro e wA ⟨rfl, hb9⟩)
        refine hK.out _ _ (kr1 ((And.left hHeld).below hb9 (Nat.le_refl _))) (fun hHeld => ?_)
        clear hK K
        (try simp only [Act.put, List.setIfInBounds_toArray, List.set_cons_zero, List.set_cons_succ])
        have hA := hA.below hb9 hA.lt
        refine wpAnyH_ready (rs := [2]) (by kernel_rfl) (by simp) ?_
        refine AllReadyH.cons (o := { dst := some 34, op := Op.call { callee := Callee.value (Operand.func 10), args := #[Operand.tmp 32, Operand.tmp 33], argTypes := #[26, 31] }, type := 28, pos := "law.go:58", after := #[{ on := 0, ground := Ground.data }, { on := 1, ground := Ground.data }, { on := 1, ground := Ground.chain }], guard := none }) rfl (fun K hK => ?_) AllReadyH.nil
        go_simp
        ((with_reducible refine (CE2.out _).mono ?_); rintro e wB ⟨rfl, hb9⟩)
        refine hK.out _ _ (kr1 ((And.left hHeld).below hb9 (Nat.le_refl _))) (fun hHeld => ?_)
        clear hK K
        (try simp only [Act.put, List.setIfInBounds_toArray, List.set_cons_zero, List.set_cons_succ])
        have hA := hA.below hb9 hA.lt
        refine wpAnyH_take (i := 3) (oi := { dst := some 31, op := Op.move (Operand.tmp 34), type := 28, pos := "law.go:58", after := #[{ on := 2, ground := Ground.data }], guard := none }) (v := ?_) rfl (by kernel_rfl) (by kernel_rfl) (by kernel_rfl) (fun _ _ _ h => h) (Or.inl ⟨by rfl, ?_⟩) (by assumption) ?_
        rotate_left
        · (intro ww hSw; (try dsimp only at hSw); go_simp; try with_reducible rfl)
        (try simp only [Act.put, List.setIfInBounds_toArray, List.set_cons_zero, List.set_cons_succ])
        refine wpAnyH_take (i := 4) (oi := { dst := some 35, op := Op.extract (Operand.tmp 31) 0, type := 23, pos := "law.go:58", after := #[{ on := 3, ground := Ground.data }], guard := none }) (v := ?_) rfl (by kernel_rfl) (by kernel_rfl) (by kernel_rfl) (fun _ _ _ h => h) (Or.inl ⟨by rfl, ?_⟩) (by assumption) ?_
        rotate_left
        · (intro ww hSw; (try dsimp only at hSw); go_simp; try with_reducible rfl)
        (try simp only [Act.put, List.setIfInBounds_toArray, List.set_cons_zero, List.set_cons_succ])
        refine wpAnyH_take (i := 5) (oi := { dst := some 36, op := Op.extract (Operand.tmp 31) 1, type := 4, pos := "law.go:58", after := #[{ on := 3, ground := Ground.data }, { on := 7, ground := Ground.gcOnly Departure.lateStores }], guard := none }) (v := ?_) rfl (by kernel_rfl) (by kernel_rfl) (by kernel_rfl) (fun _ _ _ h => h) (Or.inl ⟨by rfl, ?_⟩) (by assumption) ?_
        rotate_left
        · (intro ww hSw; (try dsimp only at hSw); go_simp; try with_reducible rfl)
        (try simp only [Act.put, List.setIfInBounds_toArray, List.set_cons_zero, List.set_cons_succ])
        refine wpAnyH_ready (rs := [7]) (by kernel_rfl) (by simp) ?_
        refine AllReadyH.cons (o := { dst := none, op := Op.store 23 (Operand.tmp 5) (Operand.tmp 35), type := 0, pos := "law.go:58", after := #[{ on := 6, ground := Ground.data }, { on := 4, ground := Ground.data }, { on := 2, ground := Ground.chain }, { on := 0, ground := Ground.phase }, { on := 1, ground := Ground.phase }, { on := 2, ground := Ground.phase }, { on := 3, ground := Ground.phase }, { on := 4, ground := Ground.phase }, { on := 5, ground := Ground.textOnly Departure.lateStores }, { on := 6, ground := Ground.phase }], guard := none }) rfl (fun K hK => ?_) AllReadyH.nil
        rw [if_pos (by rfl)]
        have hS := Bk.sets WK2 0 _ _ hA
        rw [puts_whole ([.int .u8 0, .int .u8 0, .int .u8 0, .int .u8 0, .int .u8 0, .int .u8 0, .int .u8 0, .int .u8 0, .int .u8 0, .int .u8 0, .int .u8 0, .int .u8 0, .int .u8 0, .int .u8 0, .int .u8 0, .int .u8 0] : List Value).toArray WK2 (by have := HLW2.out; simp; omega)] at hS
        refine wp_store_mid 23 _ _ rfl (w5.drew).heap.size 0 WK2.toArray rfl rfl (hA.there _ (by have := HLW2.out; simp; omega)) (by simpa using HIW2.out) HOW2.out ?_
        refine hK.out _ _ (kr1 ((And.left hHeld).sets hne hnw 0 WK2)) (fun hHeld => ?_)
        clear hK K
        (try simp only [Act.put])
        refine wpAnyH_take (i := 8) (oi := { dst := some 6, op := Op.assign (Operand.tmp 36), type := 4, pos := "law.go:58", after := #[{ on := 5, ground := Ground.data }, { on := 7, ground := Ground.chain }, { on := 0, ground := Ground.phase }, { on := 1, ground := Ground.phase }, { on := 2, ground := Ground.phase }, { on := 3, ground := Ground.phase }, { on := 4, ground := Ground.phase }, { on := 5, ground := Ground.phase }, { on := 6, ground := Ground.phase }, { on := 7, ground := Ground.phase }], guard := none }) (v := ?_) rfl (by kernel_rfl) (by kernel_rfl) (by kernel_rfl) (fun _ _ _ h => h) (Or.inl ⟨by rfl, ?_⟩) (by assumption) ?_
        rotate_left
        · (intro ww hSw; (try dsimp only at hSw); go_simp; try with_reducible rfl)
        (try simp only [Act.put, List.setIfInBounds_toArray, List.set_cons_zero, List.set_cons_succ])
        refine wpAnyH_done (by kernel_rfl) ?_ _
        refine NoPanic.normal ?_
        exact key.out _ _ hS (And.left hHeld)
    · have ht := (bk_new wr 26 ([.int .u8 0, .int .u8 0, .int .u8 0, .int .u8 0, .int .u8 0, .int .u8 0, .int .u8 0, .int .u8 0, .int .u8 0, .int .u8 0, .int .u8 0, .int .u8 0, .int .u8 0, .int .u8 0, .int .u8 0, .int .u8 0, .int .i64 0] : List Value).toArray).there ZN3.toArray.size (by have := HLN3.out; simp; omega)
      go_upto_region 7 with (first | (refine Great.wpList_readTo rfl _ rfl (.agg ZN3.toArray) (run_exec rfl (by rw [List.map_toArray]; rfl) (BP3.out _)) ?_) | (refine wpList_store_mid rfl 26 _ _ rfl wr.heap.size 0 ZN3.toArray rfl rfl ht (by simpa using HIN3.out) HON3.out ?_))
      have HK4 := Lib.hid (HK3.out.put 26 ([.int .u8 0, .int .u8 0, .int .u8 0, .int .u8 0, .int .u8 0, .int .u8 0, .int .u8 0, .int .u8 0, .int .u8 0, .int .u8 0, .int .u8 0, .int .u8 0, .int .u8 0, .int .u8 0, .int .u8 0, .int .u8 0, .int .i64 0] : List Value).toArray ZN3 (by have := HLN3.out; simp; omega))
      have HN4 := Lib.hid HK3.out.ne
      have HB4 := Lib.hid HK3.out.2.2
      clear ht HK3
      generalize (wr.alloc (.cells ([.int .u8 0, .int .u8 0, .int .u8 0, .int .u8 0, .int .u8 0, .int .u8 0, .int .u8 0, .int .u8 0, .int .u8 0, .int .u8 0, .int .u8 0, .int .u8 0, .int .u8 0, .int .u8 0, .int .u8 0, .int .u8 0, .int .i64 0] : List Value).toArray 26)).setCells wr.heap.size 0 ZN3 = w4 at *
      generalize wr.heap.size = g4 at *
      have hcp := copy_in w4.drew g4 w.heap.size 7 26 23 ZN3 VB CS3 HK4.out.drew.hd HK4.out.drew.tl.tl.hd HCS3.out.symm HCB3.out (by omega) (by have := HLN3.out; omega) HOB.out
      have HCP := Lib.hid hcp
      clear hcp
      have HS4 := Lib.hid (HK4.out.drew.hd.at HN163.out)
      have HK5 := Lib.hid (kp_over2 HK4.out.drew HN4.out HB4.out CS3 HPP3.out (by have := HCB3.out; have := HLN3.out; omega))
      have hc5 := HK5.out.hd.at HP163.out
      have HC5 := Lib.hid hc5
      clear hc5 HK4 HN4 HB4
      have k2 : IntKind.i64.wrap (7 : Int) = 7 := by decide
      refine wp_region_noPanic ?_
      refine wp_region_held_drew (S := fun w' => w'.cell? ⟨g4, 16, none⟩ = some (.int .i64 56)) (by kernel_rfl) (HS4.out) (fun hHeld => ?_)
      refine wpAnyH_take (i := 0) (oi := { dst := some 24, op := Op.fieldAddr 26 (Operand.tmp 4) 0, type := 0, pos := "law.go:57", after := #[], guard := none }) (v := ?_) rfl (by kernel_rfl) (by kernel_rfl) (by kernel_rfl) (fun _ _ _ h => h) (Or.inl ⟨by rfl, ?_⟩) (by assumption) ?_
      rotate_left
      · (intro ww hSw; (try dsimp only at hSw); go_simp; try with_reducible rfl)
      (try simp only [Act.put, List.setIfInBounds_toArray, List.set_cons_zero, List.set_cons_succ])
      refine wpAnyH_take (i := 1) (oi := { dst := some 25, op := Op.fieldAddr 26 (Operand.tmp 4) 1, type := 0, pos := "law.go:57", after := #[], guard := none }) (v := ?_) rfl (by kernel_rfl) (by kernel_rfl) (by kernel_rfl) (fun _ _ _ h => h) (Or.inl ⟨by rfl, ?_⟩) (by assumption) ?_
      rotate_left
      · (intro ww hSw; (try dsimp only at hSw); go_simp; try with_reducible rfl)
      (try simp only [Act.put, List.setIfInBounds_toArray, List.set_cons_zero, List.set_cons_succ])
      refine wpAnyH_take (i := 2) (oi := { dst := some 26, op := Op.load 3 (Operand.tmp 25), type := 3, pos := "law.go:57", after := #[{ on := 1, ground := Ground.data }], guard := none }) (v := ?_) rfl (by kernel_rfl) (by kernel_rfl) (by kernel_rfl) (fun _ _ _ h => h) (Or.inl ⟨by rfl, ?_⟩) (by assumption) ?_
      rotate_left
      · (intro ww hSw; (try dsimp only at hSw); go_simp; try with_reducible rfl)
      (try simp only [Act.put, List.setIfInBounds_toArray, List.set_cons_zero, List.set_cons_succ])
      refine wpAnyH_take (i := 3) (oi := { dst := some 27, op := Op.binOp BinOp.quo 3 (Operand.tmp 26) (Operand.const (Value.int IntKind.i64 8)) 3, type := 3, pos := "law.go:57", after := #[{ on := 2, ground := Ground.data }], guard := none }) (v := ?_) rfl (by kernel_rfl) (by kernel_rfl) (by kernel_rfl) (fun _ _ _ h => h) (Or.inl ⟨by rfl, ?_⟩) (by assumption) ?_
      rotate_left
      · (intro ww hSw; (try dsimp only at hSw); go_simp; try with_reducible rfl)
      (try simp only [Act.put, List.setIfInBounds_toArray, List.set_cons_zero, List.set_cons_succ])
      refine wpAnyH_take (i := 4) (oi := { dst := some 28, op := Op.slice 23 (Operand.tmp 24) none (some (Operand.tmp 27)) none, type := 27, pos := "law.go:57", after := #[{ on := 0, ground := Ground.data }, { on := 3, ground := Ground.data }], guard := none }) (v := ?_) rfl (by kernel_rfl) (by kernel_rfl) (by kernel_rfl) (fun _ _ _ h => h) (Or.inl ⟨by rfl, ?_⟩) (by assumption) ?_
      rotate_left
      · (intro ww hSw; (try dsimp only at hSw); go_simp; try with_reducible rfl)
      (try simp only [Act.put, List.setIfInBounds_toArray, List.set_cons_zero, List.set_cons_succ])
      refine wpAnyH_take (i := 5) (oi := { dst := some 29, op := Op.slice 23 (Operand.tmp 1) none none none, type := 27, pos := "law.go:57", after := #[], guard := none }) (v := ?_) rfl (by kernel_rfl) (by kernel_rfl) (by kernel_rfl) (fun _ _ _ h => h) (Or.inl ⟨by rfl, ?_⟩) (by assumption) ?_
      rotate_left
      · (intro ww hSw; (try dsimp only at hSw); go_simp; try with_reducible rfl)
      (try simp only [Act.put, List.setIfInBounds_toArray, List.set_cons_zero, List.set_cons_succ])
      refine wpAnyH_ready (rs := [6]) (by kernel_rfl) (by simp) ?_
      refine AllReadyH.cons (o := { dst := some 30, op := Op.call { callee := Callee.builtin Builtin.copy, args := #[Operand.tmp 28, Operand.tmp 29], argTypes := #[27, 27] }, type := 3, pos := "law.go:57", after := #[{ on := 4, ground := Ground.data }, { on := 5, ground := Ground.data }], guard := none }) rfl (fun K hK => ?_) AllReadyH.nil
      rw [if_pos (by rfl)]
      refine Lib.wp_copy_run _ _ _ 27 27 rfl _ _ rfl rfl HCP.out ?_
      refine hK.out _ _ (HC5.out) (fun hHeld => ?_)
      clear hK K
      (try simp only [Act.put, List.setIfInBounds_toArray, List.set_cons_zero, List.set_cons_succ])
      refine wpAnyH_done (by kernel_rfl) ?_ _
      refine NoPanic.normal ?_
      clear hHeld HS4 HC5 HCP k2
      generalize w4.drew.setCells g4 0 CS3 = w5 at *
      go_upto_region 8 with (fail)
      rename_i KK hKK
      have key : Hid (∀ (g5 : Nat) (w7 : World), Bk w7 g5 23 WK3.toArray → Kp w w.heap.size [(g4, 26, PK3), (gs, 23, LB), (w.heap.size, 23, VB)] w7 → KK {tmps := #[u0, .pointer (some ⟨w.heap.size, 0, none⟩), .slice (some ⟨gs, 0, none⟩) 5 5, .int .i64 3, .pointer (some ⟨g4, 0, none⟩), .pointer (some ⟨g5, 0, none⟩), .bool true, undef, undef, .agg VB.toArray, .agg WK0.toArray, .agg WK1.toArray, .agg WK2.toArray, .agg WK3.toArray, .agg WK4.toArray, .slice (some ⟨gs, 0, none⟩) 5 5, .int .i64 3, .bool true, u18, u19, .int .i64 3, .int .i64 24, .int .i64 56, .agg ZN3.toArray, .pointer (some ⟨g4, 0, none⟩), .pointer (some ⟨g4, 16, none⟩), .int .i64 56, .int .i64 7, .slice (some ⟨g4, 0, none⟩) 7 16, .slice (some ⟨w.heap.size, 0, none⟩) 16 16, .int .i64 7, .tuple #[.agg WK3.toArray, .bool true], .agg PK3.toArray, .agg VH.toArray, .tuple #[.agg WK3.toArray, .bool true], .agg WK3.toArray, .bool true, u37, u38, u39, u40, u41, u42, u43, u44, u45, u46, undef, undef, undef, undef, undef, undef, undef, undef, undef, undef, undef, undef, undef, undef, undef, undef, undef, undef, undef, undef, undef, undef, undef, undef, undef, undef, undef, undef, undef, undef, undef, undef, undef], defers := []} w7) := Lib.hid (by
        intro g5 w7 h2 h3
        refine hKK _ _ ?_
        have HK7 := Lib.hid (kp_cons h2 h3)
        clear h2 h3 hKK
        go_upto_region 9 with (fail)
        have HKR := Lib.hid (show ∀ W : World, Kp w w.heap.size ((g5, 23, WK3) :: [(g4, 26, PK3), (gs, 23, LB), (w.heap.size, 23, VB)]) W → Kp w w.heap.size ((g5, 23, WK3) :: [(g4, 26, PK3), (gs, 23, LB), (w.heap.size, 23, VB)]) W ∧ W.rangeAt g5 0 WK3 ∧ W.rangeAt gs 48 WK3 from fun W k => ⟨k, k.hd.range, range_mid k.tl.tl.hd HM3.out⟩)
        refine wp_region_noPanic ?_
        refine wp_region_held_drew (S := fun w' => Kp w w.heap.size ((g5, 23, WK3) :: [(g4, 26, PK3), (gs, 23, LB), (w.heap.size, 23, VB)]) w' ∧ w'.rangeAt g5 0 WK3 ∧ w'.rangeAt gs 48 WK3) (by kernel_rfl) (HKR.out _ HK7.out.drew) (fun hHeld => ?_)
        refine wpAnyH_take (i := 0) (oi := { dst := some 37, op := Op.move (Operand.tmp 6), type := 4, pos := "law.go:59", after := #[], guard := none }) (v := ?_) rfl (by kernel_rfl) (by kernel_rfl) (by kernel_rfl) (fun _ _ _ h => h) (Or.inl ⟨by rfl, ?_⟩) (by assumption) ?_
        rotate_left
        · (intro ww hSw; (try dsimp only at hSw); go_simp; try with_reducible rfl)
        (try simp only [Act.put, List.setIfInBounds_toArray, List.set_cons_zero, List.set_cons_succ])
        refine wpAnyH_take (i := 1) (oi := { dst := some 38, op := Op.unOp UnOp.not 4 (Operand.tmp 37), type := 4, pos := "law.go:59", after := #[{ on := 0, ground := Ground.data }], guard := none }) (v := ?_) rfl (by kernel_rfl) (by kernel_rfl) (by kernel_rfl) (fun _ _ _ h => h) (Or.inl ⟨by rfl, ?_⟩) (by assumption) ?_
        rotate_left
        · (intro ww hSw; (try dsimp only at hSw); go_simp; try with_reducible rfl)
        (try simp only [Act.put, List.setIfInBounds_toArray, List.set_cons_zero, List.set_cons_succ])
        refine wpAnyH_take (i := 2) (oi := { dst := some 39, op := Op.move (Operand.tmp 38), type := 4, pos := "law.go:59", after := #[{ on := 1, ground := Ground.data }], guard := none }) (v := ?_) rfl (by kernel_rfl) (by kernel_rfl) (by kernel_rfl) (fun _ _ _ h => h) (Or.inl ⟨by rfl, ?_⟩) (by assumption) ?_
        rotate_left
        · (intro ww hSw; (try dsimp only at hSw); go_simp; try with_reducible rfl)
        (try simp only [Act.put, List.setIfInBounds_toArray, List.set_cons_zero, List.set_cons_succ])
        refine wpAnyH_take (i := 3) (oi := { dst := some 40, op := Op.load 23 (Operand.tmp 5), type := 23, pos := "law.go:59", after := #[{ on := 2, ground := Ground.guard }], guard := some (2, false) }) (v := .agg (WK3).toArray) rfl (by kernel_rfl) (by kernel_rfl) (by kernel_rfl) (fun _ _ _ h => h) (yieldsIf_load_mid (by rfl) _ _ rfl (g5) 0 rfl (WK3) _ (fun ww hSw => hSw.2.1) Try.underlying23 rfl HIW3.out) (by assumption) ?_
        (try simp only [Act.put, List.setIfInBounds_toArray, List.set_cons_zero, List.set_cons_succ])
        refine wpAnyH_take (i := 4) (oi := { dst := some 41, op := Op.move (Operand.tmp 2), type := 24, pos := "law.go:59", after := #[{ on := 2, ground := Ground.guard }], guard := some (2, false) }) (v := ?_) rfl (by kernel_rfl) (by kernel_rfl) (by kernel_rfl) (fun _ _ _ h => h) (Or.inl ⟨by rfl, ?_⟩) (by assumption) ?_
        rotate_left
        · (intro ww hSw; (try dsimp only at hSw); go_simp; try with_reducible rfl)
        (try simp only [Act.put, List.setIfInBounds_toArray, List.set_cons_zero, List.set_cons_succ])
        refine wpAnyH_take (i := 5) (oi := { dst := some 42, op := Op.move (Operand.tmp 3), type := 3, pos := "law.go:59", after := #[{ on := 2, ground := Ground.guard }], guard := some (2, false) }) (v := ?_) rfl (by kernel_rfl) (by kernel_rfl) (by kernel_rfl) (fun _ _ _ h => h) (Or.inl ⟨by rfl, ?_⟩) (by assumption) ?_
        rotate_left
        · (intro ww hSw; (try dsimp only at hSw); go_simp; try with_reducible rfl)
        (try simp only [Act.put, List.setIfInBounds_toArray, List.set_cons_zero, List.set_cons_succ])
        refine wpAnyH_take (i := 6) (oi := { dst := some 43, op := Op.indexAddr 24 (Operand.tmp 41) (Operand.tmp 42), type := 0, pos := "law.go:59", after := #[{ on := 4, ground := Ground.data }, { on := 5, ground := Ground.data }, { on := 2, ground := Ground.guard }], guard := some (2, false) }) (v := ?_) rfl (by kernel_rfl) (by kernel_rfl) (by kernel_rfl) (fun _ _ _ h => h) (Or.inl ⟨by rfl, ?_⟩) (by assumption) ?_
        rotate_left
        · (intro ww hSw; (try dsimp only at hSw); go_simp; try with_reducible rfl)
        (try simp only [Act.put, List.setIfInBounds_toArray, List.set_cons_zero, List.set_cons_succ])
        refine wpAnyH_take (i := 7) (oi := { dst := some 44, op := Op.load 23 (Operand.tmp 43), type := 23, pos := "law.go:59", after := #[{ on := 6, ground := Ground.data }, { on := 2, ground := Ground.guard }], guard := some (2, false) }) (v := .agg (WK3).toArray) rfl (by kernel_rfl) (by kernel_rfl) (by kernel_rfl) (fun _ _ _ h => h) (yieldsIf_load_mid (by rfl) _ _ rfl (gs) 48 rfl (WK3) _ (fun ww hSw => hSw.2.2) Try.underlying23 rfl HIW3.out) (by assumption) ?_
        (try simp only [Act.put, List.setIfInBounds_toArray, List.set_cons_zero, List.set_cons_succ])
        refine wpAnyH_take (i := 8) (oi := { dst := some 45, op := Op.binOp BinOp.neq 23 (Operand.tmp 40) (Operand.tmp 44) 23, type := 4, pos := "law.go:59", after := #[{ on := 3, ground := Ground.data }, { on := 7, ground := Ground.data }, { on := 2, ground := Ground.guard }], guard := some (2, false) }) (v := ?_) rfl (by kernel_rfl) (by kernel_rfl) (by kernel_rfl) (fun _ _ _ h => h) (Or.inl ⟨by rfl, ?_⟩) (by assumption) ?_
        rotate_left
        · (intro ww hSw; (try dsimp only at hSw); go_simp; try with_reducible rfl)
        (try simp only [Act.put, List.setIfInBounds_toArray, List.set_cons_zero, List.set_cons_succ])
        refine wpAnyH_take (i := 9) (oi := { dst := some 46, op := Op.pick (Operand.tmp 39) (Operand.const (Value.bool true)) (Operand.tmp 45), type := 4, pos := "law.go:59", after := #[{ on := 2, ground := Ground.data }, { on := 8, ground := Ground.data }], guard := none }) (v := ?_) rfl (by kernel_rfl) (by kernel_rfl) (by kernel_rfl) (fun _ _ _ h => h) (Or.inl ⟨by rfl, ?_⟩) (by assumption) ?_
        rotate_left
        · (intro ww hSw; (try dsimp only at hSw); go_simp; try with_reducible rfl)
        (try simp only [Act.put, List.setIfInBounds_toArray, List.set_cons_zero, List.set_cons_succ])
        refine wpAnyH_done (by kernel_rfl) ?_ _
        refine NoPanic.normal ?_
        have HK9 := Lib.hid (And.left hHeld)
        clear hHeld HKR HK7
        go_wp2_with fail
        go_roundw
        case rel => exact ⟨4, by omega, by first | rfl | go_num, HK9.out.tl.tl⟩
        case measure => simp [intOf])
      refine wp_region_noPanic ?_
      refine wp_region_held_drew (S := fun w' => Kp w w.heap.size [(g4, 26, PK3), (gs, 23, LB), (w.heap.size, 23, VB)] w' ∧ w'.rangeAt g4 0 PK3) (by kernel_rfl) (kr1 HK5.out.drew) (fun hHeld => ?_)
      refine wpAnyH_take (i := 0) (oi := { dst := some 32, op := Op.load 26 (Operand.tmp 4), type := 26, pos := "law.go:58", after := #[], guard := none }) (v := .agg (PK3).toArray) rfl (by kernel_rfl) (by kernel_rfl) (by kernel_rfl) (fun _ _ _ h => h) (yieldsIf_load_mid (by rfl) _ _ rfl (g4) 0 rfl (PK3) _ (fun ww hSw => hSw.2) Try.underlying26 rfl HIP3.out) (by assumption) ?_
      (try simp only [Act.put, List.setIfInBounds_toArray, List.set_cons_zero, List.set_cons_succ])
      refine wpAnyH_ready (rs := [1, 6]) (by kernel_rfl) (by simp) ?_
      refine AllReadyH.cons (o := { dst := some 33, op := Op.call { callee := Callee.value (Operand.func 11), args := #[], argTypes := #[] }, type := 31, pos := "law.go:58", after := #[], guard := none }) rfl (fun K hK => ?_) (AllReadyH.cons (o := { dst := some 5, op := Op.alloc 23, type := 0, pos := "law.go:58", after := #[], guard := none }) rfl (fun K hK => ?_) AllReadyH.nil)
      · go_simp
        ((with_reducible refine (CH.out _).mono ?_); rintro e wA ⟨rfl, hb9⟩)
        refine hK.out _ _ (kr1 ((And.left hHeld).below hb9 (Nat.le_refl _))) (fun hHeld => ?_)
        clear hK K
        (try simp only [Act.put, List.setIfInBounds_toArray, List.set_cons_zero, List.set_cons_succ])
        refine wpAnyH_ready (rs := [2, 6]) (by kernel_rfl) (by simp) ?_
        refine AllReadyH.cons (o := { dst := some 34, op := Op.call { callee := Callee.value (Operand.func 10), args := #[Operand.tmp 32, Operand.tmp 33], argTypes := #[26, 31] }, type := 28, pos := "law.go:58", after := #[{ on := 0, ground := Ground.data }, { on := 1, ground := Ground.data }, { on := 1, ground := Ground.chain }], guard := none }) rfl (fun K hK => ?_) (AllReadyH.cons (o := { dst := some 5, op := Op.alloc 23, type := 0, pos := "law.go:58", after := #[], guard := none }) rfl (fun K hK => ?_) AllReadyH.nil)
        · go_simp
          ((with_reducible refine (CE3.out _).mono ?_); rintro e wB ⟨rfl, hb9⟩)
          refine hK.out _ _ (kr1 ((And.left hHeld).below hb9 (Nat.le_refl _))) (fun hHeld => ?_)
          clear hK K
          (try simp only [Act.put, List.setIfInBounds_toArray, List.set_cons_zero, List.set_cons_succ])
          refine wpAnyH_take (i := 3) (oi := { dst := some 31, op := Op.move (Operand.tmp 34), type := 28, pos := "law.go:58", after := #[{ on := 2, ground := Ground.data }], guard := none }) (v := ?_) rfl (by kernel_rfl) (by kernel_rfl) (by kernel_rfl) (fun _ _ _ h => h) (Or.inl ⟨by rfl, ?_⟩) (by assumption) ?_
          rotate_left
          · (intro ww hSw; (try dsimp only at hSw); go_simp; try with_reducible rfl)
          (try simp only [Act.put, List.setIfInBounds_toArray, List.set_cons_zero, List.set_cons_succ])
          refine wpAnyH_take (i := 4) (oi := { dst := some 35, op := Op.extract (Operand.tmp 31) 0, type := 23, pos := "law.go:58", after := #[{ on := 3, ground := Ground.data }], guard := none }) (v := ?_) rfl (by kernel_rfl) (by kernel_rfl) (by kernel_rfl) (fun _ _ _ h => h) (Or.inl ⟨by rfl, ?_⟩) (by assumption) ?_
          rotate_left
          · (intro ww hSw; (try dsimp only at hSw); go_simp; try with_reducible rfl)
          (try simp only [Act.put, List.setIfInBounds_toArray, List.set_cons_zero, List.set_cons_succ])
          refine wpAnyH_take (i := 5) (oi := { dst := some 36, op := Op.extract (Operand.tmp 31) 1, type := 4, pos := "law.go:58", after := #[{ on := 3, ground := Ground.data }, { on := 7, ground := Ground.gcOnly Departure.lateStores }], guard := none }) (v := ?_) rfl (by kernel_rfl) (by kernel_rfl) (by kernel_rfl) (fun _ _ _ h => h) (Or.inl ⟨by rfl, ?_⟩) (by assumption) ?_
          rotate_left
          · (intro ww hSw; (try dsimp only at hSw); go_simp; try with_reducible rfl)
          (try simp only [Act.put, List.setIfInBounds_toArray, List.set_cons_zero, List.set_cons_succ])
          refine wpAnyH_ready (rs := [6]) (by kernel_rfl) (by simp) ?_
          refine AllReadyH.cons (o := { dst := some 5, op := Op.alloc 23, type := 0, pos := "law.go:58", after := #[], guard := none }) rfl (fun K hK => ?_) AllReadyH.nil
          have hnw := (And.left hHeld).2.2
          have hne := fun x hx => (And.left hHeld).ne x hx
          go_simp
          refine hK.out _ _ (kr1 ((And.left hHeld).alloc _)) (fun hHeld => ?_)
          clear hK K
          (try simp only [Act.put, List.setIfInBounds_toArray, List.set_cons_zero, List.set_cons_succ])
          have hA := bk_new (wB) 23 ([.int .u8 0, .int .u8 0, .int .u8 0, .int .u8 0, .int .u8 0, .int .u8 0, .int .u8 0, .int .u8 0, .int .u8 0, .int .u8 0, .int .u8 0, .int .u8 0, .int .u8 0, .int .u8 0, .int .u8 0, .int .u8 0] : List Value).toArray
          refine wpAnyH_ready (rs := [7]) (by kernel_rfl) (by simp) ?_
          refine AllReadyH.cons (o := { dst := none, op := Op.store 23 (Operand.tmp 5) (Operand.tmp 35), type := 0, pos := "law.go:58", after := #[{ on := 6, ground := Ground.data }, { on := 4, ground := Ground.data }, { on := 2, ground := Ground.chain }, { on := 0, ground := Ground.phase }, { on := 1, ground := Ground.phase }, { on := 2, ground := Ground.phase }, { on := 3, ground := Ground.phase }, { on := 4, ground := Ground.phase }, { on := 5, ground := Ground.textOnly Departure.lateStores }, { on := 6, ground := Ground.phase }], guard := none }) rfl (fun K hK => ?_) AllReadyH.nil
          rw [if_pos (by rfl)]
          have hS := Bk.sets WK3 0 _ _ hA
          rw [puts_whole ([.int .u8 0, .int .u8 0, .int .u8 0, .int .u8 0, .int .u8 0, .int .u8 0, .int .u8 0, .int .u8 0, .int .u8 0, .int .u8 0, .int .u8 0, .int .u8 0, .int .u8 0, .int .u8 0, .int .u8 0, .int .u8 0] : List Value).toArray WK3 (by have := HLW3.out; simp; omega)] at hS
          refine wp_store_mid 23 _ _ rfl (wB).heap.size 0 WK3.toArray rfl rfl (hA.there _ (by have := HLW3.out; simp; omega)) (by simpa using HIW3.out) HOW3.out ?_
          refine hK.out _ _ (kr1 ((And.left hHeld).sets hne hnw 0 WK3)) (fun hHeld => ?_)
          clear hK K
          (try simp only [Act.put])
          refine wpAnyH_take (i := 8) (oi := { dst := some 6, op := Op.assign (Operand.tmp 36), type := 4, pos := "law.go:58", after := #[{ on := 5, ground := Ground.data }, { on := 7, ground := Ground.chain }, { on := 0, ground := Ground.phase }, { on := 1, ground := Ground.phase }, { on := 2, ground := Ground.phase }, { on := 3, ground := Ground.phase }, { on := 4, ground := Ground.phase }, { on := 5, ground := Ground.phase }, { on := 6, ground := Ground.phase }, { on := 7, ground := Ground.phase }], guard := none }) (v := ?_) rfl (by kernel_rfl) (by kernel_rfl) (by kernel_rfl) (fun _ _ _ h => h) (Or.inl ⟨by rfl, ?_⟩) (by assumption) ?_
          rotate_left
          · (intro ww hSw; (try dsimp only at hSw); go_simp; try with_reducible rfl)
          (try simp only [Act.put, List.setIfInBounds_toArray, List.set_cons_zero, List.set_cons_succ])
          refine wpAnyH_done (by kernel_rfl) ?_ _
          refine NoPanic.normal ?_
          exact key.out _ _ hS (And.left hHeld)
        · have hnw := (And.left hHeld).2.2
          have hne := fun x hx => (And.left hHeld).ne x hx
          go_simp
          refine hK.out _ _ (kr1 ((And.left hHeld).alloc _)) (fun hHeld => ?_)
          clear hK K
          (try simp only [Act.put, List.setIfInBounds_toArray, List.set_cons_zero, List.set_cons_succ])
          have hA := bk_new (wA) 23 ([.int .u8 0, .int .u8 0, .int .u8 0, .int .u8 0, .int .u8 0, .int .u8 0, .int .u8 0, .int .u8 0, .int .u8 0, .int .u8 0, .int .u8 0, .int .u8 0, .int .u8 0, .int .u8 0, .int .u8 0, .int .u8 0] : List Value).toArray
          refine wpAnyH_ready (rs := [2]) (by kernel_rfl) (by simp) ?_
          refine AllReadyH.cons (o := { dst := some 34, op := Op.call { callee := Callee.value (Operand.func 10), args := #[Operand.tmp 32, Operand.tmp 33], argTypes := #[26, 31] }, type := 28, pos := "law.go:58", after := #[{ on := 0, ground := Ground.data }, { on := 1, ground := Ground.data }, { on := 1, ground := Ground.chain }], guard := none }) rfl (fun K hK => ?_) AllReadyH.nil
          go_simp
          ((with_reducible refine (CE3.out _).mono ?_); rintro e wB ⟨rfl, hb9⟩)
          refine hK.out _ _ (kr1 ((And.left hHeld).below hb9 (Nat.le_refl _))) (fun hHeld => ?_)
          clear hK K
          (try simp only [Act.put, List.setIfInBounds_toArray, List.set_cons_zero, List.set_cons_succ])
          have hA := hA.below hb9 hA.lt
          refine wpAnyH_take (i := 3) (oi := { dst := some 31, op := Op.move (Operand.tmp 34), type := 28, pos := "law.go:58", after := #[{ on := 2, ground := Ground.data }], guard := none }) (v := ?_) rfl (by kernel_rfl) (by kernel_rfl) (by kernel_rfl) (fun _ _ _ h => h) (Or.inl ⟨by rfl, ?_⟩) (by assumption) ?_
          rotate_left
          · (intro ww hSw; (try dsimp only at hSw); go_simp; try with_reducible rfl)
          (try simp only [Act.put, List.setIfInBounds_toArray, List.set_cons_zero, List.set_cons_succ])
          refine wpAnyH_take (i := 4) (oi := { dst := some 35, op := Op.extract (Operand.tmp 31) 0, type := 23, pos := "law.go:58", after := #[{ on := 3, ground := Ground.data }], guard := none }) (v := ?_) rfl (by kernel_rfl) (by kernel_rfl) (by kernel_rfl) (fun _ _ _ h => h) (Or.inl ⟨by rfl, ?_⟩) (by assumption) ?_
          rotate_left
          · (intro ww hSw; (try dsimp only at hSw); go_simp; try with_reducible rfl)
          (try simp only [Act.put, List.setIfInBounds_toArray, List.set_cons_zero, List.set_cons_succ])
          refine wpAnyH_take (i := 5) (oi := { dst := some 36, op := Op.extract (Operand.tmp 31) 1, type := 4, pos := "law.go:58", after := #[{ on := 3, ground := Ground.data }, { on := 7, ground := Ground.gcOnly Departure.lateStores }], guard := none }) (v := ?_) rfl (by kernel_rfl) (by kernel_rfl) (by kernel_rfl) (fun _ _ _ h => h) (Or.inl ⟨by rfl, ?_⟩) (by assumption) ?_
          rotate_left
          · (intro ww hSw; (try dsimp only at hSw); go_simp; try with_reducible rfl)
          (try simp only [Act.put, List.setIfInBounds_toArray, List.set_cons_zero, List.set_cons_succ])
          refine wpAnyH_ready (rs := [7]) (by kernel_rfl) (by simp) ?_
          refine AllReadyH.cons (o := { dst := none, op := Op.store 23 (Operand.tmp 5) (Operand.tmp 35), type := 0, pos := "law.go:58", after := #[{ on := 6, ground := Ground.data }, { on := 4, ground := Ground.data }, { on := 2, ground := Ground.chain }, { on := 0, ground := Ground.phase }, { on := 1, ground := Ground.phase }, { on := 2, ground := Ground.phase }, { on := 3, ground := Ground.phase }, { on := 4, ground := Ground.phase }, { on := 5, ground := Ground.textOnly Departure.lateStores }, { on := 6, ground := Ground.phase }], guard := none }) rfl (fun K hK => ?_) AllReadyH.nil
          rw [if_pos (by rfl)]
          have hS := Bk.sets WK3 0 _ _ hA
          rw [puts_whole ([.int .u8 0, .int .u8 0, .int .u8 0, .int .u8 0, .int .u8 0, .int .u8 0, .int .u8 0, .int .u8 0, .int .u8 0, .int .u8 0, .int .u8 0, .int .u8 0, .int .u8 0, .int .u8 0, .int .u8 0, .int .u8 0] : List Value).toArray WK3 (by have := HLW3.out; simp; omega)] at hS
          refine wp_store_mid 23 _ _ rfl (wA).heap.size 0 WK3.toArray rfl rfl (hA.there _ (by have := HLW3.out; simp; omega)) (by simpa using HIW3.out) HOW3.out ?_
          refine hK.out _ _ (kr1 ((And.left hHeld).sets hne hnw 0 WK3)) (fun hHeld => ?_)
          clear hK K
          (try simp only [Act.put])
          refine wpAnyH_take (i := 8) (oi := { dst := some 6, op := Op.assign (Operand.tmp 36), type := 4, pos := "law.go:58", after := #[{ on := 5, ground := Ground.data }, { on := 7, ground := Ground.chain }, { on := 0, ground := Ground.phase }, { on := 1, ground := Ground.phase }, { on := 2, ground := Ground.phase }, { on := 3, ground := Ground.phase }, { on := 4, ground := Ground.phase }, { on := 5, ground := Ground.phase }, { on := 6, ground := Ground.phase }, { on := 7, ground := Ground.phase }], guard := none }) (v := ?_) rfl (by kernel_rfl) (by kernel_rfl) (by kernel_rfl) (fun _ _ _ h => h) (Or.inl ⟨by rfl, ?_⟩) (by assumption) ?_
          rotate_left
          · (intro ww hSw; (try dsimp only at hSw); go_simp; try with_reducible rfl)
          (try simp only [Act.put, List.setIfInBounds_toArray, List.set_cons_zero, List.set_cons_succ])
          refine wpAnyH_done (by kernel_rfl) ?_ _
          refine NoPanic.normal ?_
          exact key.out _ _ hS (And.left hHeld)
      · have hnw := (And.left hHeld).2.2
        have hne := fun x hx => (And.left hHeld).ne x hx
        go_simp
        refine hK.out _ _ (kr1 ((And.left hHeld).alloc _)) (fun hHeld => ?_)
        clear hK K
        (try simp only [Act.put, List.setIfInBounds_toArray, List.set_cons_zero, List.set_cons_succ])
        have hA := bk_new (w5.drew) 23 ([.int .u8 0, .int .u8 0, .int .u8 0, .int .u8 0, .int .u8 0, .int .u8 0, .int .u8 0, .int .u8 0, .int .u8 0, .int .u8 0, .int .u8 0, .int .u8 0, .int .u8 0, .int .u8 0, .int .u8 0, .int .u8 0] : List Value).toArray
        refine wpAnyH_ready (rs := [1]) (by kernel_rfl) (by simp) ?_
        refine AllReadyH.cons (o := { dst := some 33, op := Op.call { callee := Callee.value (Operand.func 11), args := #[], argTypes := #[] }, type := 31, pos := "law.go:58", after := #[], guard := none }) rfl (fun K hK => ?_) AllReadyH.nil
        go_simp
        ((with_reducible refine (CH.out _).mono ?_); rintro e wA ⟨rfl, hb9⟩)
        refine hK.out _ _ (kr1 ((And.left hHeld).below hb9 (Nat.le_refl _))) (fun hHeld => ?_)
        clear hK K
        (try simp only [Act.put, List.setIfInBounds_toArray, List.set_cons_zero, List.set_cons_succ])
        have hA := hA.below hb9 hA.lt
        refine wpAnyH_ready (rs := [2]) (by kernel_rfl) (by simp) ?_
        refine AllReadyH.cons (o := { dst := some 34, op := Op.call { callee := Callee.value (Operand.func 10), args := #[Operand.tmp 32, Operand.tmp 33], argTypes := #[26, 31] }, type := 28, pos := "law.go:58", after := #[{ on := 0, ground := Ground.data }, { on := 1, ground := Ground.data }, { on := 1, ground := Ground.chain }], guard := none }) rfl (fun K hK => ?_) AllReadyH.nil
        go_simp
        ((with_reducible refine (CE3.out _).mono ?_); rintro e wB ⟨rfl, hb9⟩)
        refine hK.out _ _ (kr1 ((And.left hHeld).below hb9 (Nat.le_refl _))) (fun hHeld => ?_)
        clear hK K
        (try simp only [Act.put, List.setIfInBounds_toArray, List.set_cons_zero, List.set_cons_succ])
        have hA := hA.below hb9 hA.lt
        refine wpAnyH_take (i := 3) (oi := { dst := some 31, op := Op.move (Operand.tmp 34), type := 28, pos := "law.go:58", after := #[{ on := 2, ground := Ground.data }], guard := none }) (v := ?_) rfl (by kernel_rfl) (by kernel_rfl) (by kernel_rfl) (fun _ _ _ h => h) (Or.inl ⟨by rfl, ?_⟩) (by assumption) ?_
        rotate_left
        · (intro ww hSw; (try dsimp only at hSw); go_simp; try with_reducible rfl)
        (try simp only [Act.put, List.setIfInBounds_toArray, List.set_cons_zero, List.set_cons_succ])
        refine wpAnyH_take (i := 4) (oi := { dst := some 35, op := Op.extract (Operand.tmp 31) 0, type := 23, pos := "law.go:58", after := #[{ on := 3, ground := Ground.data }], guard := none }) (v := ?_) rfl (by kernel_rfl) (by kernel_rfl) (by kernel_rfl) (fun _ _ _ h => h) (Or.inl ⟨by rfl, ?_⟩) (by assumption) ?_
        rotate_left
        · (intro ww hSw; (try dsimp only at hSw); go_simp; try with_reducible rfl)
        (try simp only [Act.put, List.setIfInBounds_toArray, List.set_cons_zero, List.set_cons_succ])
        refine wpAnyH_take (i := 5) (oi := { dst := some 36, op := Op.extract (Operand.tmp 31) 1, type := 4, pos := "law.go:58", after := #[{ on := 3, ground := Ground.data }, { on := 7, ground := Ground.gcOnly Departure.lateStores }], guard := none }) (v := ?_) rfl (by kernel_rfl) (by kernel_rfl) (by kernel_rfl) (fun _ _ _ h => h) (Or.inl ⟨by rfl, ?_⟩) (by assumption) ?_
        rotate_left
        · (intro ww hSw; (try dsimp only at hSw); go_simp; try with_reducible rfl)
        (try simp only [Act.put, List.setIfInBounds_toArray, List.set_cons_zero, List.set_cons_succ])
        refine wpAnyH_ready (rs := [7]) (by kernel_rfl) (by simp) ?_
        refine AllReadyH.cons (o := { dst := none, op := Op.store 23 (Operand.tmp 5) (Operand.tmp 35), type := 0, pos := "law.go:58", after := #[{ on := 6, ground := Ground.data }, { on := 4, ground := Ground.data }, { on := 2, ground := Ground.chain }, { on := 0, ground := Ground.phase }, { on := 1, ground := Ground.phase }, { on := 2, ground := Ground.phase }, { on := 3, ground := Ground.phase }, { on := 4, ground := Ground.phase }, { on := 5, ground := Ground.textOnly Departure.lateStores }, { on := 6, ground := Ground.phase }], guard := none }) rfl (fun K hK => ?_) AllReadyH.nil
        rw [if_pos (by rfl)]
        have hS := Bk.sets WK3 0 _ _ hA
        rw [puts_whole ([.int .u8 0, .int .u8 0, .int .u8 0, .int .u8 0, .int .u8 0, .int .u8 0, .int .u8 0, .int .u8 0, .int .u8 0, .int .u8 0, .int .u8 0, .int .u8 0, .int .u8 0, .int .u8 0, .int .u8 0, .int .u8 0] : List Value).toArray WK3 (by have := HLW3.out; simp; omega)] at hS
        refine wp_store_mid 23 _ _ rfl (w5.drew).heap.size 0 WK3.toArray rfl rfl (hA.there _ (by have := HLW3.out; simp; omega)) (by simpa using HIW3.out) HOW3.out ?_
        refine hK.out _ _ (kr1 ((And.left hHeld).sets hne hnw 0 WK3)) (fun hHeld => ?_)
        clear hK K
        (try simp only [Act.put])
        refine wpAnyH_take (i := 8) (oi := { dst := some 6, op := Op.assign (Operand.tmp 36), type := 4, pos := "law.go:58", after := #[{ on := 5, ground := Ground.data }, { on := 7, ground := Ground.chain }, { on := 0, ground := Ground.phase }, { on := 1, ground := Ground.phase }, { on := 2, ground := Ground.phase }, { on := 3, ground := Ground.phase }, { on := 4, ground := Ground.phase }, { on := 5, ground := Ground.phase }, { on := 6, ground := Ground.phase }, { on := 7, ground := Ground.phase }], guard := none }) (v := ?_) rfl (by kernel_rfl) (by kernel_rfl) (by kernel_rfl) (fun _ _ _ h => h) (Or.inl ⟨by rfl, ?_⟩) (by assumption) ?_
        rotate_left
        · (intro ww hSw; (try dsimp only at hSw); go_simp; try with_reducible rfl)
        (try simp only [Act.put, List.setIfInBounds_toArray, List.set_cons_zero, List.set_cons_succ])
        refine wpAnyH_done (by kernel_rfl) ?_ _
        refine NoPanic.normal ?_
        exact key.out _ _ hS (And.left hHeld)
    · have ht := (bk_new wr 26 ([.int .u8 0, .int .u8 0, .int .u8 0, .int .u8 0, .int .u8 0, .int .u8 0, .int .u8 0, .int .u8 0, .int .u8 0, .int .u8 0, .int .u8 0, .int .u8 0, .int .u8 0, .int .u8 0, .int .u8 0, .int .u8 0, .int .i64 0] : List Value).toArray).there ZN4.toArray.size (by have := HLN4.out; simp; omega)
      go_upto_region 7 with (first | (refine Great.wpList_readTo rfl _ rfl (.agg ZN4.toArray) (run_exec rfl (by rw [List.map_toArray]; rfl) (BP4.out _)) ?_) | (refine wpList_store_mid rfl 26 _ _ rfl wr.heap.size 0 ZN4.toArray rfl rfl ht (by simpa using HIN4.out) HON4.out ?_))
      have HK4 := Lib.hid (HK3.out.put 26 ([.int .u8 0, .int .u8 0, .int .u8 0, .int .u8 0, .int .u8 0, .int .u8 0, .int .u8 0, .int .u8 0, .int .u8 0, .int .u8 0, .int .u8 0, .int .u8 0, .int .u8 0, .int .u8 0, .int .u8 0, .int .u8 0, .int .i64 0] : List Value).toArray ZN4 (by have := HLN4.out; simp; omega))
      have HN4 := Lib.hid HK3.out.ne
      have HB4 := Lib.hid HK3.out.2.2
      clear ht HK3
      generalize (wr.alloc (.cells ([.int .u8 0, .int .u8 0, .int .u8 0, .int .u8 0, .int .u8 0, .int .u8 0, .int .u8 0, .int .u8 0, .int .u8 0, .int .u8 0, .int .u8 0, .int .u8 0, .int .u8 0, .int .u8 0, .int .u8 0, .int .u8 0, .int .i64 0] : List Value).toArray 26)).setCells wr.heap.size 0 ZN4 = w4 at *
      generalize wr.heap.size = g4 at *
      have hcp := copy_in w4.drew g4 w.heap.size 8 26 23 ZN4 VB CS4 HK4.out.drew.hd HK4.out.drew.tl.tl.hd HCS4.out.symm HCB4.out (by omega) (by have := HLN4.out; omega) HOB.out
      have HCP := Lib.hid hcp
      clear hcp
      have HS4 := Lib.hid (HK4.out.drew.hd.at HN164.out)
      have HK5 := Lib.hid (kp_over2 HK4.out.drew HN4.out HB4.out CS4 HPP4.out (by have := HCB4.out; have := HLN4.out; omega))
      have hc5 := HK5.out.hd.at HP164.out
      have HC5 := Lib.hid hc5
      clear hc5 HK4 HN4 HB4
      have k2 : IntKind.i64.wrap (8 : Int) = 8 := by decide
      refine wp_region_noPanic ?_
      refine wp_region_held_drew (S := fun w' => w'.cell? ⟨g4, 16, none⟩ = some (.int .i64 64)) (by kernel_rfl) (HS4.out) (fun hHeld => ?_)
      refine wpAnyH_take (i := 0) (oi := { dst := some 24, op := Op.fieldAddr 26 (Operand.tmp 4) 0, type := 0, pos := "law.go:57", after := #[], guard := none }) (v := ?_) rfl (by kernel_rfl) (by kernel_rfl) (by kernel_rfl) (fun _ _ _ h => h) (Or.inl ⟨by rfl, ?_⟩) (by assumption) ?_
      rotate_left
      · (intro ww hSw; (try dsimp only at hSw); go_simp; try with_reducible rfl)
      (try simp only [Act.put, List.setIfInBounds_toArray, List.set_cons_zero, List.set_cons_succ])
      refine wpAnyH_take (i := 1) (oi := { dst := some 25, op := Op.fieldAddr 26 (Operand.tmp 4) 1, type := 0, pos := "law.go:57", after := #[], guard := none }) (v := ?_) rfl (by kernel_rfl) (by kernel_rfl) (by kernel_rfl) (fun _ _ _ h => h) (Or.inl ⟨by rfl, ?_⟩) (by assumption) ?_
      rotate_left
      · (intro ww hSw; (try dsimp only at hSw); go_simp; try with_reducible rfl)
      (try simp only [Act.put, List.setIfInBounds_toArray, List.set_cons_zero, List.set_cons_succ])
      refine wpAnyH_take (i := 2) (oi := { dst := some 26, op := Op.load 3 (Operand.tmp 25), type := 3, pos := "law.go:57", after := #[{ on := 1, ground := Ground.data }], guard := none }) (v := ?_) rfl (by kernel_rfl) (by kernel_rfl) (by kernel_rfl) (fun _ _ _ h => h) (Or.inl ⟨by rfl, ?_⟩) (by assumption) ?_
      rotate_left
      · (intro ww hSw; (try dsimp only at hSw); go_simp; try with_reducible rfl)
      (try simp only [Act.put, List.setIfInBounds_toArray, List.set_cons_zero, List.set_cons_succ])
      refine wpAnyH_take (i := 3) (oi := { dst := some 27, op := Op.binOp BinOp.quo 3 (Operand.tmp 26) (Operand.const (Value.int IntKind.i64 8)) 3, type := 3, pos := "law.go:57", after := #[{ on := 2, ground := Ground.data }], guard := none }) (v := ?_) rfl (by kernel_rfl) (by kernel_rfl) (by kernel_rfl) (fun _ _ _ h => h) (Or.inl ⟨by rfl, ?_⟩) (by assumption) ?_
      rotate_left
      · (intro ww hSw; (try dsimp only at hSw); go_simp; try with_reducible rfl)
      (try simp only [Act.put, List.setIfInBounds_toArray, List.set_cons_zero, List.set_cons_succ])
      refine wpAnyH_take (i := 4) (oi := { dst := some 28, op := Op.slice 23 (Operand.tmp 24) none (some (Operand.tmp 27)) none, type := 27, pos := "law.go:57", after := #[{ on := 0, ground := Ground.data }, { on := 3, ground := Ground.data }], guard := none }) (v := ?_) rfl (by kernel_rfl) (by kernel_rfl) (by kernel_rfl) (fun _ _ _ h => h) (Or.inl ⟨by rfl, ?_⟩) (by assumption) ?_
      rotate_left
      · (intro ww hSw; (try dsimp only at hSw); go_simp; try with_reducible rfl)
      (try simp only [Act.put, List.setIfInBounds_toArray, List.set_cons_zero, List.set_cons_succ])
      refine wpAnyH_take (i := 5) (oi := { dst := some 29, op := Op.slice 23 (Operand.tmp 1) none none none, type := 27, pos := "law.go:57", after := #[], guard := none }) (v := ?_) rfl (by kernel_rfl) (by kernel_rfl) (by kernel_rfl) (fun _ _ _ h => h) (Or.inl ⟨by rfl, ?_⟩) (by assumption) ?_
      rotate_left
      · (intro ww hSw; (try dsimp only at hSw); go_simp; try with_reducible rfl)
      (try simp only [Act.put, List.setIfInBounds_toArray, List.set_cons_zero, List.set_cons_succ])
      refine wpAnyH_ready (rs := [6]) (by kernel_rfl) (by simp) ?_
      refine AllReadyH.cons (o := { dst := some 30, op := Op.call { callee := Callee.builtin Builtin.copy, args := #[Operand.tmp 28, Operand.tmp 29], argTypes := #[27, 27] }, type := 3, pos := "law.go:57", after := #[{ on := 4, ground := Ground.data }, { on := 5, ground := Ground.data }], guard := none }) rfl (fun K hK => ?_) AllReadyH.nil
      rw [if_pos (by rfl)]
      refine Lib.wp_copy_run _ _ _ 27 27 rfl _ _ rfl rfl HCP.out ?_
      refine hK.out _ _ (HC5.out) (fun hHeld => ?_)
      clear hK K
      (try simp only [Act.put, List.setIfInBounds_toArray, List.set_cons_zero, List.set_cons_succ])
      refine wpAnyH_done (by kernel_rfl) ?_ _
      refine NoPanic.normal ?_
      clear hHeld HS4 HC5 HCP k2
      generalize w4.drew.setCells g4 0 CS4 = w5 at *
      go_upto_region 8 with (fail)
      rename_i KK hKK
      have key : Hid (∀ (g5 : Nat) (w7 : World), Bk w7 g5 23 WK4.toArray → Kp w w.heap.size [(g4, 26, PK4), (gs, 23, LB), (w.heap.size, 23, VB)] w7 → KK {tmps := #[u0, .pointer (some ⟨w.heap.size, 0, none⟩), .slice (some ⟨gs, 0, none⟩) 5 5, .int .i64 4, .pointer (some ⟨g4, 0, none⟩), .pointer (some ⟨g5, 0, none⟩), .bool true, undef, undef, .agg VB.toArray, .agg WK0.toArray, .agg WK1.toArray, .agg WK2.toArray, .agg WK3.toArray, .agg WK4.toArray, .slice (some ⟨gs, 0, none⟩) 5 5, .int .i64 4, .bool true, u18, u19, .int .i64 4, .int .i64 32, .int .i64 64, .agg ZN4.toArray, .pointer (some ⟨g4, 0, none⟩), .pointer (some ⟨g4, 16, none⟩), .int .i64 64, .int .i64 8, .slice (some ⟨g4, 0, none⟩) 8 16, .slice (some ⟨w.heap.size, 0, none⟩) 16 16, .int .i64 8, .tuple #[.agg WK4.toArray, .bool true], .agg PK4.toArray, .agg VH.toArray, .tuple #[.agg WK4.toArray, .bool true], .agg WK4.toArray, .bool true, u37, u38, u39, u40, u41, u42, u43, u44, u45, u46, undef, undef, undef, undef, undef, undef, undef, undef, undef, undef, undef, undef, undef, undef, undef, undef, undef, undef, undef, undef, undef, undef, undef, undef, undef, undef, undef, undef, undef, undef, undef, undef, undef], defers := []} w7) := Lib.hid (by
        intro g5 w7 h2 h3
        refine hKK _ _ ?_
        have HK7 := Lib.hid (kp_cons h2 h3)
        clear h2 h3 hKK
        go_upto_region 9 with (fail)
        have HKR := Lib.hid (show ∀ W : World, Kp w w.heap.size ((g5, 23, WK4) :: [(g4, 26, PK4), (gs, 23, LB), (w.heap.size, 23, VB)]) W → Kp w w.heap.size ((g5, 23, WK4) :: [(g4, 26, PK4), (gs, 23, LB), (w.heap.size, 23, VB)]) W ∧ W.rangeAt g5 0 WK4 ∧ W.rangeAt gs 64 WK4 from fun W k => ⟨k, k.hd.range, range_mid k.tl.tl.hd HM4.out⟩)
        refine wp_region_noPanic ?_
        refine wp_region_held_drew (S := fun w' => Kp w w.heap.size ((g5, 23, WK4) :: [(g4, 26, PK4), (gs, 23, LB), (w.heap.size, 23, VB)]) w' ∧ w'.rangeAt g5 0 WK4 ∧ w'.rangeAt gs 64 WK4) (by kernel_rfl) (HKR.out _ HK7.out.drew) (fun hHeld => ?_)
        refine wpAnyH_take (i := 0) (oi := { dst := some 37, op := Op.move (Operand.tmp 6), type := 4, pos := "law.go:59", after := #[], guard := none }) (v := ?_) rfl (by kernel_rfl) (by kernel_rfl) (by kernel_rfl) (fun _ _ _ h => h) (Or.inl ⟨by rfl, ?_⟩) (by assumption) ?_
        rotate_left
        · (intro ww hSw; (try dsimp only at hSw); go_simp; try with_reducible rfl)
        (try simp only [Act.put, List.setIfInBounds_toArray, List.set_cons_zero, List.set_cons_succ])
        refine wpAnyH_take (i := 1) (oi := { dst := some 38, op := Op.unOp UnOp.not 4 (Operand.tmp 37), type := 4, pos := "law.go:59", after := #[{ on := 0, ground := Ground.data }], guard := none }) (v := ?_) rfl (by kernel_rfl) (by kernel_rfl) (by kernel_rfl) (fun _ _ _ h => h) (Or.inl ⟨by rfl, ?_⟩) (by assumption) ?_
        rotate_left
        · (intro ww hSw; (try dsimp only at hSw); go_simp; try with_reducible rfl)
        (try simp only [Act.put, List.setIfInBounds_toArray, List.set_cons_zero, List.set_cons_succ])
        refine wpAnyH_take (i := 2) (oi := { dst := some 39, op := Op.move (Operand.tmp 38), type := 4, pos := "law.go:59", after := #[{ on := 1, ground := Ground.data }], guard := none }) (v := ?_) rfl (by kernel_rfl) (by kernel_rfl) (by kernel_rfl) (fun _ _ _ h => h) (Or.inl ⟨by rfl, ?_⟩) (by assumption) ?_
        rotate_left
        · (intro ww hSw; (try dsimp only at hSw); go_simp; try with_reducible rfl)
        (try simp only [Act.put, List.setIfInBounds_toArray, List.set_cons_zero, List.set_cons_succ])
        refine wpAnyH_take (i := 3) (oi := { dst := some 40, op := Op.load 23 (Operand.tmp 5), type := 23, pos := "law.go:59", after := #[{ on := 2, ground := Ground.guard }], guard := some (2, false) }) (v := .agg (WK4).toArray) rfl (by kernel_rfl) (by kernel_rfl) (by kernel_rfl) (fun _ _ _ h => h) (yieldsIf_load_mid (by rfl) _ _ rfl (g5) 0 rfl (WK4) _ (fun ww hSw => hSw.2.1) Try.underlying23 rfl HIW4.out) (by assumption) ?_
        (try simp only [Act.put, List.setIfInBounds_toArray, List.set_cons_zero, List.set_cons_succ])
        refine wpAnyH_take (i := 4) (oi := { dst := some 41, op := Op.move (Operand.tmp 2), type := 24, pos := "law.go:59", after := #[{ on := 2, ground := Ground.guard }], guard := some (2, false) }) (v := ?_) rfl (by kernel_rfl) (by kernel_rfl) (by kernel_rfl) (fun _ _ _ h => h) (Or.inl ⟨by rfl, ?_⟩) (by assumption) ?_
        rotate_left
        · (intro ww hSw; (try dsimp only at hSw); go_simp; try with_reducible rfl)
        (try simp only [Act.put, List.setIfInBounds_toArray, List.set_cons_zero, List.set_cons_succ])
        refine wpAnyH_take (i := 5) (oi := { dst := some 42, op := Op.move (Operand.tmp 3), type := 3, pos := "law.go:59", after := #[{ on := 2, ground := Ground.guard }], guard := some (2, false) }) (v := ?_) rfl (by kernel_rfl) (by kernel_rfl) (by kernel_rfl) (fun _ _ _ h => h) (Or.inl ⟨by rfl, ?_⟩) (by assumption) ?_
        rotate_left
        · (intro ww hSw; (try dsimp only at hSw); go_simp; try with_reducible rfl)
        (try simp only [Act.put, List.setIfInBounds_toArray, List.set_cons_zero, List.set_cons_succ])
        refine wpAnyH_take (i := 6) (oi := { dst := some 43, op := Op.indexAddr 24 (Operand.tmp 41) (Operand.tmp 42), type := 0, pos := "law.go:59", after := #[{ on := 4, ground := Ground.data }, { on := 5, ground := Ground.data }, { on := 2, ground := Ground.guard }], guard := some (2, false) }) (v := ?_) rfl (by kernel_rfl) (by kernel_rfl) (by kernel_rfl) (fun _ _ _ h => h) (Or.inl ⟨by rfl, ?_⟩) (by assumption) ?_
        rotate_left
        · (intro ww hSw; (try dsimp only at hSw); go_simp; try with_reducible rfl)
        (try simp only [Act.put, List.setIfInBounds_toArray, List.set_cons_zero, List.set_cons_succ])
        refine wpAnyH_take (i := 7) (oi := { dst := some 44, op := Op.load 23 (Operand.tmp 43), type := 23, pos := "law.go:59", after := #[{ on := 6, ground := Ground.data }, { on := 2, ground := Ground.guard }], guard := some (2, false) }) (v := .agg (WK4).toArray) rfl (by kernel_rfl) (by kernel_rfl) (by kernel_rfl) (fun _ _ _ h => h) (yieldsIf_load_mid (by rfl) _ _ rfl (gs) 64 rfl (WK4) _ (fun ww hSw => hSw.2.2) Try.underlying23 rfl HIW4.out) (by assumption) ?_
        (try simp only [Act.put, List.setIfInBounds_toArray, List.set_cons_zero, List.set_cons_succ])
        refine wpAnyH_take (i := 8) (oi := { dst := some 45, op := Op.binOp BinOp.neq 23 (Operand.tmp 40) (Operand.tmp 44) 23, type := 4, pos := "law.go:59", after := #[{ on := 3, ground := Ground.data }, { on := 7, ground := Ground.data }, { on := 2, ground := Ground.guard }], guard := some (2, false) }) (v := ?_) rfl (by kernel_rfl) (by kernel_rfl) (by kernel_rfl) (fun _ _ _ h => h) (Or.inl ⟨by rfl, ?_⟩) (by assumption) ?_
        rotate_left
        · (intro ww hSw; (try dsimp only at hSw); go_simp; try with_reducible rfl)
        (try simp only [Act.put, List.setIfInBounds_toArray, List.set_cons_zero, List.set_cons_succ])
        refine wpAnyH_take (i := 9) (oi := { dst := some 46, op := Op.pick (Operand.tmp 39) (Operand.const (Value.bool true)) (Operand.tmp 45), type := 4, pos := "law.go:59", after := #[{ on := 2, ground := Ground.data }, { on := 8, ground := Ground.data }], guard := none }) (v := ?_) rfl (by kernel_rfl) (by kernel_rfl) (by kernel_rfl) (fun _ _ _ h => h) (Or.inl ⟨by rfl, ?_⟩) (by assumption) ?_
        rotate_left
        · (intro ww hSw; (try dsimp only at hSw); go_simp; try with_reducible rfl)
        (try simp only [Act.put, List.setIfInBounds_toArray, List.set_cons_zero, List.set_cons_succ])
        refine wpAnyH_done (by kernel_rfl) ?_ _
        refine NoPanic.normal ?_
        have HK9 := Lib.hid (And.left hHeld)
        clear hHeld HKR HK7
        go_wp2_with fail
        go_roundw
        case rel => exact ⟨5, by omega, by first | rfl | go_num, HK9.out.tl.tl⟩
        case measure => simp [intOf])
      refine wp_region_noPanic ?_
      refine wp_region_held_drew (S := fun w' => Kp w w.heap.size [(g4, 26, PK4), (gs, 23, LB), (w.heap.size, 23, VB)] w' ∧ w'.rangeAt g4 0 PK4) (by kernel_rfl) (kr1 HK5.out.drew) (fun hHeld => ?_)
      refine wpAnyH_take (i := 0) (oi := { dst := some 32, op := Op.load 26 (Operand.tmp 4), type := 26, pos := "law.go:58", after := #[], guard := none }) (v := .agg (PK4).toArray) rfl (by kernel_rfl) (by kernel_rfl) (by kernel_rfl) (fun _ _ _ h => h) (yieldsIf_load_mid (by rfl) _ _ rfl (g4) 0 rfl (PK4) _ (fun ww hSw => hSw.2) Try.underlying26 rfl HIP4.out) (by assumption) ?_
      (try simp only [Act.put, List.setIfInBounds_toArray, List.set_cons_zero, List.set_cons_succ])
      refine wpAnyH_ready (rs := [1, 6]) (by kernel_rfl) (by simp) ?_
      refine AllReadyH.cons (o := { dst := some 33, op := Op.call { callee := Callee.value (Operand.func 11), args := #[], argTypes := #[] }, type := 31, pos := "law.go:58", after := #[], guard := none }) rfl (fun K hK => ?_) (AllReadyH.cons (o := { dst := some 5, op := Op.alloc 23, type := 0, pos := "law.go:58", after := #[], guard := none }) rfl (fun K hK => ?_) AllReadyH.nil)
      · go_simp
        ((with_reducible refine (CH.out _).mono ?_); rintro e wA ⟨rfl, hb9⟩)
        refine hK.out _ _ (kr1 ((And.left hHeld).below hb9 (Nat.le_refl _))) (fun hHeld => ?_)
        clear hK K
        (try simp only [Act.put, List.setIfInBounds_toArray, List.set_cons_zero, List.set_cons_succ])
        refine wpAnyH_ready (rs := [2, 6]) (by kernel_rfl) (by simp) ?_
        refine AllReadyH.cons (o := { dst := some 34, op := Op.call { callee := Callee.value (Operand.func 10), args := #[Operand.tmp 32, Operand.tmp 33], argTypes := #[26, 31] }, type := 28, pos := "law.go:58", after := #[{ on := 0, ground := Ground.data }, { on := 1, ground := Ground.data }, { on := 1, ground := Ground.chain }], guard := none }) rfl (fun K hK => ?_) (AllReadyH.cons (o := { dst := some 5, op := Op.alloc 23, type := 0, pos := "law.go:58", after := #[], guard := none }) rfl (fun K hK => ?_) AllReadyH.nil)
        · go_simp
          ((with_reducible refine (CE4.out _).mono ?_); rintro e wB ⟨rfl, hb9⟩)
          refine hK.out _ _ (kr1 ((And.left hHeld).below hb9 (Nat.le_refl _))) (fun hHeld => ?_)
          clear hK K
          (try simp only [Act.put, List.setIfInBounds_toArray, List.set_cons_zero, List.set_cons_succ])
          refine wpAnyH_take (i := 3) (oi := { dst := some 31, op := Op.move (Operand.tmp 34), type := 28, pos := "law.go:58", after := #[{ on := 2, ground := Ground.data }], guard := none }) (v := ?_) rfl (by kernel_rfl) (by kernel_rfl) (by kernel_rfl) (fun _ _ _ h => h) (Or.inl ⟨by rfl, ?_⟩) (by assumption) ?_
          rotate_left
          · (intro ww hSw; (try dsimp only at hSw); go_simp; try with_reducible rfl)
          (try simp only [Act.put, List.setIfInBounds_toArray, List.set_cons_zero, List.set_cons_succ])
          refine wpAnyH_take (i := 4) (oi := { dst := some 35, op := Op.extract (Operand.tmp 31) 0, type := 23, pos := "law.go:58", after := #[{ on := 3, ground := Ground.data }], guard := none }) (v := ?_) rfl (by kernel_rfl) (by kernel_rfl) (by kernel_rfl) (fun _ _ _ h => h) (Or.inl ⟨by rfl, ?_⟩) (by assumption) ?_
          rotate_left
          · (intro ww hSw; (try dsimp only at hSw); go_simp; try with_reducible rfl)
          (try simp only [Act.put, List.setIfInBounds_toArray, List.set_cons_zero, List.set_cons_succ])
          refine wpAnyH_take (i := 5) (oi := { dst := some 36, op := Op.extract (Operand.tmp 31) 1, type := 4, pos := "law.go:58", after := #[{ on := 3, ground := Ground.data }, { on := 7, ground := Ground.gcOnly Departure.lateStores }], guard := none }) (v := ?_) rfl (by kernel_rfl) (by kernel_rfl) (by kernel_rfl) (fun _ _ _ h => h) (Or.inl ⟨by rfl, ?_⟩) (by assumption) ?_
          rotate_left
          · (intro ww hSw; (try dsimp only at hSw); go_simp; try with_reducible rfl)
          (try simp only [Act.put, List.setIfInBounds_toArray, List.set_cons_zero, List.set_cons_succ])
          refine wpAnyH_ready (rs := [6]) (by kernel_rfl) (by simp) ?_
          refine AllReadyH.cons (o := { dst := some 5, op := Op.alloc 23, type := 0, pos := "law.go:58", after := #[], guard := none }) rfl (fun K hK => ?_) AllReadyH.nil
          have hnw := (And.left hHeld).2.2
          have hne := fun x hx => (And.left hHeld).ne x hx
          go_simp
          refine hK.out _ _ (kr1 ((And.left hHeld).alloc _)) (fun hHeld => ?_)
          clear hK K
          (try simp only [Act.put, List.setIfInBounds_toArray, List.set_cons_zero, List.set_cons_succ])
          have hA := bk_new (wB) 23 ([.int .u8 0, .int .u8 0, .int .u8 0, .int .u8 0, .int .u8 0, .int .u8 0, .int .u8 0, .int .u8 0, .int .u8 0, .int .u8 0, .int .u8 0, .int .u8 0, .int .u8 0, .int .u8 0, .int .u8 0, .int .u8 0] : List Value).toArray
          refine wpAnyH_ready (rs := [7]) (by kernel_rfl) (by simp) ?_
          refine AllReadyH.cons (o := { dst := none, op := Op.store 23 (Operand.tmp 5) (Operand.tmp 35), type := 0, pos := "law.go:58", after := #[{ on := 6, ground := Ground.data }, { on := 4, ground := Ground.data }, { on := 2, ground := Ground.chain }, { on := 0, ground := Ground.phase }, { on := 1, ground := Ground.phase }, { on := 2, ground := Ground.phase }, { on := 3, ground := Ground.phase }, { on := 4, ground := Ground.phase }, { on := 5, ground := Ground.textOnly Departure.lateStores }, { on := 6, ground := Ground.phase }], guard := none }) rfl (fun K hK => ?_) AllReadyH.nil
          rw [if_pos (by rfl)]
          have hS := Bk.sets WK4 0 _ _ hA
          rw [puts_whole ([.int .u8 0, .int .u8 0, .int .u8 0, .int .u8 0, .int .u8 0, .int .u8 0, .int .u8 0, .int .u8 0, .int .u8 0, .int .u8 0, .int .u8 0, .int .u8 0, .int .u8 0, .int .u8 0, .int .u8 0, .int .u8 0] : List Value).toArray WK4 (by have := HLW4.out; simp; omega)] at hS
          refine wp_store_mid 23 _ _ rfl (wB).heap.size 0 WK4.toArray rfl rfl (hA.there _ (by have := HLW4.out; simp; omega)) (by simpa using HIW4.out) HOW4.out ?_
          refine hK.out _ _ (kr1 ((And.left hHeld).sets hne hnw 0 WK4)) (fun hHeld => ?_)
          clear hK K
          (try simp only [Act.put])
          refine wpAnyH_take (i := 8) (oi := { dst := some 6, op := Op.assign (Operand.tmp 36), type := 4, pos := "law.go:58", after := #[{ on := 5, ground := Ground.data }, { on := 7, ground := Ground.chain }, { on := 0, ground := Ground.phase }, { on := 1, ground := Ground.phase }, { on := 2, ground := Ground.phase }, { on := 3, ground := Ground.phase }, { on := 4, ground := Ground.phase }, { on := 5, ground := Ground.phase }, { on := 6, ground := Ground.phase }, { on := 7, ground := Ground.phase }], guard := none }) (v := ?_) rfl (by kernel_rfl) (by kernel_rfl) (by kernel_rfl) (fun _ _ _ h => h) (Or.inl ⟨by rfl, ?_⟩) (by assumption) ?_
          rotate_left
          · (intro ww hSw; (try dsimp only at hSw); go_simp; try with_reducible rfl)
          (try simp only [Act.put, List.setIfInBounds_toArray, List.set_cons_zero, List.set_cons_succ])
          refine wpAnyH_done (by kernel_rfl) ?_ _
          refine NoPanic.normal ?_
          exact key.out _ _ hS (And.left hHeld)
        · have hnw := (And.left hHeld).2.2
          have hne := fun x hx => (And.left hHeld).ne x hx
          go_simp
          refine hK.out _ _ (kr1 ((And.left hHeld).alloc _)) (fun hHeld => ?_)
          clear hK K
          (try simp only [Act.put, List.setIfInBounds_toArray, List.set_cons_zero, List.set_cons_succ])
          have hA := bk_new (wA) 23 ([.int .u8 0, .int .u8 0, .int .u8 0, .int .u8 0, .int .u8 0, .int .u8 0, .int .u8 0, .int .u8 0, .int .u8 0, .int .u8 0, .int .u8 0, .int .u8 0, .int .u8 0, .int .u8 0, .int .u8 0, .int .u8 0] : List Value).toArray
          refine wpAnyH_ready (rs := [2]) (by kernel_rfl) (by simp) ?_
          refine AllReadyH.cons (o := { dst := some 34, op := Op.call { callee := Callee.value (Operand.func 10), args := #[Operand.tmp 32, Operand.tmp 33], argTypes := #[26, 31] }, type := 28, pos := "law.go:58", after := #[{ on := 0, ground := Ground.data }, { on := 1, ground := Ground.data }, { on := 1, ground := Ground.chain }], guard := none }) rfl (fun K hK => ?_) AllReadyH.nil
          go_simp
          ((with_reducible refine (CE4.out _).mono ?_); rintro e wB ⟨rfl, hb9⟩)
          refine hK.out _ _ (kr1 ((And.left hHeld).below hb9 (Nat.le_refl _))) (fun hHeld => ?_)
          clear hK K
          (try simp only [Act.put, List.setIfInBounds_toArray, List.set_cons_zero, List.set_cons_succ])
          have hA := hA.below hb9 hA.lt
          refine wpAnyH_take (i := 3) (oi := { dst := some 31, op := Op.move (Operand.tmp 34), type := 28, pos := "law.go:58", after := #[{ on := 2, ground := Ground.data }], guard := none }) (v := ?_) rfl (by kernel_rfl) (by kernel_rfl) (by kernel_rfl) (fun _ _ _ h => h) (Or.inl ⟨by rfl, ?_⟩) (by assumption) ?_
          rotate_left
          · (intro ww hSw; (try dsimp only at hSw); go_simp; try with_reducible rfl)
          (try simp only [Act.put, List.setIfInBounds_toArray, List.set_cons_zero, List.set_cons_succ])
          refine wpAnyH_take (i := 4) (oi := { dst := some 35, op := Op.extract (Operand.tmp 31) 0, type := 23, pos := "law.go:58", after := #[{ on := 3, ground := Ground.data }], guard := none }) (v := ?_) rfl (by kernel_rfl) (by kernel_rfl) (by kernel_rfl) (fun _ _ _ h => h) (Or.inl ⟨by rfl, ?_⟩) (by assumption) ?_
          rotate_left
          · (intro ww hSw; (try dsimp only at hSw); go_simp; try with_reducible rfl)
          (try simp only [Act.put, List.setIfInBounds_toArray, List.set_cons_zero, List.set_cons_succ])
          refine wpAnyH_take (i := 5) (oi := { dst := some 36, op := Op.extract (Operand.tmp 31) 1, type := 4, pos := "law.go:58", after := #[{ on := 3, ground := Ground.data }, { on := 7, ground := Ground.gcOnly Departure.lateStores }], guard := none }) (v := ?_) rfl (by kernel_rfl) (by kernel_rfl) (by kernel_rfl) (fun _ _ _ h => h) (Or.inl ⟨by rfl, ?_⟩) (by assumption) ?_
          rotate_left
          · (intro ww hSw; (try dsimp only at hSw); go_simp; try with_reducible rfl)
          (try simp only [Act.put, List.setIfInBounds_toArray, List.set_cons_zero, List.set_cons_succ])
          refine wpAnyH_ready (rs := [7]) (by kernel_rfl) (by simp) ?_
          refine AllReadyH.cons (o := { dst := none, op := Op.store 23 (Operand.tmp 5) (Operand.tmp 35), type := 0, pos := "law.go:58", after := #[{ on := 6, ground := Ground.data }, { on := 4, ground := Ground.data }, { on := 2, ground := Ground.chain }, { on := 0, ground := Ground.phase }, { on := 1, ground := Ground.phase }, { on := 2, ground := Ground.phase }, { on := 3, ground := Ground.phase }, { on := 4, ground := Ground.phase }, { on := 5, ground := Ground.textOnly Departure.lateStores }, { on := 6, ground := Ground.phase }], guard := none }) rfl (fun K hK => ?_) AllReadyH.nil
          rw [if_pos (by rfl)]
          have hS := Bk.sets WK4 0 _ _ hA
          rw [puts_whole ([.int .u8 0, .int .u8 0, .int .u8 0, .int .u8 0, .int .u8 0, .int .u8 0, .int .u8 0, .int .u8 0, .int .u8 0, .int .u8 0, .int .u8 0, .int .u8 0, .int .u8 0, .int .u8 0, .int .u8 0, .int .u8 0] : List Value).toArray WK4 (by have := HLW4.out; simp; omega)] at hS
          refine wp_store_mid 23 _ _ rfl (wA).heap.size 0 WK4.toArray rfl rfl (hA.there _ (by have := HLW4.out; simp; omega)) (by simpa using HIW4.out) HOW4.out ?_
          refine hK.out _ _ (kr1 ((And.left hHeld).sets hne hnw 0 WK4)) (fun hHeld => ?_)
          clear hK K
          (try simp only [Act.put])
          refine wpAnyH_take (i := 8) (oi := { dst := some 6, op := Op.assign (Operand.tmp 36), type := 4, pos := "law.go:58", after := #[{ on := 5, ground := Ground.data }, { on := 7, ground := Ground.chain }, { on := 0, ground := Ground.phase }, { on := 1, ground := Ground.phase }, { on := 2, ground := Ground.phase }, { on := 3, ground := Ground.phase }, { on := 4, ground := Ground.phase }, { on := 5, ground := Ground.phase }, { on := 6, ground := Ground.phase }, { on := 7, ground := Ground.phase }], guard := none }) (v := ?_) rfl (by kernel_rfl) (by kernel_rfl) (by kernel_rfl) (fun _ _ _ h => h) (Or.inl ⟨by rfl, ?_⟩) (by assumption) ?_
          rotate_left
          · (intro ww hSw; (try dsimp only at hSw); go_simp; try with_reducible rfl)
          (try simp only [Act.put, List.setIfInBounds_toArray, List.set_cons_zero, List.set_cons_succ])
          refine wpAnyH_done (by kernel_rfl) ?_ _
          refine NoPanic.normal ?_
          exact key.out _ _ hS (And.left hHeld)
      · have hnw := (And.left hHeld).2.2
        have hne := fun x hx => (And.left hHeld).ne x hx
        go_simp
        refine hK.out _ _ (kr1 ((And.left hHeld).alloc _)) (fun hHeld => ?_)
        clear hK K
        (try simp only [Act.put, List.setIfInBounds_toArray, List.set_cons_zero, List.set_cons_succ])
        have hA := bk_new (w5.drew) 23 ([.int .u8 0, .int .u8 0, .int .u8 0, .int .u8 0, .int .u8 0, .int .u8 0, .int .u8 0, .int .u8 0, .int .u8 0, .int .u8 0, .int .u8 0, .int .u8 0, .int .u8 0, .int .u8 0, .int .u8 0, .int .u8 0] : List Value).toArray
        refine wpAnyH_ready (rs := [1]) (by kernel_rfl) (by simp) ?_
        refine AllReadyH.cons (o := { dst := some 33, op := Op.call { callee := Callee.value (Operand.func 11), args := #[], argTypes := #[] }, type := 31, pos := "law.go:58", after := #[], guard := none }) rfl (fun K hK => ?_) AllReadyH.nil
        go_simp
        ((with_reducible refine (CH.out _).mono ?_); rintro e wA ⟨rfl, hb9⟩)
        refine hK.out _ _ (kr1 ((And.left hHeld).below hb9 (Nat.le_refl _))) (fun hHeld => ?_)
        clear hK K
        (try simp only [Act.put, List.setIfInBounds_toArray, List.set_cons_zero, List.set_cons_succ])
        have hA := hA.below hb9 hA.lt
        refine wpAnyH_ready (rs := [2]) (by kernel_rfl) (by simp) ?_
        refine AllReadyH.cons (o := { dst := some 34, op := Op.call { callee := Callee.value (Operand.func 10), args := #[Operand.tmp 32, Operand.tmp 33], argTypes := #[26, 31] }, type := 28, pos := "law.go:58", after := #[{ on := 0, ground := Ground.data }, { on := 1, ground := Ground.data }, { on := 1, ground := Ground.chain }], guard := none }) rfl (fun K hK => ?_) AllReadyH.nil
        go_simp
        ((with_reducible refine (CE4.out _).mono ?_); rintro e wB ⟨rfl, hb9⟩)
        refine hK.out _ _ (kr1 ((And.left hHeld).below hb9 (Nat.le_refl _))) (fun hHeld => ?_)
        clear hK K
        (try simp only [Act.put, List.setIfInBounds_toArray, List.set_cons_zero, List.set_cons_succ])
        have hA := hA.below hb9 hA.lt
        refine wpAnyH_take (i := 3) (oi := { dst := some 31, op := Op.move (Operand.tmp 34), type := 28, pos := "law.go:58", after := #[{ on := 2, ground := Ground.data }], guard := none }) (v := ?_) rfl (by kernel_rfl) (by kernel_rfl) (by kernel_rfl) (fun _ _ _ h => h) (Or.inl ⟨by rfl, ?_⟩) (by assumption) ?_
        rotate_left
        · (intro ww hSw; (try dsimp only at hSw); go_simp; try with_reducible rfl)
        (try simp only [Act.put, List.setIfInBounds_toArray, List.set_cons_zero, List.set_cons_succ])
        refine wpAnyH_take (i := 4) (oi := { dst := some 35, op := Op.extract (Operand.tmp 31) 0, type := 23, pos := "law.go:58", after := #[{ on := 3, ground := Ground.data }], guard := none }) (v := ?_) rfl (by kernel_rfl) (by kernel_rfl) (by kernel_rfl) (fun _ _ _ h => h) (Or.inl ⟨by rfl, ?_⟩) (by assumption) ?_
        rotate_left
        · (intro ww hSw; (try dsimp only at hSw); go_simp; try with_reducible rfl)
        (try simp only [Act.put, List.setIfInBounds_toArray, List.set_cons_zero, List.set_cons_succ])
        refine wpAnyH_take (i := 5) (oi := { dst := some 36, op := Op.extract (Operand.tmp 31) 1, type := 4, pos := "law.go:58", after := #[{ on := 3, ground := Ground.data }, { on := 7, ground := Ground.gcOnly Departure.lateStores }], guard := none }) (v := ?_) rfl (by kernel_rfl) (by kernel_rfl) (by kernel_rfl) (fun _ _ _ h => h) (Or.inl ⟨by rfl, ?_⟩) (by assumption) ?_
        rotate_left
        · (intro ww hSw; (try dsimp only at hSw); go_simp; try with_reducible rfl)
        (try simp only [Act.put, List.setIfInBounds_toArray, List.set_cons_zero, List.set_cons_succ])
        refine wpAnyH_ready (rs := [7]) (by kernel_rfl) (by simp) ?_
        refine AllReadyH.cons (o := { dst := none, op := Op.store 23 (Operand.tmp 5) (Operand.tmp 35), type := 0, pos := "law.go:58", after := #[{ on := 6, ground := Ground.data }, { on := 4, ground := Ground.data }, { on := 2, ground := Ground.chain }, { on := 0, ground := Ground.phase }, { on := 1, ground := Ground.phase }, { on := 2, ground := Ground.phase }, { on := 3, ground := Ground.phase }, { on := 4, ground := Ground.phase }, { on := 5, ground := Ground.textOnly Departure.lateStores }, { on := 6, ground := Ground.phase }], guard := none }) rfl (fun K hK => ?_) AllReadyH.nil
        rw [if_pos (by rfl)]
        have hS := Bk.sets WK4 0 _ _ hA
        rw [puts_whole ([.int .u8 0, .int .u8 0, .int .u8 0, .int .u8 0, .int .u8 0, .int .u8 0, .int .u8 0, .int .u8 0, .int .u8 0, .int .u8 0, .int .u8 0, .int .u8 0, .int .u8 0, .int .u8 0, .int .u8 0, .int .u8 0] : List Value).toArray WK4 (by have := HLW4.out; simp; omega)] at hS
        refine wp_store_mid 23 _ _ rfl (w5.drew).heap.size 0 WK4.toArray rfl rfl (hA.there _ (by have := HLW4.out; simp; omega)) (by simpa using HIW4.out) HOW4.out ?_
        refine hK.out _ _ (kr1 ((And.left hHeld).sets hne hnw 0 WK4)) (fun hHeld => ?_)
        clear hK K
        (try simp only [Act.put])
        refine wpAnyH_take (i := 8) (oi := { dst := some 6, op := Op.assign (Operand.tmp 36), type := 4, pos := "law.go:58", after := #[{ on := 5, ground := Ground.data }, { on := 7, ground := Ground.chain }, { on := 0, ground := Ground.phase }, { on := 1, ground := Ground.phase }, { on := 2, ground := Ground.phase }, { on := 3, ground := Ground.phase }, { on := 4, ground := Ground.phase }, { on := 5, ground := Ground.phase }, { on := 6, ground := Ground.phase }, { on := 7, ground := Ground.phase }], guard := none }) (v := ?_) rfl (by kernel_rfl) (by kernel_rfl) (by kernel_rfl) (fun _ _ _ h => h) (Or.inl ⟨by rfl, ?_⟩) (by assumption) ?_
        rotate_left
        · (intro ww hSw; (try dsimp only at hSw); go_simp; try with_reducible rfl)
        (try simp only [Act.put, List.setIfInBounds_toArray, List.set_cons_zero, List.set_cons_succ])
        refine wpAnyH_done (by kernel_rfl) ?_ _
        refine NoPanic.normal ?_
        exact key.out _ _ hS (And.left hHeld)
    · go_upto_region 11 with (fail)
      rename_i KK hKK
      have HK4 := Lib.hid (HK3.out.sub (m := [(w.heap.size, 23, VB), (gs, 23, LB)]) (by intro y hy; simp only [List.mem_cons, List.not_mem_nil, or_false] at hy; rcases hy with rfl | rfl <;> simp))
      have key : Hid (∀ (g7 : Nat) (w7 : World), Bk w7 g7 31 VZ4.toArray → Kp w w.heap.size [(w.heap.size, 23, VB), (gs, 23, LB)] w7 → KK {tmps := #[u0, .pointer (some ⟨w.heap.size, 0, none⟩), .slice (some ⟨gs, 0, none⟩) 5 5, .int .i64 5, u4, u5, u6, .pointer (some ⟨g7, 0, none⟩), .bool false, .agg VB.toArray, .agg WK0.toArray, .agg WK1.toArray, .agg WK2.toArray, .agg WK3.toArray, .agg WK4.toArray, .slice (some ⟨gs, 0, none⟩) 5 5, .int .i64 5, .bool false, u18, u19, u20, u21, u22, u23, u24, u25, u26, u27, u28, u29, u30, u31, u32, u33, u34, u35, u36, u37, u38, u39, u40, u41, u42, u43, u44, u45, u46, .tuple #[.agg VZ4.toArray, .bool false], .agg VW.toArray, .agg VB.toArray, .tuple #[.agg VZ4.toArray, .bool false], .agg VZ4.toArray, .bool false, undef, undef, undef, undef, undef, undef, undef, undef, undef, undef, undef, undef, undef, undef, undef, undef, undef, undef, undef, undef, undef, undef, undef, undef, undef, undef, undef], defers := []} w7) := Lib.hid (by
        intro g7 w7 h2 h3
        refine hKK _ _ ?_
        have HK7 := Lib.hid h3
        clear h2 h3 hKK HK3 HK4
        go_wp2_with fail
        refine (HA.out _).mono ?_
        rintro e w8 ⟨rfl, bb⟩
        have HK8 := Lib.hid (HK7.out.below bb (Nat.le_refl _))
        clear bb HK7
        have hr0 := HK8.out.hd.range
        go_wp2_with (first | (refine wpList_load_if (by rfl) 23 _ rfl (w.heap.size) 0 rfl VB _ hr0 Try.underlying23 rfl HIB.out ?_) | (refine wpList_exec_if (by rfl) (.agg N33.toArray) (run_exec rfl (by rw [List.map_toArray]; rfl) (B33.out _)) ?_) | (refine wpList_exec_if (by rfl) (.agg N32.toArray) (run_exec rfl (by rw [List.map_toArray]; rfl) (B32.out _)) ?_) | (refine wpList_exec_if (by rfl) (.agg V8.toArray) (run_exec rfl (by rw [List.map_toArray]; rfl) (BE.out _)) ?_) | (refine wpList_exec_if (by rfl) (.agg N8.toArray) (run_exec rfl (by rw [List.map_toArray]; rfl) (B8.out _)) ?_) | (refine wpList_exec_if (by rfl) (.agg N96.toArray) (run_exec rfl (by rw [List.map_toArray]; rfl) (B96.out _)) ?_))
        clear hr0
        refine (C33.out _).mono ?_
        rintro e w9 ⟨rfl, bb⟩
        have HK9 := Lib.hid (HK8.out.below bb (Nat.le_refl _))
        clear bb HK8
        have hr0 := HK9.out.hd.range
        go_wp2_with (first | (refine wpList_load_if (by rfl) 23 _ rfl (w.heap.size) 0 rfl VB _ hr0 Try.underlying23 rfl HIB.out ?_) | (refine wpList_exec_if (by rfl) (.agg N33.toArray) (run_exec rfl (by rw [List.map_toArray]; rfl) (B33.out _)) ?_) | (refine wpList_exec_if (by rfl) (.agg N32.toArray) (run_exec rfl (by rw [List.map_toArray]; rfl) (B32.out _)) ?_) | (refine wpList_exec_if (by rfl) (.agg V8.toArray) (run_exec rfl (by rw [List.map_toArray]; rfl) (BE.out _)) ?_) | (refine wpList_exec_if (by rfl) (.agg N8.toArray) (run_exec rfl (by rw [List.map_toArray]; rfl) (B8.out _)) ?_) | (refine wpList_exec_if (by rfl) (.agg N96.toArray) (run_exec rfl (by rw [List.map_toArray]; rfl) (B96.out _)) ?_))
        clear hr0
        refine (C32.out _).mono ?_
        rintro e w10 ⟨rfl, bb⟩
        have HK10 := Lib.hid (HK9.out.below bb (Nat.le_refl _))
        clear bb HK9
        have hr0 := HK10.out.hd.range
        go_wp2_with (first | (refine wpList_load_if (by rfl) 23 _ rfl (w.heap.size) 0 rfl VB _ hr0 Try.underlying23 rfl HIB.out ?_) | (refine wpList_exec_if (by rfl) (.agg N33.toArray) (run_exec rfl (by rw [List.map_toArray]; rfl) (B33.out _)) ?_) | (refine wpList_exec_if (by rfl) (.agg N32.toArray) (run_exec rfl (by rw [List.map_toArray]; rfl) (B32.out _)) ?_) | (refine wpList_exec_if (by rfl) (.agg V8.toArray) (run_exec rfl (by rw [List.map_toArray]; rfl) (BE.out _)) ?_) | (refine wpList_exec_if (by rfl) (.agg N8.toArray) (run_exec rfl (by rw [List.map_toArray]; rfl) (B8.out _)) ?_) | (refine wpList_exec_if (by rfl) (.agg N96.toArray) (run_exec rfl (by rw [List.map_toArray]; rfl) (B96.out _)) ?_))
        clear hr0
        refine (C8.out _).mono ?_
        rintro e w11 ⟨rfl, bb⟩
        have HK11 := Lib.hid (HK10.out.below bb (Nat.le_refl _))
        clear bb HK10
        have hr0 := HK11.out.hd.range
        go_wp2_with (first | (refine wpList_load_if (by rfl) 23 _ rfl (w.heap.size) 0 rfl VB _ hr0 Try.underlying23 rfl HIB.out ?_) | (refine wpList_exec_if (by rfl) (.agg N33.toArray) (run_exec rfl (by rw [List.map_toArray]; rfl) (B33.out _)) ?_) | (refine wpList_exec_if (by rfl) (.agg N32.toArray) (run_exec rfl (by rw [List.map_toArray]; rfl) (B32.out _)) ?_) | (refine wpList_exec_if (by rfl) (.agg V8.toArray) (run_exec rfl (by rw [List.map_toArray]; rfl) (BE.out _)) ?_) | (refine wpList_exec_if (by rfl) (.agg N8.toArray) (run_exec rfl (by rw [List.map_toArray]; rfl) (B8.out _)) ?_) | (refine wpList_exec_if (by rfl) (.agg N96.toArray) (run_exec rfl (by rw [List.map_toArray]; rfl) (B96.out _)) ?_))
        clear hr0
        refine (C96.out _).mono ?_
        rintro e w12 ⟨rfl, bb⟩
        have HK12 := Lib.hid (HK11.out.below bb (Nat.le_refl _))
        clear bb HK11
        go_wp2_with fail
        go_ret
        exact ⟨rfl, HK12.out.2.1⟩)
      refine wp_region_noPanic ?_
      refine wp_region_held_drew (S := fun w' => Kp w w.heap.size [(w.heap.size, 23, VB), (gs, 23, LB)] w' ∧ w'.rangeAt w.heap.size 0 VB) (by kernel_rfl) (kr1 HK4.out.drew) (fun hHeld => ?_)
      refine wpAnyH_take (i := 1) (oi := { dst := some 49, op := Op.load 23 (Operand.tmp 1), type := 23, pos := "law.go:63", after := #[], guard := none }) (v := .agg (VB).toArray) rfl (by kernel_rfl) (by kernel_rfl) (by kernel_rfl) (fun _ _ _ h => h) (yieldsIf_load_mid (by rfl) _ _ rfl (w.heap.size) 0 rfl (VB) _ (fun ww hSw => hSw.2) Try.underlying23 rfl HIB.out) (by assumption) ?_
      (try simp only [Act.put, List.setIfInBounds_toArray, List.set_cons_zero, List.set_cons_succ])
      refine wpAnyH_ready (rs := [0, 6]) (by kernel_rfl) (by simp) ?_
      refine AllReadyH.cons (o := { dst := some 48, op := Op.call { callee := Callee.value (Operand.func 13), args := #[], argTypes := #[] }, type := 26, pos := "law.go:63", after := #[], guard := none }) rfl (fun K hK => ?_) (AllReadyH.cons (o := { dst := some 7, op := Op.alloc 31, type := 0, pos := "law.go:63", after := #[], guard := none }) rfl (fun K hK => ?_) AllReadyH.nil)
      · go_simp
        ((with_reducible refine (CW.out _).mono ?_); rintro e wA ⟨rfl, hb9⟩)
        refine hK.out _ _ (kr1 ((And.left hHeld).below hb9 (Nat.le_refl _))) (fun hHeld => ?_)
        clear hK K
        (try simp only [Act.put, List.setIfInBounds_toArray, List.set_cons_zero, List.set_cons_succ])
        refine wpAnyH_ready (rs := [2, 6]) (by kernel_rfl) (by simp) ?_
        refine AllReadyH.cons (o := { dst := some 50, op := Op.call { callee := Callee.value (Operand.func 12), args := #[Operand.tmp 48, Operand.tmp 49], argTypes := #[26, 23] }, type := 33, pos := "law.go:63", after := #[{ on := 0, ground := Ground.data }, { on := 1, ground := Ground.data }, { on := 0, ground := Ground.chain }], guard := none }) rfl (fun K hK => ?_) (AllReadyH.cons (o := { dst := some 7, op := Op.alloc 31, type := 0, pos := "law.go:63", after := #[], guard := none }) rfl (fun K hK => ?_) AllReadyH.nil)
        · go_simp
          ((with_reducible refine (CX.out _).mono ?_); rintro e wB ⟨rfl, hb9⟩)
          refine hK.out _ _ (kr1 ((And.left hHeld).below hb9 (Nat.le_refl _))) (fun hHeld => ?_)
          clear hK K
          (try simp only [Act.put, List.setIfInBounds_toArray, List.set_cons_zero, List.set_cons_succ])
          refine wpAnyH_take (i := 3) (oi := { dst := some 47, op := Op.move (Operand.tmp 50), type := 33, pos := "law.go:63", after := #[{ on := 2, ground := Ground.data }], guard := none }) (v := ?_) rfl (by kernel_rfl) (by kernel_rfl) (by kernel_rfl) (fun _ _ _ h => h) (Or.inl ⟨by rfl, ?_⟩) (by assumption) ?_
          rotate_left
          · (intro ww hSw; (try dsimp only at hSw); go_simp; try with_reducible rfl)
          (try simp only [Act.put, List.setIfInBounds_toArray, List.set_cons_zero, List.set_cons_succ])
          refine wpAnyH_take (i := 4) (oi := { dst := some 51, op := Op.extract (Operand.tmp 47) 0, type := 31, pos := "law.go:63", after := #[{ on := 3, ground := Ground.data }], guard := none }) (v := ?_) rfl (by kernel_rfl) (by kernel_rfl) (by kernel_rfl) (fun _ _ _ h => h) (Or.inl ⟨by rfl, ?_⟩) (by assumption) ?_
          rotate_left
          · (intro ww hSw; (try dsimp only at hSw); go_simp; try with_reducible rfl)
          (try simp only [Act.put, List.setIfInBounds_toArray, List.set_cons_zero, List.set_cons_succ])
          refine wpAnyH_take (i := 5) (oi := { dst := some 52, op := Op.extract (Operand.tmp 47) 1, type := 4, pos := "law.go:63", after := #[{ on := 3, ground := Ground.data }, { on := 7, ground := Ground.gcOnly Departure.lateStores }], guard := none }) (v := ?_) rfl (by kernel_rfl) (by kernel_rfl) (by kernel_rfl) (fun _ _ _ h => h) (Or.inl ⟨by rfl, ?_⟩) (by assumption) ?_
          rotate_left
          · (intro ww hSw; (try dsimp only at hSw); go_simp; try with_reducible rfl)
          (try simp only [Act.put, List.setIfInBounds_toArray, List.set_cons_zero, List.set_cons_succ])
          refine wpAnyH_ready (rs := [6]) (by kernel_rfl) (by simp) ?_
          refine AllReadyH.cons (o := { dst := some 7, op := Op.alloc 31, type := 0, pos := "law.go:63", after := #[], guard := none }) rfl (fun K hK => ?_) AllReadyH.nil
          have hnw := (And.left hHeld).2.2
          have hne := fun x hx => (And.left hHeld).ne x hx
          go_simp
          refine hK.out _ _ (kr1 ((And.left hHeld).alloc _)) (fun hHeld => ?_)
          clear hK K
          (try simp only [Act.put, List.setIfInBounds_toArray, List.set_cons_zero, List.set_cons_succ])
          have hA := bk_new (wB) 31 ([.int .u8 0, .int .u8 0, .int .u8 0, .int .u8 0] : List Value).toArray
          refine wpAnyH_ready (rs := [7]) (by kernel_rfl) (by simp) ?_
          refine AllReadyH.cons (o := { dst := none, op := Op.store 31 (Operand.tmp 7) (Operand.tmp 51), type := 0, pos := "law.go:63", after := #[{ on := 6, ground := Ground.data }, { on := 4, ground := Ground.data }, { on := 2, ground := Ground.chain }, { on := 0, ground := Ground.phase }, { on := 1, ground := Ground.phase }, { on := 2, ground := Ground.phase }, { on := 3, ground := Ground.phase }, { on := 4, ground := Ground.phase }, { on := 5, ground := Ground.textOnly Departure.lateStores }, { on := 6, ground := Ground.phase }], guard := none }) rfl (fun K hK => ?_) AllReadyH.nil
          rw [if_pos (by rfl)]
          have hS := Bk.sets VZ4 0 _ _ hA
          rw [puts_whole ([.int .u8 0, .int .u8 0, .int .u8 0, .int .u8 0] : List Value).toArray VZ4 (by have := HLZ4.out; simp; omega)] at hS
          refine wp_store_mid 31 _ _ rfl (wB).heap.size 0 VZ4.toArray rfl rfl (hA.there _ (by have := HLZ4.out; simp; omega)) (by simpa using HIZ4.out) HOZ4.out ?_
          refine hK.out _ _ (kr1 ((And.left hHeld).sets hne hnw 0 VZ4)) (fun hHeld => ?_)
          clear hK K
          (try simp only [Act.put])
          refine wpAnyH_take (i := 8) (oi := { dst := some 8, op := Op.assign (Operand.tmp 52), type := 4, pos := "law.go:63", after := #[{ on := 5, ground := Ground.data }, { on := 7, ground := Ground.chain }, { on := 0, ground := Ground.phase }, { on := 1, ground := Ground.phase }, { on := 2, ground := Ground.phase }, { on := 3, ground := Ground.phase }, { on := 4, ground := Ground.phase }, { on := 5, ground := Ground.phase }, { on := 6, ground := Ground.phase }, { on := 7, ground := Ground.phase }], guard := none }) (v := ?_) rfl (by kernel_rfl) (by kernel_rfl) (by kernel_rfl) (fun _ _ _ h => h) (Or.inl ⟨by rfl, ?_⟩) (by assumption) ?_
          rotate_left
          · (intro ww hSw; (try dsimp only at hSw); go_simp; try with_reducible rfl)
          (try simp only [Act.put, List.setIfInBounds_toArray, List.set_cons_zero, List.set_cons_succ])
          refine wpAnyH_done (by kernel_rfl) ?_ _
          refine NoPanic.normal ?_
          exact key.out _ _ hS (And.left hHeld)
        · have hnw := (And.left hHeld).2.2
          have hne := fun x hx => (And.left hHeld).ne x hx
          go_simp
          refine hK.out _ _ (kr1 ((And.left hHeld).alloc _)) (fun hHeld => ?_)
          clear hK K
          (try simp only [Act.put, List.setIfInBounds_toArray, List.set_cons_zero, List.set_cons_succ])
          have hA := bk_new (wA) 31 ([.int .u8 0, .int .u8 0, .int .u8 0, .int .u8 0] : List Value).toArray
          refine wpAnyH_ready (rs := [2]) (by kernel_rfl) (by simp) ?_
          refine AllReadyH.cons (o := { dst := some 50, op := Op.call { callee := Callee.value (Operand.func 12), args := #[Operand.tmp 48, Operand.tmp 49], argTypes := #[26, 23] }, type := 33, pos := "law.go:63", after := #[{ on := 0, ground := Ground.data }, { on := 1, ground := Ground.data }, { on := 0, ground := Ground.chain }], guard := none }) rfl (fun K hK => ?_) AllReadyH.nil
          go_simp
          ((with_reducible refine (CX.out _).mono ?_); rintro e wB ⟨rfl, hb9⟩)
          refine hK.out _ _ (kr1 ((And.left hHeld).below hb9 (Nat.le_refl _))) (fun hHeld => ?_)
          clear hK K
          (try simp only [Act.put, List.setIfInBounds_toArray, List.set_cons_zero, List.set_cons_succ])
          have hA := hA.below hb9 hA.lt
          refine wpAnyH_take (i := 3) (oi := { dst := some 47, op := Op.move (Operand.tmp 50), type := 33, pos := "law.go:63", after := #[{ on := 2, ground := Ground.data }], guard := none }) (v := ?_) rfl (by kernel_rfl) (by kernel_rfl) (by kernel_rfl) (fun _ _ _ h => h) (Or.inl ⟨by rfl, ?_⟩) (by assumption) ?_
          rotate_left
          · (intro ww hSw; (try dsimp only at hSw); go_simp; try with_reducible rfl)
          (try simp only [Act.put, List.setIfInBounds_toArray, List.set_cons_zero, List.set_cons_succ])
          refine wpAnyH_take (i := 4) (oi := { dst := some 51, op := Op.extract (Operand.tmp 47) 0, type := 31, pos := "law.go:63", after := #[{ on := 3, ground := Ground.data }], guard := none }) (v := ?_) rfl (by kernel_rfl) (by kernel_rfl) (by kernel_rfl) (fun _ _ _ h => h) (Or.inl ⟨by rfl, ?_⟩) (by assumption) ?_
          rotate_left
          · (intro ww hSw; (try dsimp only at hSw); go_simp; try with_reducible rfl)
          (try simp only [Act.put, List.setIfInBounds_toArray, List.set_cons_zero, List.set_cons_succ])
          refine wpAnyH_take (i := 5) (oi := { dst := some 52, op := Op.extract (Operand.tmp 47) 1, type := 4, pos := "law.go:63", after := #[{ on := 3, ground := Ground.data }, { on := 7, ground := Ground.gcOnly Departure.lateStores }], guard := none }) (v := ?_) rfl (by kernel_rfl) (by kernel_rfl) (by kernel_rfl) (fun _ _ _ h => h) (Or.inl ⟨by rfl, ?_⟩) (by assumption) ?_
          rotate_left
          · (intro ww hSw; (try dsimp only at hSw); go_simp; try with_reducible rfl)
          (try simp only [Act.put, List.setIfInBounds_toArray, List.set_cons_zero, List.set_cons_succ])
          refine wpAnyH_ready (rs := [7]) (by kernel_rfl) (by simp) ?_
          refine AllReadyH.cons (o := { dst := none, op := Op.store 31 (Operand.tmp 7) (Operand.tmp 51), type := 0, pos := "law.go:63", after := #[{ on := 6, ground := Ground.data }, { on := 4, ground := Ground.data }, { on := 2, ground := Ground.chain }, { on := 0, ground := Ground.phase }, { on := 1, ground := Ground.phase }, { on := 2, ground := Ground.phase }, { on := 3, ground := Ground.phase }, { on := 4, ground := Ground.phase }, { on := 5, ground := Ground.textOnly Departure.lateStores }, { on := 6, ground := Ground.phase }], guard := none }) rfl (fun K hK => ?_) AllReadyH.nil
          rw [if_pos (by rfl)]
          have hS := Bk.sets VZ4 0 _ _ hA
          rw [puts_whole ([.int .u8 0, .int .u8 0, .int .u8 0, .int .u8 0] : List Value).toArray VZ4 (by have := HLZ4.out; simp; omega)] at hS
          refine wp_store_mid 31 _ _ rfl (wA).heap.size 0 VZ4.toArray rfl rfl (hA.there _ (by have := HLZ4.out; simp; omega)) (by simpa using HIZ4.out) HOZ4.out ?_
          refine hK.out _ _ (kr1 ((And.left hHeld).sets hne hnw 0 VZ4)) (fun hHeld => ?_)
          clear hK K
          (try simp only [Act.put])
          refine wpAnyH_take (i := 8) (oi := { dst := some 8, op := Op.assign (Operand.tmp 52), type := 4, pos := "law.go:63", after := #[{ on := 5, ground := Ground.data }, { on := 7, ground := Ground.chain }, { on := 0, ground := Ground.phase }, { on := 1, ground := Ground.phase }, { on := 2, ground := Ground.phase }, { on := 3, ground := Ground.phase }, { on := 4, ground := Ground.phase }, { on := 5, ground := Ground.phase }, { on := 6, ground := Ground.phase }, { on := 7, ground := Ground.phase }], guard := none }) (v := ?_) rfl (by kernel_rfl) (by kernel_rfl) (by kernel_rfl) (fun _ _ _ h => h) (Or.inl ⟨by rfl, ?_⟩) (by assumption) ?_
          rotate_left
          · (intro ww hSw; (try dsimp only at hSw); go_simp; try with_reducible rfl)
          (try simp only [Act.put, List.setIfInBounds_toArray, List.set_cons_zero, List.set_cons_succ])
          refine wpAnyH_done (by kernel_rfl) ?_ _
          refine NoPanic.normal ?_
          exact key.out _ _ hS (And.left hHeld)
      · have hnw := (And.left hHeld).2.2
        have hne := fun x hx => (And.left hHeld).ne x hx
        go_simp
        refine hK.out _ _ (kr1 ((And.left hHeld).alloc _)) (fun hHeld => ?_)
        clear hK K
        (try simp only [Act.put, List.setIfInBounds_toArray, List.set_cons_zero, List.set_cons_succ])
        have hA := bk_new (wr.drew) 31 ([.int .u8 0, .int .u8 0, .int .u8 0, .int .u8 0] : List Value).toArray
        refine wpAnyH_ready (rs := [0]) (by kernel_rfl) (by simp) ?_
        refine AllReadyH.cons (o := { dst := some 48, op := Op.call { callee := Callee.value (Operand.func 13), args := #[], argTypes := #[] }, type := 26, pos := "law.go:63", after := #[], guard := none }) rfl (fun K hK => ?_) AllReadyH.nil
        go_simp
        ((with_reducible refine (CW.out _).mono ?_); rintro e wA ⟨rfl, hb9⟩)
        refine hK.out _ _ (kr1 ((And.left hHeld).below hb9 (Nat.le_refl _))) (fun hHeld => ?_)
        clear hK K
        (try simp only [Act.put, List.setIfInBounds_toArray, List.set_cons_zero, List.set_cons_succ])
        have hA := hA.below hb9 hA.lt
        refine wpAnyH_ready (rs := [2]) (by kernel_rfl) (by simp) ?_
        refine AllReadyH.cons (o := { dst := some 50, op := Op.call { callee := Callee.value (Operand.func 12), args := #[Operand.tmp 48, Operand.tmp 49], argTypes := #[26, 23] }, type := 33, pos := "law.go:63", after := #[{ on := 0, ground := Ground.data }, { on := 1, ground := Ground.data }, { on := 0, ground := Ground.chain }], guard := none }) rfl (fun K hK => ?_) AllReadyH.nil
        go_simp
        ((with_reducible refine (CX.out _).mono ?_); rintro e wB ⟨rfl, hb9⟩)
        refine hK.out _ _ (kr1 ((And.left hHeld).below hb9 (Nat.le_refl _))) (fun hHeld => ?_)
        clear hK K
        (try simp only [Act.put, List.setIfInBounds_toArray, List.set_cons_zero, List.set_cons_succ])
        have hA := hA.below hb9 hA.lt
        refine wpAnyH_take (i := 3) (oi := { dst := some 47, op := Op.move (Operand.tmp 50), type := 33, pos := "law.go:63", after := #[{ on := 2, ground := Ground.data }], guard := none }) (v := ?_) rfl (by kernel_rfl) (by kernel_rfl) (by kernel_rfl) (fun _ _ _ h => h) (Or.inl ⟨by rfl, ?_⟩) (by assumption) ?_
        rotate_left
        · (intro ww hSw; (try dsimp only at hSw); go_simp; try with_reducible rfl)
        (try simp only [Act.put, List.setIfInBounds_toArray, List.set_cons_zero, List.set_cons_succ])
        refine wpAnyH_take (i := 4) (oi := { dst := some 51, op := Op.extract (Operand.tmp 47) 0, type := 31, pos := "law.go:63", after := #[{ on := 3, ground := Ground.data }], guard := none }) (v := ?_) rfl (by kernel_rfl) (by kernel_rfl) (by kernel_rfl) (fun _ _ _ h => h) (Or.inl ⟨by rfl, ?_⟩) (by assumption) ?_
        rotate_left
        · (intro ww hSw; (try dsimp only at hSw); go_simp; try with_reducible rfl)
        (try simp only [Act.put, List.setIfInBounds_toArray, List.set_cons_zero, List.set_cons_succ])
        refine wpAnyH_take (i := 5) (oi := { dst := some 52, op := Op.extract (Operand.tmp 47) 1, type := 4, pos := "law.go:63", after := #[{ on := 3, ground := Ground.data }, { on := 7, ground := Ground.gcOnly Departure.lateStores }], guard := none }) (v := ?_) rfl (by kernel_rfl) (by kernel_rfl) (by kernel_rfl) (fun _ _ _ h => h) (Or.inl ⟨by rfl, ?_⟩) (by assumption) ?_
        rotate_left
        · (intro ww hSw; (try dsimp only at hSw); go_simp; try with_reducible rfl)
        (try simp only [Act.put, List.setIfInBounds_toArray, List.set_cons_zero, List.set_cons_succ])
        refine wpAnyH_ready (rs := [7]) (by kernel_rfl) (by simp) ?_
        refine AllReadyH.cons (o := { dst := none, op := Op.store 31 (Operand.tmp 7) (Operand.tmp 51), type := 0, pos := "law.go:63", after := #[{ on := 6, ground := Ground.data }, { on := 4, ground := Ground.data }, { on := 2, ground := Ground.chain }, { on := 0, ground := Ground.phase }, { on := 1, ground := Ground.phase }, { on := 2, ground := Ground.phase }, { on := 3, ground := Ground.phase }, { on := 4, ground := Ground.phase }, { on := 5, ground := Ground.textOnly Departure.lateStores }, { on := 6, ground := Ground.phase }], guard := none }) rfl (fun K hK => ?_) AllReadyH.nil
        rw [if_pos (by rfl)]
        have hS := Bk.sets VZ4 0 _ _ hA
        rw [puts_whole ([.int .u8 0, .int .u8 0, .int .u8 0, .int .u8 0] : List Value).toArray VZ4 (by have := HLZ4.out; simp; omega)] at hS
        refine wp_store_mid 31 _ _ rfl (wr.drew).heap.size 0 VZ4.toArray rfl rfl (hA.there _ (by have := HLZ4.out; simp; omega)) (by simpa using HIZ4.out) HOZ4.out ?_
        refine hK.out _ _ (kr1 ((And.left hHeld).sets hne hnw 0 VZ4)) (fun hHeld => ?_)
        clear hK K
        (try simp only [Act.put])
        refine wpAnyH_take (i := 8) (oi := { dst := some 8, op := Op.assign (Operand.tmp 52), type := 4, pos := "law.go:63", after := #[{ on := 5, ground := Ground.data }, { on := 7, ground := Ground.chain }, { on := 0, ground := Ground.phase }, { on := 1, ground := Ground.phase }, { on := 2, ground := Ground.phase }, { on := 3, ground := Ground.phase }, { on := 4, ground := Ground.phase }, { on := 5, ground := Ground.phase }, { on := 6, ground := Ground.phase }, { on := 7, ground := Ground.phase }], guard := none }) (v := ?_) rfl (by kernel_rfl) (by kernel_rfl) (by kernel_rfl) (fun _ _ _ h => h) (Or.inl ⟨by rfl, ?_⟩) (by assumption) ?_
        rotate_left
        · (intro ww hSw; (try dsimp only at hSw); go_simp; try with_reducible rfl)
        (try simp only [Act.put, List.setIfInBounds_toArray, List.set_cons_zero, List.set_cons_succ])
        refine wpAnyH_done (by kernel_rfl) ?_ _
        refine NoPanic.normal ?_
        exact key.out _ _ hS (And.left hHeld)
end Go.Proofs.Ytpjcanejenmldaa
