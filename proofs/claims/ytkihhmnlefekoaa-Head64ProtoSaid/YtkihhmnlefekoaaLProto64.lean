/-
  Proved here: the law Head64Proto answers true.
  Conditions: none.
-/
import Derived.Test.YtkihhmnlefekoaaAwk64
import Derived.Test.YtkihhmnlefekoaaPl46
namespace Go.Proofs.Ytkihhmnlefekoaa
open Go.RowKit

/-- A packet with another protocol. -/
def wn (p : P4.Pkt) (n : Int) : P4.Pkt := ⟨p.tos, p.id, p.ttl, n, p.pl, p.df, p.more, p.a0, p.a1, p.a2, p.a3, p.b0, p.b1, p.b2, p.b3, p.opts, p.data⟩
theorem wn_vals (p : P4.Pkt) (n : Int) : p.vals.set 3 (.int .i64 n) = (wn p n).vals := rfl
theorem buildV6 (w : World) : (Instr.build 32 #[]).run Try.prog w = .ok (.agg (bytV exZ).toArray) w := by kernel_rfl
set_option maxRecDepth 100000 in
set_option maxHeartbeats 4000000 in
theorem proto64_law_data (n : Int) (p : P4.Pkt) (w : World) (hd : (3000 : Int) < (p.data.size : Int)) :
    Calls Try.prog 8 #[.int .i64 n, .agg p.vals.toArray] w (fun e w' => e = .returned (.bool true) ∧ Below w.heap.size w w') := by
  have HI_VP : Hid ((Try.prog.info? 25).map (·.size) = some (p.vals).length) := Lib.hid (P4.Try.infoIp _)
  have HO_VP : Hid ((p.vals).toArray.all (·.oneCell') = true) := Lib.hid (P4.vals_one _)
  have HL_VP : Hid ((p.vals).length = 17) := Lib.hid rfl
  have HC_VP_15 : Hid (p.vals[15]? = some (.string p.opts)) := Lib.hid rfl
  have HC_VP_16 : Hid (p.vals[16]? = some (.string p.data)) := Lib.hid rfl
  have HK1 : Hid (Kp w w.heap.size [(w.heap.size, 25, p.vals)] (w.alloc (.cells p.vals.toArray 25))) := Lib.hid ((Kp.start w).new 25 p.vals)
  generalize p.vals = VP at *
  generalize hw1 : w.alloc (.cells VP.toArray 25) = w1 at *
  go_enter Try.func8, Try.ntmps8
  go_upto_region 1 with (fail)
  clear hw1
  go_wp2_with (fail)
  refine (awake64_true _).mono ?_
  rintro e w2 ⟨rfl, bb⟩
  have HK2 := Lib.hid (HK1.out.below bb (Nat.le_refl _))
  clear bb HK1
  have c16 : w2.cell? ⟨w.heap.size, 16, none⟩ = some (.string p.data) := HK2.out.hd.at HC_VP_16.out
  go_wp2_with (fail)
  go_ret
  exact ⟨rfl, HK2.out.2.1⟩
set_option maxRecDepth 100000 in
set_option maxHeartbeats 4000000 in
theorem proto64_law_opts (n : Int) (p : P4.Pkt) (w : World) (hd : ¬ (3000 : Int) < (p.data.size : Int)) (ho : (1000 : Int) < (p.opts.size : Int)) :
    Calls Try.prog 8 #[.int .i64 n, .agg p.vals.toArray] w (fun e w' => e = .returned (.bool true) ∧ Below w.heap.size w w') := by
  have HI_VP : Hid ((Try.prog.info? 25).map (·.size) = some (p.vals).length) := Lib.hid (P4.Try.infoIp _)
  have HO_VP : Hid ((p.vals).toArray.all (·.oneCell') = true) := Lib.hid (P4.vals_one _)
  have HL_VP : Hid ((p.vals).length = 17) := Lib.hid rfl
  have HC_VP_15 : Hid (p.vals[15]? = some (.string p.opts)) := Lib.hid rfl
  have HC_VP_16 : Hid (p.vals[16]? = some (.string p.data)) := Lib.hid rfl
  have HK1 : Hid (Kp w w.heap.size [(w.heap.size, 25, p.vals)] (w.alloc (.cells p.vals.toArray 25))) := Lib.hid ((Kp.start w).new 25 p.vals)
  generalize p.vals = VP at *
  generalize hw1 : w.alloc (.cells VP.toArray 25) = w1 at *
  go_enter Try.func8, Try.ntmps8
  go_upto_region 1 with (fail)
  clear hw1
  go_wp2_with (fail)
  refine (awake64_true _).mono ?_
  rintro e w2 ⟨rfl, bb⟩
  have HK2 := Lib.hid (HK1.out.below bb (Nat.le_refl _))
  clear bb HK1
  have c16 : w2.cell? ⟨w.heap.size, 16, none⟩ = some (.string p.data) := HK2.out.hd.at HC_VP_16.out
  have c15 : w2.cell? ⟨w.heap.size, 15, none⟩ = some (.string p.opts) := HK2.out.hd.at HC_VP_15.out
  go_wp2_with (fail)
  go_ret
  exact ⟨rfl, HK2.out.2.1⟩
set_option maxRecDepth 100000 in
set_option maxHeartbeats 4000000 in
theorem proto64_law_none (n : Int) (p : P4.Pkt) (w : World) (hd : ¬ (3000 : Int) < (p.data.size : Int)) (ho : ¬ (1000 : Int) < (p.opts.size : Int)) (hp : prOk n = false) :
    Calls Try.prog 8 #[.int .i64 n, .agg p.vals.toArray] w (fun e w' => e = .returned (.bool true) ∧ Below w.heap.size w w') := by
  have hx := pr46_none hp
  have hh : hcode (wn p n) ≠ 0 := fun h => by
    have h5 := (hcode_ok h).2.2.2.2.1
    rw [show (wn p n).proto = n from rfl, hp] at h5
    cases h5
  have CP : Hid (∀ W, Calls Try.prog 22 #[.int .i64 n] W fun e w' => e = .returned (.tuple #[.int .i64 0, .bool false]) ∧ W = w') := Lib.hid (fun W => by have := proto_any n W; rw [hx, hp] at this; exact this)
  have CQ : Hid (∀ W, Calls Try.prog 16 #[.int .i64 0] W fun e w' => e = .returned (.tuple #[.int .i64 0, .bool false]) ∧ W = w') := Lib.hid (fun W => proto64_any 0 W)
  obtain ⟨VQ, hVQ⟩ : ∃ V, V = pk0.vals (.slice none 0 0) := ⟨_, rfl⟩
  have CH : Hid (∀ W, Calls Try.prog 21 #[.agg (wn p n).vals.toArray, .agg (bytV exZ).toArray, .agg (bytV exZ).toArray] W fun e w' =>  ∃ f : Nat, e = .returned (.tuple #[.agg VQ.toArray, .iface 75 (.pointer (some ⟨f, 0, none⟩))]) ∧ Below W.heap.size W w') := Lib.hid (fun W => by
    refine (head_any (wn p n) exZ exZ exZ_len exZ_len W).mono ?_
    rintro e w' ⟨x, rfl, her, b⟩
    rcases her with ⟨h, _⟩ | ⟨_, f, rfl, _, _⟩
    · exact absurd h hh
    · exact ⟨f, by rw [hVQ, hout_bad hh], b⟩)
  have HBZ : Hid (∀ W, (Instr.build 35 #[]).run Try.prog W = .ok (.agg VQ.toArray) W) := Lib.hid (fun W => by rw [hVQ]; exact buildZ W)
  have CS : Hid (∀ W, Calls Try.prog 23 #[.agg VQ.toArray, .agg VQ.toArray] W fun e w' => e = .returned (.bool true) ∧ Below W.heap.size W w') := Lib.hid (fun W => by rw [hVQ]; exact rsame_nil pk0 W rfl)
  have HI_VQ : Hid ((Try.prog.info? 35).map (·.size) = some (VQ).length) := Lib.hid (by rw [hVQ]; exact Try.info6 _ _)
  have HO_VQ : Hid ((VQ).toArray.all (·.oneCell') = true) := Lib.hid (by rw [hVQ]; exact vals_one _ _ rfl)
  have HL_VQ : Hid ((VQ).length = 42) := Lib.hid (by rw [hVQ]; exact vals_len _ _)
  have HI_VN : Hid ((Try.prog.info? 25).map (·.size) = some ((wn p n).vals).length) := Lib.hid (P4.Try.infoIp _)
  have HO_VN : Hid (((wn p n).vals).toArray.all (·.oneCell') = true) := Lib.hid (P4.vals_one _)
  have HL_VN : Hid (((wn p n).vals).length = 17) := Lib.hid rfl
  have HE1 := Lib.hid (wn_vals p n)
  have HBV := Lib.hid buildV6
  clear hVQ hh hx hp
  generalize (wn p n).vals = VN at *
  generalize bytV exZ = VZ at *
  have HI_VP : Hid ((Try.prog.info? 25).map (·.size) = some (p.vals).length) := Lib.hid (P4.Try.infoIp _)
  have HO_VP : Hid ((p.vals).toArray.all (·.oneCell') = true) := Lib.hid (P4.vals_one _)
  have HL_VP : Hid ((p.vals).length = 17) := Lib.hid rfl
  have HC_VP_15 : Hid (p.vals[15]? = some (.string p.opts)) := Lib.hid rfl
  have HC_VP_16 : Hid (p.vals[16]? = some (.string p.data)) := Lib.hid rfl
  have HK1 : Hid (Kp w w.heap.size [(w.heap.size, 25, p.vals)] (w.alloc (.cells p.vals.toArray 25))) := Lib.hid ((Kp.start w).new 25 p.vals)
  generalize p.vals = VP at *
  generalize hw1 : w.alloc (.cells VP.toArray 25) = w1 at *
  go_enter Try.func8, Try.ntmps8
  go_upto_region 1 with (fail)
  clear hw1
  go_wp2_with (fail)
  refine (awake64_true _).mono ?_
  rintro e w2 ⟨rfl, bb⟩
  have HK2 := Lib.hid (HK1.out.below bb (Nat.le_refl _))
  clear bb HK1
  have c16 : w2.cell? ⟨w.heap.size, 16, none⟩ = some (.string p.data) := HK2.out.hd.at HC_VP_16.out
  have c15 : w2.cell? ⟨w.heap.size, 15, none⟩ = some (.string p.opts) := HK2.out.hd.at HC_VP_15.out
  go_upto_region 5 with (fail)
  clear c16 c15
  go_wp2_with (fail)
  refine (CP.out _).mono ?_
  rintro e w99 ⟨rfl, rfl⟩
  go_wp2_with (fail)
  refine (CQ.out _).mono ?_
  rintro e w99 ⟨rfl, rfl⟩
  go_upto_region 7 with (fail)
  obtain ⟨uu, hu, hz⟩ := HK2.out.some1 3 (by have := HL_VP.out; omega)
  go_upto_region 8 with (fail)
  have hk := HK2.out.set1 (by intro x hx; cases hx) (Nat.le_refl _) 3 (.int .i64 n)
  rw [HE1.out] at hk
  have HK3 := Lib.hid hk
  clear hk hu hz HK2
  generalize w2.setCell ⟨w.heap.size, 3, none⟩ (.int .i64 n) = w3 at *
  have hr0 := HK3.out.hd.range
  go_wp2_with (((with_reducible (change wpList _ _ _ _ _ _)); (first | (refine wpList_load_mid rfl 25 _ rfl (w.heap.size) 0 rfl (VN) _ hr0 Try.underlying25 rfl HI_VN.out ?_) | (refine Great.wpList_readTo rfl _ rfl (.agg VZ.toArray) (run_execN (T := 32) (l := #[]) (m := #[]) rfl (by simp) (HBV.out _)) ?_))))
  clear hr0
  refine (CH.out _).mono ?_
  rintro e w4 ⟨f, rfl, bb⟩
  have HK4 := Lib.hid (HK3.out.below bb (Nat.le_refl _))
  clear bb HK3
  have ht := (bk_new w4 35 ([.int .i64 0, .int .i64 0, .int .i64 0, .int .u8 0, .int .u8 0, .int .u8 0, .int .u8 0, .int .u8 0, .int .u8 0, .int .u8 0, .int .u8 0, .int .u8 0, .int .u8 0, .int .u8 0, .int .u8 0, .int .u8 0, .int .u8 0, .int .u8 0, .int .u8 0, .int .u8 0, .int .u8 0, .int .u8 0, .int .u8 0, .int .u8 0, .int .u8 0, .int .u8 0, .int .u8 0, .int .u8 0, .int .u8 0, .int .u8 0, .int .u8 0, .int .u8 0, .int .u8 0, .int .u8 0, .int .u8 0, .slice none 0 0, .bool false, .int .u32 0, .int .i64 0, .bool false, .int .i64 0, .string ⟨#[]⟩] : List Value).toArray).there VQ.toArray.size (by have := HL_VQ.out; simp; omega)
  go_upto_region 9 with (((with_reducible (change wpList _ _ _ _ _ _)); ((refine wpList_store_mid rfl 35 _ _ rfl (w4.heap.size) 0 VQ.toArray rfl rfl ht (by simpa using HI_VQ.out) HO_VQ.out ?_))))
  have HK5 := Lib.hid (HK4.out.put 35 ([.int .i64 0, .int .i64 0, .int .i64 0, .int .u8 0, .int .u8 0, .int .u8 0, .int .u8 0, .int .u8 0, .int .u8 0, .int .u8 0, .int .u8 0, .int .u8 0, .int .u8 0, .int .u8 0, .int .u8 0, .int .u8 0, .int .u8 0, .int .u8 0, .int .u8 0, .int .u8 0, .int .u8 0, .int .u8 0, .int .u8 0, .int .u8 0, .int .u8 0, .int .u8 0, .int .u8 0, .int .u8 0, .int .u8 0, .int .u8 0, .int .u8 0, .int .u8 0, .int .u8 0, .int .u8 0, .int .u8 0, .slice none 0 0, .bool false, .int .u32 0, .int .i64 0, .bool false, .int .i64 0, .string ⟨#[]⟩] : List Value).toArray VQ (by have := HL_VQ.out; simp; omega))
  clear ht HK4
  generalize (w4.alloc (.cells ([.int .i64 0, .int .i64 0, .int .i64 0, .int .u8 0, .int .u8 0, .int .u8 0, .int .u8 0, .int .u8 0, .int .u8 0, .int .u8 0, .int .u8 0, .int .u8 0, .int .u8 0, .int .u8 0, .int .u8 0, .int .u8 0, .int .u8 0, .int .u8 0, .int .u8 0, .int .u8 0, .int .u8 0, .int .u8 0, .int .u8 0, .int .u8 0, .int .u8 0, .int .u8 0, .int .u8 0, .int .u8 0, .int .u8 0, .int .u8 0, .int .u8 0, .int .u8 0, .int .u8 0, .int .u8 0, .int .u8 0, .slice none 0 0, .bool false, .int .u32 0, .int .i64 0, .bool false, .int .i64 0, .string ⟨#[]⟩] : List Value).toArray 35)).setCells w4.heap.size 0 VQ = w5 at *
  generalize w4.heap.size = g9 at *
  go_upto_region 10 with (fail)
  have hr0 := HK5.out.hd.range
  refine wp_region_list ?_
  refine wpList_exec_if (op := { dst := some 44, op := Op.move (Operand.tmp 5), type := 3, pos := "more.go:56", after := #[], guard := none }) (by kernel_rfl) ?_ ?_ ?_
  rotate_left
  · (go_simp; try with_reducible rfl)
  (try simp only [Act.put, List.setIfInBounds_toArray, List.set_cons_zero, List.set_cons_succ])
  refine wpList_exec_if (op := { dst := some 45, op := Op.binOp BinOp.eql 3 (Operand.tmp 44) (Operand.const (Value.int IntKind.i64 0)) 3, type := 4, pos := "more.go:56", after := #[{ on := 0, ground := Ground.data }], guard := none }) (by kernel_rfl) ?_ ?_ ?_
  rotate_left
  · (go_simp; try with_reducible rfl)
  (try simp only [Act.put, List.setIfInBounds_toArray, List.set_cons_zero, List.set_cons_succ])
  refine wpList_exec_if (op := { dst := some 46, op := Op.move (Operand.tmp 45), type := 4, pos := "more.go:56", after := #[{ on := 1, ground := Ground.data }], guard := none }) (by kernel_rfl) ?_ ?_ ?_
  rotate_left
  · (go_simp; try with_reducible rfl)
  (try simp only [Act.put, List.setIfInBounds_toArray, List.set_cons_zero, List.set_cons_succ])
  refine wpList_exec_if (op := { dst := some 47, op := Op.move (Operand.tmp 10), type := 27, pos := "more.go:56", after := #[{ on := 2, ground := Ground.guard }], guard := some (2, true) }) (by kernel_rfl) ?_ ?_ ?_
  rotate_left
  · (go_simp; try with_reducible rfl)
  (try simp only [Act.put, List.setIfInBounds_toArray, List.set_cons_zero, List.set_cons_succ])
  refine wpList_exec_if (op := { dst := some 48, op := Op.binOp BinOp.neq 27 (Operand.tmp 47) (Operand.const Value.nilIface) 27, type := 4, pos := "more.go:56", after := #[{ on := 3, ground := Ground.data }, { on := 2, ground := Ground.guard }], guard := some (2, true) }) (by kernel_rfl) ?_ ?_ ?_
  rotate_left
  · (go_simp; try with_reducible rfl)
  (try simp only [Act.put, List.setIfInBounds_toArray, List.set_cons_zero, List.set_cons_succ])
  refine wpList_exec_if (op := { dst := some 49, op := Op.pick (Operand.tmp 46) (Operand.tmp 48) (Operand.const (Value.bool false)), type := 4, pos := "more.go:56", after := #[{ on := 2, ground := Ground.data }, { on := 4, ground := Ground.data }], guard := none }) (by kernel_rfl) ?_ ?_ ?_
  rotate_left
  · (go_simp; try with_reducible rfl)
  (try simp only [Act.put, List.setIfInBounds_toArray, List.set_cons_zero, List.set_cons_succ])
  refine wpList_exec_if (op := { dst := some 50, op := Op.move (Operand.tmp 49), type := 4, pos := "more.go:56", after := #[{ on := 5, ground := Ground.data }, { on := 2, ground := Ground.chain }], guard := none }) (by kernel_rfl) ?_ ?_ ?_
  rotate_left
  · (go_simp; try with_reducible rfl)
  (try simp only [Act.put, List.setIfInBounds_toArray, List.set_cons_zero, List.set_cons_succ])
  refine wpList_load_if (op := { dst := some 51, op := Op.load 35 (Operand.tmp 9), type := 35, pos := "more.go:56", after := #[{ on := 6, ground := Ground.guard }], guard := some (6, true) }) (by kernel_rfl) 35 _ rfl g9 0 rfl VQ _ hr0 Try.underlying35 rfl HI_VQ.out ?_
  (try simp only [Act.put, List.setIfInBounds_toArray, List.set_cons_zero, List.set_cons_succ])
  refine wpList_exec_if (op := { dst := some 52, op := Op.build 35 #[], type := 35, pos := "more.go:56", after := #[{ on := 6, ground := Ground.guard }], guard := some (6, true) }) (by kernel_rfl) (.agg VQ.toArray) ?_ ?_
  · (exact run_execN (T := 35) (l := #[]) (m := #[]) rfl (by simp) (HBZ.out _))
  (try simp only [Act.put, List.setIfInBounds_toArray, List.set_cons_zero, List.set_cons_succ])
  clear hr0
  go_wp2_with (fail)
  refine (CS.out _).mono ?_
  rintro e w6 ⟨rfl, bb⟩
  have HK6 := Lib.hid (HK5.out.below bb (Nat.le_refl _))
  clear bb HK5
  go_wp2_with (fail)
  go_ret
  exact ⟨rfl, HK6.out.2.1⟩
set_option maxRecDepth 100000 in
set_option maxHeartbeats 4000000 in
theorem proto64_law_one_good (n : Int) (p : P4.Pkt) (w : World) (hd : ¬ (3000 : Int) < (p.data.size : Int)) (ho : ¬ (1000 : Int) < (p.opts.size : Int)) (hp : prOk n = true) (h1 : n = 1) (hh : hcode (wn p n) = 0) :
    Calls Try.prog 8 #[.int .i64 n, .agg p.vals.toArray] w (fun e w' => e = .returned (.bool true) ∧ Below w.heap.size w w') := by
  obtain ⟨hb1, hb2⟩ := protos_back hp
  have hx : pr46 n = 58 := by rw [h1]; decide
  have CP : Hid (∀ W, Calls Try.prog 22 #[.int .i64 n] W fun e w' => e = .returned (.tuple #[.int .i64 58, .bool true]) ∧ W = w') := Lib.hid (fun W => by have := proto_any n W; rw [hx, hp] at this; exact this)
  have CQ : Hid (∀ W, Calls Try.prog 16 #[.int .i64 58] W fun e w' => e = .returned (.tuple #[.int .i64 n, .bool true]) ∧ W = w') := Lib.hid (fun W => by have := proto64_any (pr46 n) W; rw [hb1, hb2, hx] at this; exact this)
  obtain ⟨VQ, hVQ⟩ : ∃ V, V = (h46 (wn p n) exZ exZ exZ_len exZ_len).vals (.slice none 0 0) := ⟨_, rfl⟩
  have CH : Hid (∀ W, Calls Try.prog 21 #[.agg (wn p n).vals.toArray, .agg (bytV exZ).toArray, .agg (bytV exZ).toArray] W fun e w' =>  e = .returned (.tuple #[.agg VQ.toArray, .nilIface]) ∧ Below W.heap.size W w') := Lib.hid (fun W => by
    refine (head_any (wn p n) exZ exZ exZ_len exZ_len W).mono ?_
    rintro e w' ⟨x, rfl, her, b⟩
    rcases her with ⟨_, rfl⟩ | ⟨h, _⟩
    · exact ⟨by rw [hVQ, hout_ok hh], b⟩
    · exact absurd hh h)
  have HC_VQ_40 : Hid (VQ[40]? = some (.int .i64 58)) := Lib.hid (by
    rw [hVQ]
    have h40 : ((h46 (wn p n) exZ exZ exZ_len exZ_len).vals (.slice none 0 0))[40]? = some (.int .i64 (pr46 n)) := vals_tail _ _ 5
    rw [hx] at h40
    exact h40)
  have HI_VQ : Hid ((Try.prog.info? 35).map (·.size) = some (VQ).length) := Lib.hid (by rw [hVQ]; exact Try.info6 _ _)
  have HO_VQ : Hid ((VQ).toArray.all (·.oneCell') = true) := Lib.hid (by rw [hVQ]; exact vals_one _ _ rfl)
  have HL_VQ : Hid ((VQ).length = 42) := Lib.hid (by rw [hVQ]; exact vals_len _ _)
  have HI_VN : Hid ((Try.prog.info? 25).map (·.size) = some ((wn p n).vals).length) := Lib.hid (P4.Try.infoIp _)
  have HO_VN : Hid (((wn p n).vals).toArray.all (·.oneCell') = true) := Lib.hid (P4.vals_one _)
  have HL_VN : Hid (((wn p n).vals).length = 17) := Lib.hid rfl
  have HE1 := Lib.hid (wn_vals p n)
  have HBV := Lib.hid buildV6
  clear hVQ hh hx hp hb1 hb2
  generalize (wn p n).vals = VN at *
  generalize bytV exZ = VZ at *
  subst h1
  have HI_VP : Hid ((Try.prog.info? 25).map (·.size) = some (p.vals).length) := Lib.hid (P4.Try.infoIp _)
  have HO_VP : Hid ((p.vals).toArray.all (·.oneCell') = true) := Lib.hid (P4.vals_one _)
  have HL_VP : Hid ((p.vals).length = 17) := Lib.hid rfl
  have HC_VP_15 : Hid (p.vals[15]? = some (.string p.opts)) := Lib.hid rfl
  have HC_VP_16 : Hid (p.vals[16]? = some (.string p.data)) := Lib.hid rfl
  have HK1 : Hid (Kp w w.heap.size [(w.heap.size, 25, p.vals)] (w.alloc (.cells p.vals.toArray 25))) := Lib.hid ((Kp.start w).new 25 p.vals)
  generalize p.vals = VP at *
  generalize hw1 : w.alloc (.cells VP.toArray 25) = w1 at *
  go_enter Try.func8, Try.ntmps8
  go_upto_region 1 with (fail)
  clear hw1
  go_wp2_with (fail)
  refine (awake64_true _).mono ?_
  rintro e w2 ⟨rfl, bb⟩
  have HK2 := Lib.hid (HK1.out.below bb (Nat.le_refl _))
  clear bb HK1
  have c16 : w2.cell? ⟨w.heap.size, 16, none⟩ = some (.string p.data) := HK2.out.hd.at HC_VP_16.out
  have c15 : w2.cell? ⟨w.heap.size, 15, none⟩ = some (.string p.opts) := HK2.out.hd.at HC_VP_15.out
  go_upto_region 5 with (fail)
  clear c16 c15
  go_wp2_with (fail)
  refine (CP.out _).mono ?_
  rintro e w99 ⟨rfl, rfl⟩
  go_wp2_with (fail)
  refine (CQ.out _).mono ?_
  rintro e w99 ⟨rfl, rfl⟩
  go_upto_region 7 with (fail)
  obtain ⟨uu, hu, hz⟩ := HK2.out.some1 3 (by have := HL_VP.out; omega)
  go_upto_region 8 with (fail)
  have hk := HK2.out.set1 (by intro x hx; cases hx) (Nat.le_refl _) 3 (.int .i64 1)
  rw [HE1.out] at hk
  have HK3 := Lib.hid hk
  clear hk hu hz HK2
  generalize w2.setCell ⟨w.heap.size, 3, none⟩ (.int .i64 1) = w3 at *
  have hr0 := HK3.out.hd.range
  go_wp2_with (((with_reducible (change wpList _ _ _ _ _ _)); (first | (refine wpList_load_mid rfl 25 _ rfl (w.heap.size) 0 rfl (VN) _ hr0 Try.underlying25 rfl HI_VN.out ?_) | (refine Great.wpList_readTo rfl _ rfl (.agg VZ.toArray) (run_execN (T := 32) (l := #[]) (m := #[]) rfl (by simp) (HBV.out _)) ?_))))
  clear hr0
  refine (CH.out _).mono ?_
  rintro e w4 ⟨rfl, bb⟩
  have HK4 := Lib.hid (HK3.out.below bb (Nat.le_refl _))
  clear bb HK3
  have ht := (bk_new w4 35 ([.int .i64 0, .int .i64 0, .int .i64 0, .int .u8 0, .int .u8 0, .int .u8 0, .int .u8 0, .int .u8 0, .int .u8 0, .int .u8 0, .int .u8 0, .int .u8 0, .int .u8 0, .int .u8 0, .int .u8 0, .int .u8 0, .int .u8 0, .int .u8 0, .int .u8 0, .int .u8 0, .int .u8 0, .int .u8 0, .int .u8 0, .int .u8 0, .int .u8 0, .int .u8 0, .int .u8 0, .int .u8 0, .int .u8 0, .int .u8 0, .int .u8 0, .int .u8 0, .int .u8 0, .int .u8 0, .int .u8 0, .slice none 0 0, .bool false, .int .u32 0, .int .i64 0, .bool false, .int .i64 0, .string ⟨#[]⟩] : List Value).toArray).there VQ.toArray.size (by have := HL_VQ.out; simp; omega)
  go_upto_region 9 with (((with_reducible (change wpList _ _ _ _ _ _)); ((refine wpList_store_mid rfl 35 _ _ rfl (w4.heap.size) 0 VQ.toArray rfl rfl ht (by simpa using HI_VQ.out) HO_VQ.out ?_))))
  have HK5 := Lib.hid (HK4.out.put 35 ([.int .i64 0, .int .i64 0, .int .i64 0, .int .u8 0, .int .u8 0, .int .u8 0, .int .u8 0, .int .u8 0, .int .u8 0, .int .u8 0, .int .u8 0, .int .u8 0, .int .u8 0, .int .u8 0, .int .u8 0, .int .u8 0, .int .u8 0, .int .u8 0, .int .u8 0, .int .u8 0, .int .u8 0, .int .u8 0, .int .u8 0, .int .u8 0, .int .u8 0, .int .u8 0, .int .u8 0, .int .u8 0, .int .u8 0, .int .u8 0, .int .u8 0, .int .u8 0, .int .u8 0, .int .u8 0, .int .u8 0, .slice none 0 0, .bool false, .int .u32 0, .int .i64 0, .bool false, .int .i64 0, .string ⟨#[]⟩] : List Value).toArray VQ (by have := HL_VQ.out; simp; omega))
  clear ht HK4
  generalize (w4.alloc (.cells ([.int .i64 0, .int .i64 0, .int .i64 0, .int .u8 0, .int .u8 0, .int .u8 0, .int .u8 0, .int .u8 0, .int .u8 0, .int .u8 0, .int .u8 0, .int .u8 0, .int .u8 0, .int .u8 0, .int .u8 0, .int .u8 0, .int .u8 0, .int .u8 0, .int .u8 0, .int .u8 0, .int .u8 0, .int .u8 0, .int .u8 0, .int .u8 0, .int .u8 0, .int .u8 0, .int .u8 0, .int .u8 0, .int .u8 0, .int .u8 0, .int .u8 0, .int .u8 0, .int .u8 0, .int .u8 0, .int .u8 0, .slice none 0 0, .bool false, .int .u32 0, .int .i64 0, .bool false, .int .i64 0, .string ⟨#[]⟩] : List Value).toArray 35)).setCells w4.heap.size 0 VQ = w5 at *
  generalize w4.heap.size = g9 at *
  go_upto_region 11 with (fail)
  have d40 : w5.cell? ⟨g9, 40, none⟩ = some (.int .i64 58) := HK5.out.hd.at HC_VQ_40.out
  go_wp2_with (fail)
  go_ret
  refine ⟨?_, HK5.out.2.1⟩
  first | rfl | (simp; done) | (simp; omega)
set_option maxRecDepth 100000 in
set_option maxHeartbeats 4000000 in
theorem proto64_law_one_bad (n : Int) (p : P4.Pkt) (w : World) (hd : ¬ (3000 : Int) < (p.data.size : Int)) (ho : ¬ (1000 : Int) < (p.opts.size : Int)) (hp : prOk n = true) (h1 : n = 1) (hh : hcode (wn p n) ≠ 0) :
    Calls Try.prog 8 #[.int .i64 n, .agg p.vals.toArray] w (fun e w' => e = .returned (.bool true) ∧ Below w.heap.size w w') := by
  obtain ⟨hb1, hb2⟩ := protos_back hp
  have hx : pr46 n = 58 := by rw [h1]; decide
  have CP : Hid (∀ W, Calls Try.prog 22 #[.int .i64 n] W fun e w' => e = .returned (.tuple #[.int .i64 58, .bool true]) ∧ W = w') := Lib.hid (fun W => by have := proto_any n W; rw [hx, hp] at this; exact this)
  have CQ : Hid (∀ W, Calls Try.prog 16 #[.int .i64 58] W fun e w' => e = .returned (.tuple #[.int .i64 n, .bool true]) ∧ W = w') := Lib.hid (fun W => by have := proto64_any (pr46 n) W; rw [hb1, hb2, hx] at this; exact this)
  obtain ⟨VQ, hVQ⟩ : ∃ V, V = pk0.vals (.slice none 0 0) := ⟨_, rfl⟩
  have CH : Hid (∀ W, Calls Try.prog 21 #[.agg (wn p n).vals.toArray, .agg (bytV exZ).toArray, .agg (bytV exZ).toArray] W fun e w' =>  ∃ f : Nat, e = .returned (.tuple #[.agg VQ.toArray, .iface 75 (.pointer (some ⟨f, 0, none⟩))]) ∧ Below W.heap.size W w') := Lib.hid (fun W => by
    refine (head_any (wn p n) exZ exZ exZ_len exZ_len W).mono ?_
    rintro e w' ⟨x, rfl, her, b⟩
    rcases her with ⟨h, _⟩ | ⟨_, f, rfl, _, _⟩
    · exact absurd h hh
    · exact ⟨f, by rw [hVQ, hout_bad hh], b⟩)
  have HI_VQ : Hid ((Try.prog.info? 35).map (·.size) = some (VQ).length) := Lib.hid (by rw [hVQ]; exact Try.info6 _ _)
  have HO_VQ : Hid ((VQ).toArray.all (·.oneCell') = true) := Lib.hid (by rw [hVQ]; exact vals_one _ _ rfl)
  have HL_VQ : Hid ((VQ).length = 42) := Lib.hid (by rw [hVQ]; exact vals_len _ _)
  have HI_VN : Hid ((Try.prog.info? 25).map (·.size) = some ((wn p n).vals).length) := Lib.hid (P4.Try.infoIp _)
  have HO_VN : Hid (((wn p n).vals).toArray.all (·.oneCell') = true) := Lib.hid (P4.vals_one _)
  have HL_VN : Hid (((wn p n).vals).length = 17) := Lib.hid rfl
  have HE1 := Lib.hid (wn_vals p n)
  have HBV := Lib.hid buildV6
  clear hVQ hh hx hp hb1 hb2
  generalize (wn p n).vals = VN at *
  generalize bytV exZ = VZ at *
  subst h1
  have HI_VP : Hid ((Try.prog.info? 25).map (·.size) = some (p.vals).length) := Lib.hid (P4.Try.infoIp _)
  have HO_VP : Hid ((p.vals).toArray.all (·.oneCell') = true) := Lib.hid (P4.vals_one _)
  have HL_VP : Hid ((p.vals).length = 17) := Lib.hid rfl
  have HC_VP_15 : Hid (p.vals[15]? = some (.string p.opts)) := Lib.hid rfl
  have HC_VP_16 : Hid (p.vals[16]? = some (.string p.data)) := Lib.hid rfl
  have HK1 : Hid (Kp w w.heap.size [(w.heap.size, 25, p.vals)] (w.alloc (.cells p.vals.toArray 25))) := Lib.hid ((Kp.start w).new 25 p.vals)
  generalize p.vals = VP at *
  generalize hw1 : w.alloc (.cells VP.toArray 25) = w1 at *
  go_enter Try.func8, Try.ntmps8
  go_upto_region 1 with (fail)
  clear hw1
  go_wp2_with (fail)
  refine (awake64_true _).mono ?_
  rintro e w2 ⟨rfl, bb⟩
  have HK2 := Lib.hid (HK1.out.below bb (Nat.le_refl _))
  clear bb HK1
  have c16 : w2.cell? ⟨w.heap.size, 16, none⟩ = some (.string p.data) := HK2.out.hd.at HC_VP_16.out
  have c15 : w2.cell? ⟨w.heap.size, 15, none⟩ = some (.string p.opts) := HK2.out.hd.at HC_VP_15.out
  go_upto_region 5 with (fail)
  clear c16 c15
  go_wp2_with (fail)
  refine (CP.out _).mono ?_
  rintro e w99 ⟨rfl, rfl⟩
  go_wp2_with (fail)
  refine (CQ.out _).mono ?_
  rintro e w99 ⟨rfl, rfl⟩
  go_upto_region 7 with (fail)
  obtain ⟨uu, hu, hz⟩ := HK2.out.some1 3 (by have := HL_VP.out; omega)
  go_upto_region 8 with (fail)
  have hk := HK2.out.set1 (by intro x hx; cases hx) (Nat.le_refl _) 3 (.int .i64 1)
  rw [HE1.out] at hk
  have HK3 := Lib.hid hk
  clear hk hu hz HK2
  generalize w2.setCell ⟨w.heap.size, 3, none⟩ (.int .i64 1) = w3 at *
  have hr0 := HK3.out.hd.range
  go_wp2_with (((with_reducible (change wpList _ _ _ _ _ _)); (first | (refine wpList_load_mid rfl 25 _ rfl (w.heap.size) 0 rfl (VN) _ hr0 Try.underlying25 rfl HI_VN.out ?_) | (refine Great.wpList_readTo rfl _ rfl (.agg VZ.toArray) (run_execN (T := 32) (l := #[]) (m := #[]) rfl (by simp) (HBV.out _)) ?_))))
  clear hr0
  refine (CH.out _).mono ?_
  rintro e w4 ⟨f, rfl, bb⟩
  have HK4 := Lib.hid (HK3.out.below bb (Nat.le_refl _))
  clear bb HK3
  have ht := (bk_new w4 35 ([.int .i64 0, .int .i64 0, .int .i64 0, .int .u8 0, .int .u8 0, .int .u8 0, .int .u8 0, .int .u8 0, .int .u8 0, .int .u8 0, .int .u8 0, .int .u8 0, .int .u8 0, .int .u8 0, .int .u8 0, .int .u8 0, .int .u8 0, .int .u8 0, .int .u8 0, .int .u8 0, .int .u8 0, .int .u8 0, .int .u8 0, .int .u8 0, .int .u8 0, .int .u8 0, .int .u8 0, .int .u8 0, .int .u8 0, .int .u8 0, .int .u8 0, .int .u8 0, .int .u8 0, .int .u8 0, .int .u8 0, .slice none 0 0, .bool false, .int .u32 0, .int .i64 0, .bool false, .int .i64 0, .string ⟨#[]⟩] : List Value).toArray).there VQ.toArray.size (by have := HL_VQ.out; simp; omega)
  go_upto_region 9 with (((with_reducible (change wpList _ _ _ _ _ _)); ((refine wpList_store_mid rfl 35 _ _ rfl (w4.heap.size) 0 VQ.toArray rfl rfl ht (by simpa using HI_VQ.out) HO_VQ.out ?_))))
  have HK5 := Lib.hid (HK4.out.put 35 ([.int .i64 0, .int .i64 0, .int .i64 0, .int .u8 0, .int .u8 0, .int .u8 0, .int .u8 0, .int .u8 0, .int .u8 0, .int .u8 0, .int .u8 0, .int .u8 0, .int .u8 0, .int .u8 0, .int .u8 0, .int .u8 0, .int .u8 0, .int .u8 0, .int .u8 0, .int .u8 0, .int .u8 0, .int .u8 0, .int .u8 0, .int .u8 0, .int .u8 0, .int .u8 0, .int .u8 0, .int .u8 0, .int .u8 0, .int .u8 0, .int .u8 0, .int .u8 0, .int .u8 0, .int .u8 0, .int .u8 0, .slice none 0 0, .bool false, .int .u32 0, .int .i64 0, .bool false, .int .i64 0, .string ⟨#[]⟩] : List Value).toArray VQ (by have := HL_VQ.out; simp; omega))
  clear ht HK4
  generalize (w4.alloc (.cells ([.int .i64 0, .int .i64 0, .int .i64 0, .int .u8 0, .int .u8 0, .int .u8 0, .int .u8 0, .int .u8 0, .int .u8 0, .int .u8 0, .int .u8 0, .int .u8 0, .int .u8 0, .int .u8 0, .int .u8 0, .int .u8 0, .int .u8 0, .int .u8 0, .int .u8 0, .int .u8 0, .int .u8 0, .int .u8 0, .int .u8 0, .int .u8 0, .int .u8 0, .int .u8 0, .int .u8 0, .int .u8 0, .int .u8 0, .int .u8 0, .int .u8 0, .int .u8 0, .int .u8 0, .int .u8 0, .int .u8 0, .slice none 0 0, .bool false, .int .u32 0, .int .i64 0, .bool false, .int .i64 0, .string ⟨#[]⟩] : List Value).toArray 35)).setCells w4.heap.size 0 VQ = w5 at *
  generalize w4.heap.size = g9 at *
  go_upto_region 11 with (fail)
  go_wp2_with (fail)
  go_ret
  refine ⟨?_, HK5.out.2.1⟩
  first | rfl | (simp; done) | (simp; omega)
set_option maxRecDepth 100000 in
set_option maxHeartbeats 4000000 in
theorem proto64_law_oth_good (n : Int) (p : P4.Pkt) (w : World) (hd : ¬ (3000 : Int) < (p.data.size : Int)) (ho : ¬ (1000 : Int) < (p.opts.size : Int)) (hp : prOk n = true) (h1 : n ≠ 1) (hh : hcode (wn p n) = 0) :
    Calls Try.prog 8 #[.int .i64 n, .agg p.vals.toArray] w (fun e w' => e = .returned (.bool true) ∧ Below w.heap.size w w') := by
  obtain ⟨hb1, hb2⟩ := protos_back hp
  have hx : pr46 n = n := by exact pr46_other hp h1
  have CP : Hid (∀ W, Calls Try.prog 22 #[.int .i64 n] W fun e w' => e = .returned (.tuple #[.int .i64 n, .bool true]) ∧ W = w') := Lib.hid (fun W => by have := proto_any n W; rw [hx, hp] at this; exact this)
  have CQ : Hid (∀ W, Calls Try.prog 16 #[.int .i64 n] W fun e w' => e = .returned (.tuple #[.int .i64 n, .bool true]) ∧ W = w') := Lib.hid (fun W => by have := proto64_any (pr46 n) W; rw [hb1, hb2, hx] at this; exact this)
  obtain ⟨VQ, hVQ⟩ : ∃ V, V = (h46 (wn p n) exZ exZ exZ_len exZ_len).vals (.slice none 0 0) := ⟨_, rfl⟩
  have CH : Hid (∀ W, Calls Try.prog 21 #[.agg (wn p n).vals.toArray, .agg (bytV exZ).toArray, .agg (bytV exZ).toArray] W fun e w' =>  e = .returned (.tuple #[.agg VQ.toArray, .nilIface]) ∧ Below W.heap.size W w') := Lib.hid (fun W => by
    refine (head_any (wn p n) exZ exZ exZ_len exZ_len W).mono ?_
    rintro e w' ⟨x, rfl, her, b⟩
    rcases her with ⟨_, rfl⟩ | ⟨h, _⟩
    · exact ⟨by rw [hVQ, hout_ok hh], b⟩
    · exact absurd hh h)
  have HC_VQ_40 : Hid (VQ[40]? = some (.int .i64 n)) := Lib.hid (by
    rw [hVQ]
    have h40 : ((h46 (wn p n) exZ exZ exZ_len exZ_len).vals (.slice none 0 0))[40]? = some (.int .i64 (pr46 n)) := vals_tail _ _ 5
    rw [hx] at h40
    exact h40)
  have HI_VQ : Hid ((Try.prog.info? 35).map (·.size) = some (VQ).length) := Lib.hid (by rw [hVQ]; exact Try.info6 _ _)
  have HO_VQ : Hid ((VQ).toArray.all (·.oneCell') = true) := Lib.hid (by rw [hVQ]; exact vals_one _ _ rfl)
  have HL_VQ : Hid ((VQ).length = 42) := Lib.hid (by rw [hVQ]; exact vals_len _ _)
  have HI_VN : Hid ((Try.prog.info? 25).map (·.size) = some ((wn p n).vals).length) := Lib.hid (P4.Try.infoIp _)
  have HO_VN : Hid (((wn p n).vals).toArray.all (·.oneCell') = true) := Lib.hid (P4.vals_one _)
  have HL_VN : Hid (((wn p n).vals).length = 17) := Lib.hid rfl
  have HE1 := Lib.hid (wn_vals p n)
  have HBV := Lib.hid buildV6
  clear hVQ hh hx hp hb1 hb2
  have k1 : (n == 1) = false := by rw [beq_eq_false_iff_ne]; exact h1
  clear h1
  generalize (wn p n).vals = VN at *
  generalize bytV exZ = VZ at *
  have HI_VP : Hid ((Try.prog.info? 25).map (·.size) = some (p.vals).length) := Lib.hid (P4.Try.infoIp _)
  have HO_VP : Hid ((p.vals).toArray.all (·.oneCell') = true) := Lib.hid (P4.vals_one _)
  have HL_VP : Hid ((p.vals).length = 17) := Lib.hid rfl
  have HC_VP_15 : Hid (p.vals[15]? = some (.string p.opts)) := Lib.hid rfl
  have HC_VP_16 : Hid (p.vals[16]? = some (.string p.data)) := Lib.hid rfl
  have HK1 : Hid (Kp w w.heap.size [(w.heap.size, 25, p.vals)] (w.alloc (.cells p.vals.toArray 25))) := Lib.hid ((Kp.start w).new 25 p.vals)
  generalize p.vals = VP at *
  generalize hw1 : w.alloc (.cells VP.toArray 25) = w1 at *
  go_enter Try.func8, Try.ntmps8
  go_upto_region 1 with (fail)
  clear hw1
  go_wp2_with (fail)
  refine (awake64_true _).mono ?_
  rintro e w2 ⟨rfl, bb⟩
  have HK2 := Lib.hid (HK1.out.below bb (Nat.le_refl _))
  clear bb HK1
  have c16 : w2.cell? ⟨w.heap.size, 16, none⟩ = some (.string p.data) := HK2.out.hd.at HC_VP_16.out
  have c15 : w2.cell? ⟨w.heap.size, 15, none⟩ = some (.string p.opts) := HK2.out.hd.at HC_VP_15.out
  go_upto_region 5 with (fail)
  clear c16 c15
  go_wp2_with (fail)
  refine (CP.out _).mono ?_
  rintro e w99 ⟨rfl, rfl⟩
  go_wp2_with (fail)
  refine (CQ.out _).mono ?_
  rintro e w99 ⟨rfl, rfl⟩
  go_upto_region 7 with (fail)
  obtain ⟨uu, hu, hz⟩ := HK2.out.some1 3 (by have := HL_VP.out; omega)
  go_upto_region 8 with (fail)
  have hk := HK2.out.set1 (by intro x hx; cases hx) (Nat.le_refl _) 3 (.int .i64 n)
  rw [HE1.out] at hk
  have HK3 := Lib.hid hk
  clear hk hu hz HK2
  generalize w2.setCell ⟨w.heap.size, 3, none⟩ (.int .i64 n) = w3 at *
  have hr0 := HK3.out.hd.range
  go_wp2_with (((with_reducible (change wpList _ _ _ _ _ _)); (first | (refine wpList_load_mid rfl 25 _ rfl (w.heap.size) 0 rfl (VN) _ hr0 Try.underlying25 rfl HI_VN.out ?_) | (refine Great.wpList_readTo rfl _ rfl (.agg VZ.toArray) (run_execN (T := 32) (l := #[]) (m := #[]) rfl (by simp) (HBV.out _)) ?_))))
  clear hr0
  refine (CH.out _).mono ?_
  rintro e w4 ⟨rfl, bb⟩
  have HK4 := Lib.hid (HK3.out.below bb (Nat.le_refl _))
  clear bb HK3
  have ht := (bk_new w4 35 ([.int .i64 0, .int .i64 0, .int .i64 0, .int .u8 0, .int .u8 0, .int .u8 0, .int .u8 0, .int .u8 0, .int .u8 0, .int .u8 0, .int .u8 0, .int .u8 0, .int .u8 0, .int .u8 0, .int .u8 0, .int .u8 0, .int .u8 0, .int .u8 0, .int .u8 0, .int .u8 0, .int .u8 0, .int .u8 0, .int .u8 0, .int .u8 0, .int .u8 0, .int .u8 0, .int .u8 0, .int .u8 0, .int .u8 0, .int .u8 0, .int .u8 0, .int .u8 0, .int .u8 0, .int .u8 0, .int .u8 0, .slice none 0 0, .bool false, .int .u32 0, .int .i64 0, .bool false, .int .i64 0, .string ⟨#[]⟩] : List Value).toArray).there VQ.toArray.size (by have := HL_VQ.out; simp; omega)
  go_upto_region 9 with (((with_reducible (change wpList _ _ _ _ _ _)); ((refine wpList_store_mid rfl 35 _ _ rfl (w4.heap.size) 0 VQ.toArray rfl rfl ht (by simpa using HI_VQ.out) HO_VQ.out ?_))))
  have HK5 := Lib.hid (HK4.out.put 35 ([.int .i64 0, .int .i64 0, .int .i64 0, .int .u8 0, .int .u8 0, .int .u8 0, .int .u8 0, .int .u8 0, .int .u8 0, .int .u8 0, .int .u8 0, .int .u8 0, .int .u8 0, .int .u8 0, .int .u8 0, .int .u8 0, .int .u8 0, .int .u8 0, .int .u8 0, .int .u8 0, .int .u8 0, .int .u8 0, .int .u8 0, .int .u8 0, .int .u8 0, .int .u8 0, .int .u8 0, .int .u8 0, .int .u8 0, .int .u8 0, .int .u8 0, .int .u8 0, .int .u8 0, .int .u8 0, .int .u8 0, .slice none 0 0, .bool false, .int .u32 0, .int .i64 0, .bool false, .int .i64 0, .string ⟨#[]⟩] : List Value).toArray VQ (by have := HL_VQ.out; simp; omega))
  clear ht HK4
  generalize (w4.alloc (.cells ([.int .i64 0, .int .i64 0, .int .i64 0, .int .u8 0, .int .u8 0, .int .u8 0, .int .u8 0, .int .u8 0, .int .u8 0, .int .u8 0, .int .u8 0, .int .u8 0, .int .u8 0, .int .u8 0, .int .u8 0, .int .u8 0, .int .u8 0, .int .u8 0, .int .u8 0, .int .u8 0, .int .u8 0, .int .u8 0, .int .u8 0, .int .u8 0, .int .u8 0, .int .u8 0, .int .u8 0, .int .u8 0, .int .u8 0, .int .u8 0, .int .u8 0, .int .u8 0, .int .u8 0, .int .u8 0, .int .u8 0, .slice none 0 0, .bool false, .int .u32 0, .int .i64 0, .bool false, .int .i64 0, .string ⟨#[]⟩] : List Value).toArray 35)).setCells w4.heap.size 0 VQ = w5 at *
  generalize w4.heap.size = g9 at *
  go_upto_region 11 with (fail)
  have d40 : w5.cell? ⟨g9, 40, none⟩ = some (.int .i64 n) := HK5.out.hd.at HC_VQ_40.out
  go_wp2_with (fail)
  go_ret
  refine ⟨?_, HK5.out.2.1⟩
  first | rfl | (simp; done) | (simp; omega)
set_option maxRecDepth 100000 in
set_option maxHeartbeats 4000000 in
theorem proto64_law_oth_bad (n : Int) (p : P4.Pkt) (w : World) (hd : ¬ (3000 : Int) < (p.data.size : Int)) (ho : ¬ (1000 : Int) < (p.opts.size : Int)) (hp : prOk n = true) (h1 : n ≠ 1) (hh : hcode (wn p n) ≠ 0) :
    Calls Try.prog 8 #[.int .i64 n, .agg p.vals.toArray] w (fun e w' => e = .returned (.bool true) ∧ Below w.heap.size w w') := by
  obtain ⟨hb1, hb2⟩ := protos_back hp
  have hx : pr46 n = n := by exact pr46_other hp h1
  have CP : Hid (∀ W, Calls Try.prog 22 #[.int .i64 n] W fun e w' => e = .returned (.tuple #[.int .i64 n, .bool true]) ∧ W = w') := Lib.hid (fun W => by have := proto_any n W; rw [hx, hp] at this; exact this)
  have CQ : Hid (∀ W, Calls Try.prog 16 #[.int .i64 n] W fun e w' => e = .returned (.tuple #[.int .i64 n, .bool true]) ∧ W = w') := Lib.hid (fun W => by have := proto64_any (pr46 n) W; rw [hb1, hb2, hx] at this; exact this)
  obtain ⟨VQ, hVQ⟩ : ∃ V, V = pk0.vals (.slice none 0 0) := ⟨_, rfl⟩
  have CH : Hid (∀ W, Calls Try.prog 21 #[.agg (wn p n).vals.toArray, .agg (bytV exZ).toArray, .agg (bytV exZ).toArray] W fun e w' =>  ∃ f : Nat, e = .returned (.tuple #[.agg VQ.toArray, .iface 75 (.pointer (some ⟨f, 0, none⟩))]) ∧ Below W.heap.size W w') := Lib.hid (fun W => by
    refine (head_any (wn p n) exZ exZ exZ_len exZ_len W).mono ?_
    rintro e w' ⟨x, rfl, her, b⟩
    rcases her with ⟨h, _⟩ | ⟨_, f, rfl, _, _⟩
    · exact absurd h hh
    · exact ⟨f, by rw [hVQ, hout_bad hh], b⟩)
  have HI_VQ : Hid ((Try.prog.info? 35).map (·.size) = some (VQ).length) := Lib.hid (by rw [hVQ]; exact Try.info6 _ _)
  have HO_VQ : Hid ((VQ).toArray.all (·.oneCell') = true) := Lib.hid (by rw [hVQ]; exact vals_one _ _ rfl)
  have HL_VQ : Hid ((VQ).length = 42) := Lib.hid (by rw [hVQ]; exact vals_len _ _)
  have HI_VN : Hid ((Try.prog.info? 25).map (·.size) = some ((wn p n).vals).length) := Lib.hid (P4.Try.infoIp _)
  have HO_VN : Hid (((wn p n).vals).toArray.all (·.oneCell') = true) := Lib.hid (P4.vals_one _)
  have HL_VN : Hid (((wn p n).vals).length = 17) := Lib.hid rfl
  have HE1 := Lib.hid (wn_vals p n)
  have HBV := Lib.hid buildV6
  clear hVQ hh hx hp hb1 hb2
  have k1 : (n == 1) = false := by rw [beq_eq_false_iff_ne]; exact h1
  clear h1
  generalize (wn p n).vals = VN at *
  generalize bytV exZ = VZ at *
  have HI_VP : Hid ((Try.prog.info? 25).map (·.size) = some (p.vals).length) := Lib.hid (P4.Try.infoIp _)
  have HO_VP : Hid ((p.vals).toArray.all (·.oneCell') = true) := Lib.hid (P4.vals_one _)
  have HL_VP : Hid ((p.vals).length = 17) := Lib.hid rfl
  have HC_VP_15 : Hid (p.vals[15]? = some (.string p.opts)) := Lib.hid rfl
  have HC_VP_16 : Hid (p.vals[16]? = some (.string p.data)) := Lib.hid rfl
  have HK1 : Hid (Kp w w.heap.size [(w.heap.size, 25, p.vals)] (w.alloc (.cells p.vals.toArray 25))) := Lib.hid ((Kp.start w).new 25 p.vals)
  generalize p.vals = VP at *
  generalize hw1 : w.alloc (.cells VP.toArray 25) = w1 at *
  go_enter Try.func8, Try.ntmps8
  go_upto_region 1 with (fail)
  clear hw1
  go_wp2_with (fail)
  refine (awake64_true _).mono ?_
  rintro e w2 ⟨rfl, bb⟩
  have HK2 := Lib.hid (HK1.out.below bb (Nat.le_refl _))
  clear bb HK1
  have c16 : w2.cell? ⟨w.heap.size, 16, none⟩ = some (.string p.data) := HK2.out.hd.at HC_VP_16.out
  have c15 : w2.cell? ⟨w.heap.size, 15, none⟩ = some (.string p.opts) := HK2.out.hd.at HC_VP_15.out
  go_upto_region 5 with (fail)
  clear c16 c15
  go_wp2_with (fail)
  refine (CP.out _).mono ?_
  rintro e w99 ⟨rfl, rfl⟩
  go_wp2_with (fail)
  refine (CQ.out _).mono ?_
  rintro e w99 ⟨rfl, rfl⟩
  go_upto_region 7 with (fail)
  obtain ⟨uu, hu, hz⟩ := HK2.out.some1 3 (by have := HL_VP.out; omega)
  go_upto_region 8 with (fail)
  have hk := HK2.out.set1 (by intro x hx; cases hx) (Nat.le_refl _) 3 (.int .i64 n)
  rw [HE1.out] at hk
  have HK3 := Lib.hid hk
  clear hk hu hz HK2
  generalize w2.setCell ⟨w.heap.size, 3, none⟩ (.int .i64 n) = w3 at *
  have hr0 := HK3.out.hd.range
  go_wp2_with (((with_reducible (change wpList _ _ _ _ _ _)); (first | (refine wpList_load_mid rfl 25 _ rfl (w.heap.size) 0 rfl (VN) _ hr0 Try.underlying25 rfl HI_VN.out ?_) | (refine Great.wpList_readTo rfl _ rfl (.agg VZ.toArray) (run_execN (T := 32) (l := #[]) (m := #[]) rfl (by simp) (HBV.out _)) ?_))))
  clear hr0
  refine (CH.out _).mono ?_
  rintro e w4 ⟨f, rfl, bb⟩
  have HK4 := Lib.hid (HK3.out.below bb (Nat.le_refl _))
  clear bb HK3
  have ht := (bk_new w4 35 ([.int .i64 0, .int .i64 0, .int .i64 0, .int .u8 0, .int .u8 0, .int .u8 0, .int .u8 0, .int .u8 0, .int .u8 0, .int .u8 0, .int .u8 0, .int .u8 0, .int .u8 0, .int .u8 0, .int .u8 0, .int .u8 0, .int .u8 0, .int .u8 0, .int .u8 0, .int .u8 0, .int .u8 0, .int .u8 0, .int .u8 0, .int .u8 0, .int .u8 0, .int .u8 0, .int .u8 0, .int .u8 0, .int .u8 0, .int .u8 0, .int .u8 0, .int .u8 0, .int .u8 0, .int .u8 0, .int .u8 0, .slice none 0 0, .bool false, .int .u32 0, .int .i64 0, .bool false, .int .i64 0, .string ⟨#[]⟩] : List Value).toArray).there VQ.toArray.size (by have := HL_VQ.out; simp; omega)
  go_upto_region 9 with (((with_reducible (change wpList _ _ _ _ _ _)); ((refine wpList_store_mid rfl 35 _ _ rfl (w4.heap.size) 0 VQ.toArray rfl rfl ht (by simpa using HI_VQ.out) HO_VQ.out ?_))))
  have HK5 := Lib.hid (HK4.out.put 35 ([.int .i64 0, .int .i64 0, .int .i64 0, .int .u8 0, .int .u8 0, .int .u8 0, .int .u8 0, .int .u8 0, .int .u8 0, .int .u8 0, .int .u8 0, .int .u8 0, .int .u8 0, .int .u8 0, .int .u8 0, .int .u8 0, .int .u8 0, .int .u8 0, .int .u8 0, .int .u8 0, .int .u8 0, .int .u8 0, .int .u8 0, .int .u8 0, .int .u8 0, .int .u8 0, .int .u8 0, .int .u8 0, .int .u8 0, .int .u8 0, .int .u8 0, .int .u8 0, .int .u8 0, .int .u8 0, .int .u8 0, .slice none 0 0, .bool false, .int .u32 0, .int .i64 0, .bool false, .int .i64 0, .string ⟨#[]⟩] : List Value).toArray VQ (by have := HL_VQ.out; simp; omega))
  clear ht HK4
  generalize (w4.alloc (.cells ([.int .i64 0, .int .i64 0, .int .i64 0, .int .u8 0, .int .u8 0, .int .u8 0, .int .u8 0, .int .u8 0, .int .u8 0, .int .u8 0, .int .u8 0, .int .u8 0, .int .u8 0, .int .u8 0, .int .u8 0, .int .u8 0, .int .u8 0, .int .u8 0, .int .u8 0, .int .u8 0, .int .u8 0, .int .u8 0, .int .u8 0, .int .u8 0, .int .u8 0, .int .u8 0, .int .u8 0, .int .u8 0, .int .u8 0, .int .u8 0, .int .u8 0, .int .u8 0, .int .u8 0, .int .u8 0, .int .u8 0, .slice none 0 0, .bool false, .int .u32 0, .int .i64 0, .bool false, .int .i64 0, .string ⟨#[]⟩] : List Value).toArray 35)).setCells w4.heap.size 0 VQ = w5 at *
  generalize w4.heap.size = g9 at *
  go_upto_region 11 with (fail)
  go_wp2_with (fail)
  go_ret
  refine ⟨?_, HK5.out.2.1⟩
  first | rfl | (simp; done) | (simp; omega)
theorem head64Proto_any (n : Int) (p : P4.Pkt) (w : World) :
    Calls Try.prog 8 #[.int .i64 n, .agg p.vals.toArray] w (fun e w' => e = .returned (.bool true) ∧ Below w.heap.size w w') := by
  by_cases hd : (3000 : Int) < (p.data.size : Int)
  · exact proto64_law_data n p w hd
  by_cases ho : (1000 : Int) < (p.opts.size : Int)
  · exact proto64_law_opts n p w hd ho
  cases hp : prOk n
  · exact proto64_law_none n p w hd ho hp
  · by_cases h1 : n = 1
    · by_cases hh : hcode (wn p n) = 0
      · exact proto64_law_one_good n p w hd ho hp h1 hh
      · exact proto64_law_one_bad n p w hd ho hp h1 hh
    · by_cases hh : hcode (wn p n) = 0
      · exact proto64_law_oth_good n p w hd ho hp h1 hh
      · exact proto64_law_oth_bad n p w hd ho hp h1 hh
end Go.Proofs.Ytkihhmnlefekoaa
