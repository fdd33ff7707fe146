/-
  Proved here: what the program's said4 and parameters4 answer.
  Conditions: none.
-/
import Derived.Test.YtnehabpdpkjaeaaDoorPb
import Derived.Test.YtnehabpdpkjaeaaDoorR6a
namespace Go.Proofs.YtnehabpdpkjaeaaDoor
open Go.RowKit

/-- What a message of IPv6 about a parameter is over IPv4, without Data. -/
def par4 (m : Mg) : Mg × Bool := if m.cd = 0 then (⟨12, 0, (pp (ptr4 m.rs)).1 * 16777216, ⟨#[]⟩⟩, (pp (ptr4 m.rs)).2) else if m.cd = 1 then (⟨3, 2, 0, ⟨#[]⟩⟩, true) else (mg0, false)
/-- What a message of IPv6 is over IPv4, without MTU and Data. -/
def said4 (m : Mg) : Mg × Bool := if m.kd = 128 then (⟨8, 0, m.rs, ⟨#[]⟩⟩, decide (m.cd = 0)) else if m.kd = 129 then (⟨0, 0, m.rs, ⟨#[]⟩⟩, decide (m.cd = 0)) else if m.kd = 1 then unr4 m.cd else if m.kd = 2 then (⟨3, 4, 0, ⟨#[]⟩⟩, decide (m.cd = 0)) else if m.kd = 3 then (⟨11, m.cd, 0, ⟨#[]⟩⟩, decide (m.cd = 0 ∨ m.cd = 1)) else if m.kd = 4 then par4 m else (mg0, false)
/-- What a message of IPv4 is over IPv6, without MTU and Data. -/
def said6 (m : Mg) : Mg × Bool := if m.kd = 8 then (⟨128, 0, m.rs, ⟨#[]⟩⟩, decide (m.cd = 0)) else if m.kd = 0 then (⟨129, 0, m.rs, ⟨#[]⟩⟩, decide (m.cd = 0)) else if m.kd = 3 then unr6 m.cd else if m.kd = 11 then (⟨3, m.cd, 0, ⟨#[]⟩⟩, decide (m.cd = 0 ∨ m.cd = 1)) else if m.kd = 12 then (⟨4, 0, (pp (ptr6 (m.rs / 16777216))).1, ⟨#[]⟩⟩, (pp (ptr6 (m.rs / 16777216))).2 && decide (m.cd = 0 ∨ m.cd = 2)) else (mg0, false)
set_option maxRecDepth 100000 in
set_option maxHeartbeats 4000000 in
theorem sd4_k128_0 (m : Mg) (w : World) (h1 : m.kd = 128) (h2 : m.cd = 0) : Calls Tryd.prog 21 #[.agg m.vals.toArray] w fun e w' => e = .returned (.tuple #[.agg (said4 m).1.vals.toArray, .bool (said4 m).2]) ∧ Below w.heap.size w w' := by
  have HS : Hid (said4 m = (⟨8, 0, m.rs, ⟨#[]⟩⟩, true)) := Lib.hid (by unfold said4; simp [h1, h2])
  obtain ⟨V0, hV0⟩ : ∃ V, V = mg0.vals := ⟨_, rfl⟩
  have HB0 : Hid (∀ W, (Instr.build 24 #[]).run Tryd.prog W = .ok (.agg V0.toArray) W) := Lib.hid (fun W => by rw [hV0]; exact mgBuild W)
  have HI_V0 : Hid ((Tryd.prog.info? 24).map (·.size) = some V0.length) := Lib.hid (by rw [hV0]; exact Tryd.infoMg _)
  have HO_V0 : Hid (V0.toArray.all (·.oneCell') = true) := Lib.hid (by rw [hV0]; exact mg_one _)
  have HL_V0 : Hid (V0.length = 4) := Lib.hid (by rw [hV0]; rfl)
  have hz0 : V0.toArray = #[.int .i64 0, .int .i64 0, .int .u32 0, .string ⟨#[]⟩] := by rw [hV0]; rfl
  have HV0 := Lib.hid hV0
  clear hV0
  have HI_VM : Hid ((Tryd.prog.info? 24).map (·.size) = some m.vals.length) := Lib.hid (Tryd.infoMg _)
  have HM0 : Hid (m.vals[0]? = some (.int .i64 128)) := Lib.hid (by rw [← h1]; rfl)
  have HM1 : Hid (m.vals[1]? = some (.int .i64 0)) := Lib.hid (by rw [← h2]; rfl)
  have HM2 : Hid (m.vals[2]? = some (.int .u32 m.rs)) := Lib.hid (by exact rfl)
  have HM3 : Hid (m.vals[3]? = some (.string m.da)) := Lib.hid (by exact rfl)
  have HK1 : Hid (Kp w w.heap.size [(w.heap.size + 1, 24, V0), (w.heap.size, 24, m.vals)] ((w.alloc (.cells m.vals.toArray 24)).alloc (.cells V0.toArray 24))) := Lib.hid (by
    have h := (Kp.start w).new 24 m.vals
    have e1 : (w.alloc (.cells m.vals.toArray 24)).heap.size = w.heap.size + 1 := by simp
    have h2 := h.new 24 V0
    rwa [e1] at h2)
  generalize m.vals = VM at *
  generalize hw1 : (w.alloc (.cells VM.toArray 24)).alloc (.cells V0.toArray 24) = w1 at *
  rw [hz0] at hw1
  go_enter Tryd.func21, Tryd.ntmps21
  go_upto_region 1 with (fail)
  clear hw1 hz0
  have c0 : w1.cell? ⟨w.heap.size, 0, none⟩ = some (.int .i64 128) := HK1.out.tl.hd.at HM0.out
  go_upto_region 3 with (fail)
  clear c0
  have HIN : Hid ((Tryd.prog.info? 24).map (·.size) = some ([.int .i64 8, .int .i64 0, .int .u32 m.rs, .string ⟨#[]⟩] : List Value).length) := Lib.hid (Tryd.infoMg (⟨8, 0, m.rs, ⟨#[]⟩⟩ : Mg))
  have HKR : Hid (∀ W : World, Kp w w.heap.size [(w.heap.size, 24, VM)] W → (fun W => Kp w w.heap.size [(w.heap.size, 24, VM)] W ∧ W.cell? ⟨w.heap.size, 1, none⟩ = some (.int .i64 0) ∧ W.cell? ⟨w.heap.size, 2, none⟩ = some (.int .u32 m.rs)) W) := Lib.hid (fun W h => ⟨h, h.hd.at HM1.out, h.hd.at HM2.out⟩)
  have hkc := HK1.out.drew.hd
  have htf := hkc.there 4 (by have := HL_V0.out; simp; omega)
  refine wp_region_noPanic ?_
  refine wp_region_held_drew (S := fun W => Kp w w.heap.size [(w.heap.size, 24, VM)] W ∧ W.cell? ⟨w.heap.size, 1, none⟩ = some (.int .i64 0) ∧ W.cell? ⟨w.heap.size, 2, none⟩ = some (.int .u32 m.rs)) (by kernel_rfl) (HKR.out _ HK1.out.tl.drew) (fun hHeld => ?_)
  refine wpAnyH_take (i := 0) (oi := { dst := some 8, op := Op.fieldAddr 24 (Operand.tmp 1) 2, type := 0, pos := "icmpmap.go:155", after := #[], guard := none }) (v := ?_) rfl (by kernel_rfl) (by kernel_rfl) (by kernel_rfl) (fun _ _ _ h => h) (Or.inl ⟨by rfl, ?_⟩) (by assumption) ?_
  rotate_left
  · (intro ww hSw; (try dsimp only at hSw); go_simp; try with_reducible rfl)
  (try simp only [Act.put, List.setIfInBounds_toArray, List.set_cons_zero, List.set_cons_succ])
  refine wpAnyH_take (i := 1) (oi := { dst := some 9, op := Op.load 22 (Operand.tmp 8), type := 22, pos := "icmpmap.go:155", after := #[{ on := 0, ground := Ground.data }], guard := none }) (v := ?_) rfl (by kernel_rfl) (by kernel_rfl) (by kernel_rfl) (fun _ _ _ h => h) (Or.inl ⟨by rfl, ?_⟩) (by assumption) ?_
  rotate_left
  · (intro ww hSw; (try dsimp only at hSw); go_simp; try with_reducible rfl)
  (try simp only [Act.put, List.setIfInBounds_toArray, List.set_cons_zero, List.set_cons_succ])
  refine wpAnyH_take (i := 2) (oi := { dst := some 10, op := Op.build 24 #[(0, Operand.const (Value.int IntKind.i64 8)), (2, Operand.tmp 9)], type := 24, pos := "icmpmap.go:155", after := #[{ on := 1, ground := Ground.data }], guard := none }) (v := ?_) rfl (by kernel_rfl) (by kernel_rfl) (by kernel_rfl) (fun _ _ _ h => h) (Or.inl ⟨by rfl, ?_⟩) (by assumption) ?_
  rotate_left
  · (intro ww hSw; (try dsimp only at hSw); go_simp; try with_reducible rfl)
  (try simp only [Act.put, List.setIfInBounds_toArray, List.set_cons_zero, List.set_cons_succ])
  refine wpAnyH_take (i := 3) (oi := { dst := some 11, op := Op.fieldAddr 24 (Operand.tmp 1) 1, type := 0, pos := "icmpmap.go:155", after := #[{ on := 6, ground := Ground.gcOnly Departure.lateStores }], guard := none }) (v := ?_) rfl (by kernel_rfl) (by kernel_rfl) (by kernel_rfl) (fun _ _ _ h => h) (Or.inl ⟨by rfl, ?_⟩) (by assumption) ?_
  rotate_left
  · (intro ww hSw; (try dsimp only at hSw); go_simp; try with_reducible rfl)
  (try simp only [Act.put, List.setIfInBounds_toArray, List.set_cons_zero, List.set_cons_succ])
  refine wpAnyH_take (i := 4) (oi := { dst := some 12, op := Op.load 3 (Operand.tmp 11), type := 3, pos := "icmpmap.go:155", after := #[{ on := 3, ground := Ground.data }, { on := 6, ground := Ground.gcOnly Departure.lateStores }], guard := none }) (v := ?_) rfl (by kernel_rfl) (by kernel_rfl) (by kernel_rfl) (fun _ _ _ h => h) (Or.inl ⟨by rfl, ?_⟩) (by assumption) ?_
  rotate_left
  · (intro ww hSw; (try dsimp only at hSw); go_simp; try with_reducible rfl)
  (try simp only [Act.put, List.setIfInBounds_toArray, List.set_cons_zero, List.set_cons_succ])
  refine wpAnyH_take (i := 5) (oi := { dst := some 13, op := Op.binOp BinOp.eql 3 (Operand.tmp 12) (Operand.const (Value.int IntKind.i64 0)) 3, type := 4, pos := "icmpmap.go:155", after := #[{ on := 4, ground := Ground.data }, { on := 6, ground := Ground.gcOnly Departure.lateStores }], guard := none }) (v := ?_) rfl (by kernel_rfl) (by kernel_rfl) (by kernel_rfl) (fun _ _ _ h => h) (Or.inl ⟨by rfl, ?_⟩) (by assumption) ?_
  rotate_left
  · (intro ww hSw; (try dsimp only at hSw); go_simp; try with_reducible rfl)
  (try simp only [Act.put, List.setIfInBounds_toArray, List.set_cons_zero, List.set_cons_succ])
  refine wpAnyH_ready (rs := [6]) (by kernel_rfl) (by simp) ?_
  refine AllReadyH.cons (o := { dst := none, op := Op.store 24 (Operand.tmp 2) (Operand.tmp 10), type := 0, pos := "icmpmap.go:155", after := #[{ on := 2, ground := Ground.data }, { on := 0, ground := Ground.phase }, { on := 1, ground := Ground.phase }, { on := 2, ground := Ground.phase }, { on := 3, ground := Ground.textOnly Departure.lateStores }, { on := 4, ground := Ground.textOnly Departure.lateStores }, { on := 5, ground := Ground.textOnly Departure.lateStores }], guard := none }) rfl (fun K hK => ?_) AllReadyH.nil
  rw [if_pos (by rfl)]
  have hne : ∀ x ∈ [(w.heap.size, 24, VM)], x.1 ≠ w.heap.size + 1 := fun x hx => by simp at hx; rw [hx]; omega
  have hS := Bk.sets [.int .i64 8, .int .i64 0, .int .u32 m.rs, .string ⟨#[]⟩] 0 _ _ hkc
  rw [puts_whole V0.toArray [.int .i64 8, .int .i64 0, .int .u32 m.rs, .string ⟨#[]⟩] (by have := HL_V0.out; simp; omega)] at hS
  refine wp_store_mid 24 _ _ rfl (w.heap.size + 1) 0 ([.int .i64 8, .int .i64 0, .int .u32 m.rs, .string ⟨#[]⟩] : List Value).toArray rfl rfl htf (by simpa using HIN.out) (by simp [Value.oneCell']) ?_
  refine hK.out _ _ (HKR.out _ ((And.left hHeld).sets hne (Nat.le_succ _) 0 [.int .i64 8, .int .i64 0, .int .u32 m.rs, .string ⟨#[]⟩])) (fun hHeld => ?_)
  clear hK K
  (try simp only [Act.put])
  refine wpAnyH_take (i := 7) (oi := { dst := some 3, op := Op.assign (Operand.tmp 13), type := 4, pos := "icmpmap.go:155", after := #[{ on := 5, ground := Ground.data }, { on := 6, ground := Ground.chain }, { on := 0, ground := Ground.phase }, { on := 1, ground := Ground.phase }, { on := 2, ground := Ground.phase }, { on := 3, ground := Ground.phase }, { on := 4, ground := Ground.phase }, { on := 5, ground := Ground.phase }, { on := 6, ground := Ground.phase }], guard := none }) (v := ?_) rfl (by kernel_rfl) (by kernel_rfl) (by kernel_rfl) (fun _ _ _ h => h) (Or.inl ⟨by rfl, ?_⟩) (by assumption) ?_
  rotate_left
  · (intro ww hSw; (try dsimp only at hSw); go_simp; try with_reducible rfl)
  (try simp only [Act.put, List.setIfInBounds_toArray, List.set_cons_zero, List.set_cons_succ])
  refine wpAnyH_done (by kernel_rfl) ?_ _
  refine NoPanic.normal ?_
  have HSS := Lib.hid hS
  have HB := Lib.hid (And.left hHeld).2.1
  clear hS hHeld
  go_wp2_with fail
  refine bodyPost_ret (v := .tuple #[.agg ([.int .i64 8, .int .i64 0, .int .u32 m.rs, .string ⟨#[]⟩] : List Value).toArray, .bool true]) ?_ rfl ?_
  · exact results_cell2 rfl rfl rfl (run_loadVar_mid _ (w.heap.size + 1) 0 24 [.int .i64 8, .int .i64 0, .int .u32 m.rs, .string ⟨#[]⟩] _ HSS.out.range Tryd.underlying24 rfl HIN.out)
  · rw [HS.out]
    exact ⟨rfl, HB.out⟩
set_option maxRecDepth 100000 in
set_option maxHeartbeats 4000000 in
theorem sd4_k128_n (m : Mg) (w : World) (h1 : m.kd = 128) (g0 : m.cd ≠ 0) : Calls Tryd.prog 21 #[.agg m.vals.toArray] w fun e w' => e = .returned (.tuple #[.agg (said4 m).1.vals.toArray, .bool (said4 m).2]) ∧ Below w.heap.size w w' := by
  have HS : Hid (said4 m = (⟨8, 0, m.rs, ⟨#[]⟩⟩, false)) := Lib.hid (by unfold said4; simp [h1, g0])
  have e0 : (m.cd == 0) = false := by rw [beq_eq_false_iff_ne]; exact g0
  obtain ⟨V0, hV0⟩ : ∃ V, V = mg0.vals := ⟨_, rfl⟩
  have HB0 : Hid (∀ W, (Instr.build 24 #[]).run Tryd.prog W = .ok (.agg V0.toArray) W) := Lib.hid (fun W => by rw [hV0]; exact mgBuild W)
  have HI_V0 : Hid ((Tryd.prog.info? 24).map (·.size) = some V0.length) := Lib.hid (by rw [hV0]; exact Tryd.infoMg _)
  have HO_V0 : Hid (V0.toArray.all (·.oneCell') = true) := Lib.hid (by rw [hV0]; exact mg_one _)
  have HL_V0 : Hid (V0.length = 4) := Lib.hid (by rw [hV0]; rfl)
  have hz0 : V0.toArray = #[.int .i64 0, .int .i64 0, .int .u32 0, .string ⟨#[]⟩] := by rw [hV0]; rfl
  have HV0 := Lib.hid hV0
  clear hV0
  have HI_VM : Hid ((Tryd.prog.info? 24).map (·.size) = some m.vals.length) := Lib.hid (Tryd.infoMg _)
  have HM0 : Hid (m.vals[0]? = some (.int .i64 128)) := Lib.hid (by rw [← h1]; rfl)
  have HM1 : Hid (m.vals[1]? = some (.int .i64 m.cd)) := Lib.hid (by exact rfl)
  have HM2 : Hid (m.vals[2]? = some (.int .u32 m.rs)) := Lib.hid (by exact rfl)
  have HM3 : Hid (m.vals[3]? = some (.string m.da)) := Lib.hid (by exact rfl)
  have HK1 : Hid (Kp w w.heap.size [(w.heap.size + 1, 24, V0), (w.heap.size, 24, m.vals)] ((w.alloc (.cells m.vals.toArray 24)).alloc (.cells V0.toArray 24))) := Lib.hid (by
    have h := (Kp.start w).new 24 m.vals
    have e1 : (w.alloc (.cells m.vals.toArray 24)).heap.size = w.heap.size + 1 := by simp
    have h2 := h.new 24 V0
    rwa [e1] at h2)
  generalize m.vals = VM at *
  generalize hw1 : (w.alloc (.cells VM.toArray 24)).alloc (.cells V0.toArray 24) = w1 at *
  rw [hz0] at hw1
  go_enter Tryd.func21, Tryd.ntmps21
  go_upto_region 1 with (fail)
  clear hw1 hz0
  have c0 : w1.cell? ⟨w.heap.size, 0, none⟩ = some (.int .i64 128) := HK1.out.tl.hd.at HM0.out
  go_upto_region 3 with (fail)
  clear c0
  have HIN : Hid ((Tryd.prog.info? 24).map (·.size) = some ([.int .i64 8, .int .i64 0, .int .u32 m.rs, .string ⟨#[]⟩] : List Value).length) := Lib.hid (Tryd.infoMg (⟨8, 0, m.rs, ⟨#[]⟩⟩ : Mg))
  have HKR : Hid (∀ W : World, Kp w w.heap.size [(w.heap.size, 24, VM)] W → (fun W => Kp w w.heap.size [(w.heap.size, 24, VM)] W ∧ W.cell? ⟨w.heap.size, 1, none⟩ = some (.int .i64 m.cd) ∧ W.cell? ⟨w.heap.size, 2, none⟩ = some (.int .u32 m.rs)) W) := Lib.hid (fun W h => ⟨h, h.hd.at HM1.out, h.hd.at HM2.out⟩)
  have hkc := HK1.out.drew.hd
  have htf := hkc.there 4 (by have := HL_V0.out; simp; omega)
  refine wp_region_noPanic ?_
  refine wp_region_held_drew (S := fun W => Kp w w.heap.size [(w.heap.size, 24, VM)] W ∧ W.cell? ⟨w.heap.size, 1, none⟩ = some (.int .i64 m.cd) ∧ W.cell? ⟨w.heap.size, 2, none⟩ = some (.int .u32 m.rs)) (by kernel_rfl) (HKR.out _ HK1.out.tl.drew) (fun hHeld => ?_)
  refine wpAnyH_take (i := 0) (oi := { dst := some 8, op := Op.fieldAddr 24 (Operand.tmp 1) 2, type := 0, pos := "icmpmap.go:155", after := #[], guard := none }) (v := ?_) rfl (by kernel_rfl) (by kernel_rfl) (by kernel_rfl) (fun _ _ _ h => h) (Or.inl ⟨by rfl, ?_⟩) (by assumption) ?_
  rotate_left
  · (intro ww hSw; (try dsimp only at hSw); go_simp; try with_reducible rfl)
  (try simp only [Act.put, List.setIfInBounds_toArray, List.set_cons_zero, List.set_cons_succ])
  refine wpAnyH_take (i := 1) (oi := { dst := some 9, op := Op.load 22 (Operand.tmp 8), type := 22, pos := "icmpmap.go:155", after := #[{ on := 0, ground := Ground.data }], guard := none }) (v := ?_) rfl (by kernel_rfl) (by kernel_rfl) (by kernel_rfl) (fun _ _ _ h => h) (Or.inl ⟨by rfl, ?_⟩) (by assumption) ?_
  rotate_left
  · (intro ww hSw; (try dsimp only at hSw); go_simp; try with_reducible rfl)
  (try simp only [Act.put, List.setIfInBounds_toArray, List.set_cons_zero, List.set_cons_succ])
  refine wpAnyH_take (i := 2) (oi := { dst := some 10, op := Op.build 24 #[(0, Operand.const (Value.int IntKind.i64 8)), (2, Operand.tmp 9)], type := 24, pos := "icmpmap.go:155", after := #[{ on := 1, ground := Ground.data }], guard := none }) (v := ?_) rfl (by kernel_rfl) (by kernel_rfl) (by kernel_rfl) (fun _ _ _ h => h) (Or.inl ⟨by rfl, ?_⟩) (by assumption) ?_
  rotate_left
  · (intro ww hSw; (try dsimp only at hSw); go_simp; try with_reducible rfl)
  (try simp only [Act.put, List.setIfInBounds_toArray, List.set_cons_zero, List.set_cons_succ])
  refine wpAnyH_take (i := 3) (oi := { dst := some 11, op := Op.fieldAddr 24 (Operand.tmp 1) 1, type := 0, pos := "icmpmap.go:155", after := #[{ on := 6, ground := Ground.gcOnly Departure.lateStores }], guard := none }) (v := ?_) rfl (by kernel_rfl) (by kernel_rfl) (by kernel_rfl) (fun _ _ _ h => h) (Or.inl ⟨by rfl, ?_⟩) (by assumption) ?_
  rotate_left
  · (intro ww hSw; (try dsimp only at hSw); go_simp; try with_reducible rfl)
  (try simp only [Act.put, List.setIfInBounds_toArray, List.set_cons_zero, List.set_cons_succ])
  refine wpAnyH_take (i := 4) (oi := { dst := some 12, op := Op.load 3 (Operand.tmp 11), type := 3, pos := "icmpmap.go:155", after := #[{ on := 3, ground := Ground.data }, { on := 6, ground := Ground.gcOnly Departure.lateStores }], guard := none }) (v := ?_) rfl (by kernel_rfl) (by kernel_rfl) (by kernel_rfl) (fun _ _ _ h => h) (Or.inl ⟨by rfl, ?_⟩) (by assumption) ?_
  rotate_left
  · (intro ww hSw; (try dsimp only at hSw); go_simp; try with_reducible rfl)
  (try simp only [Act.put, List.setIfInBounds_toArray, List.set_cons_zero, List.set_cons_succ])
  refine wpAnyH_take (i := 5) (oi := { dst := some 13, op := Op.binOp BinOp.eql 3 (Operand.tmp 12) (Operand.const (Value.int IntKind.i64 0)) 3, type := 4, pos := "icmpmap.go:155", after := #[{ on := 4, ground := Ground.data }, { on := 6, ground := Ground.gcOnly Departure.lateStores }], guard := none }) (v := ?_) rfl (by kernel_rfl) (by kernel_rfl) (by kernel_rfl) (fun _ _ _ h => h) (Or.inl ⟨by rfl, ?_⟩) (by assumption) ?_
  rotate_left
  · (intro ww hSw; (try dsimp only at hSw); go_simp; try with_reducible rfl)
  (try simp only [Act.put, List.setIfInBounds_toArray, List.set_cons_zero, List.set_cons_succ])
  refine wpAnyH_ready (rs := [6]) (by kernel_rfl) (by simp) ?_
  refine AllReadyH.cons (o := { dst := none, op := Op.store 24 (Operand.tmp 2) (Operand.tmp 10), type := 0, pos := "icmpmap.go:155", after := #[{ on := 2, ground := Ground.data }, { on := 0, ground := Ground.phase }, { on := 1, ground := Ground.phase }, { on := 2, ground := Ground.phase }, { on := 3, ground := Ground.textOnly Departure.lateStores }, { on := 4, ground := Ground.textOnly Departure.lateStores }, { on := 5, ground := Ground.textOnly Departure.lateStores }], guard := none }) rfl (fun K hK => ?_) AllReadyH.nil
  rw [if_pos (by rfl)]
  have hne : ∀ x ∈ [(w.heap.size, 24, VM)], x.1 ≠ w.heap.size + 1 := fun x hx => by simp at hx; rw [hx]; omega
  have hS := Bk.sets [.int .i64 8, .int .i64 0, .int .u32 m.rs, .string ⟨#[]⟩] 0 _ _ hkc
  rw [puts_whole V0.toArray [.int .i64 8, .int .i64 0, .int .u32 m.rs, .string ⟨#[]⟩] (by have := HL_V0.out; simp; omega)] at hS
  refine wp_store_mid 24 _ _ rfl (w.heap.size + 1) 0 ([.int .i64 8, .int .i64 0, .int .u32 m.rs, .string ⟨#[]⟩] : List Value).toArray rfl rfl htf (by simpa using HIN.out) (by simp [Value.oneCell']) ?_
  refine hK.out _ _ (HKR.out _ ((And.left hHeld).sets hne (Nat.le_succ _) 0 [.int .i64 8, .int .i64 0, .int .u32 m.rs, .string ⟨#[]⟩])) (fun hHeld => ?_)
  clear hK K
  (try simp only [Act.put])
  refine wpAnyH_take (i := 7) (oi := { dst := some 3, op := Op.assign (Operand.tmp 13), type := 4, pos := "icmpmap.go:155", after := #[{ on := 5, ground := Ground.data }, { on := 6, ground := Ground.chain }, { on := 0, ground := Ground.phase }, { on := 1, ground := Ground.phase }, { on := 2, ground := Ground.phase }, { on := 3, ground := Ground.phase }, { on := 4, ground := Ground.phase }, { on := 5, ground := Ground.phase }, { on := 6, ground := Ground.phase }], guard := none }) (v := ?_) rfl (by kernel_rfl) (by kernel_rfl) (by kernel_rfl) (fun _ _ _ h => h) (Or.inl ⟨by rfl, ?_⟩) (by assumption) ?_
  rotate_left
  · (intro ww hSw; (try dsimp only at hSw); go_simp; try with_reducible rfl)
  (try simp only [Act.put, List.setIfInBounds_toArray, List.set_cons_zero, List.set_cons_succ])
  refine wpAnyH_done (by kernel_rfl) ?_ _
  refine NoPanic.normal ?_
  have HSS := Lib.hid hS
  have HB := Lib.hid (And.left hHeld).2.1
  clear hS hHeld
  go_wp2_with fail
  refine bodyPost_ret (v := .tuple #[.agg ([.int .i64 8, .int .i64 0, .int .u32 m.rs, .string ⟨#[]⟩] : List Value).toArray, .bool false]) ?_ rfl ?_
  · exact results_cell2 rfl rfl rfl (run_loadVar_mid _ (w.heap.size + 1) 0 24 [.int .i64 8, .int .i64 0, .int .u32 m.rs, .string ⟨#[]⟩] _ HSS.out.range Tryd.underlying24 rfl HIN.out)
  · rw [HS.out]
    exact ⟨rfl, HB.out⟩
set_option maxRecDepth 100000 in
set_option maxHeartbeats 4000000 in
theorem sd4_k129_0 (m : Mg) (w : World) (h1 : m.kd = 129) (h2 : m.cd = 0) : Calls Tryd.prog 21 #[.agg m.vals.toArray] w fun e w' => e = .returned (.tuple #[.agg (said4 m).1.vals.toArray, .bool (said4 m).2]) ∧ Below w.heap.size w w' := by
  have HS : Hid (said4 m = (⟨0, 0, m.rs, ⟨#[]⟩⟩, true)) := Lib.hid (by unfold said4; simp [h1, h2])
  obtain ⟨V0, hV0⟩ : ∃ V, V = mg0.vals := ⟨_, rfl⟩
  have HB0 : Hid (∀ W, (Instr.build 24 #[]).run Tryd.prog W = .ok (.agg V0.toArray) W) := Lib.hid (fun W => by rw [hV0]; exact mgBuild W)
  have HI_V0 : Hid ((Tryd.prog.info? 24).map (·.size) = some V0.length) := Lib.hid (by rw [hV0]; exact Tryd.infoMg _)
  have HO_V0 : Hid (V0.toArray.all (·.oneCell') = true) := Lib.hid (by rw [hV0]; exact mg_one _)
  have HL_V0 : Hid (V0.length = 4) := Lib.hid (by rw [hV0]; rfl)
  have hz0 : V0.toArray = #[.int .i64 0, .int .i64 0, .int .u32 0, .string ⟨#[]⟩] := by rw [hV0]; rfl
  have HV0 := Lib.hid hV0
  clear hV0
  have HI_VM : Hid ((Tryd.prog.info? 24).map (·.size) = some m.vals.length) := Lib.hid (Tryd.infoMg _)
  have HM0 : Hid (m.vals[0]? = some (.int .i64 129)) := Lib.hid (by rw [← h1]; rfl)
  have HM1 : Hid (m.vals[1]? = some (.int .i64 0)) := Lib.hid (by rw [← h2]; rfl)
  have HM2 : Hid (m.vals[2]? = some (.int .u32 m.rs)) := Lib.hid (by exact rfl)
  have HM3 : Hid (m.vals[3]? = some (.string m.da)) := Lib.hid (by exact rfl)
  have HK1 : Hid (Kp w w.heap.size [(w.heap.size + 1, 24, V0), (w.heap.size, 24, m.vals)] ((w.alloc (.cells m.vals.toArray 24)).alloc (.cells V0.toArray 24))) := Lib.hid (by
    have h := (Kp.start w).new 24 m.vals
    have e1 : (w.alloc (.cells m.vals.toArray 24)).heap.size = w.heap.size + 1 := by simp
    have h2 := h.new 24 V0
    rwa [e1] at h2)
  generalize m.vals = VM at *
  generalize hw1 : (w.alloc (.cells VM.toArray 24)).alloc (.cells V0.toArray 24) = w1 at *
  rw [hz0] at hw1
  go_enter Tryd.func21, Tryd.ntmps21
  go_upto_region 1 with (fail)
  clear hw1 hz0
  have c0 : w1.cell? ⟨w.heap.size, 0, none⟩ = some (.int .i64 129) := HK1.out.tl.hd.at HM0.out
  go_upto_region 5 with (fail)
  clear c0
  have HIN : Hid ((Tryd.prog.info? 24).map (·.size) = some ([.int .i64 0, .int .i64 0, .int .u32 m.rs, .string ⟨#[]⟩] : List Value).length) := Lib.hid (Tryd.infoMg (⟨0, 0, m.rs, ⟨#[]⟩⟩ : Mg))
  have HKR : Hid (∀ W : World, Kp w w.heap.size [(w.heap.size, 24, VM)] W → (fun W => Kp w w.heap.size [(w.heap.size, 24, VM)] W ∧ W.cell? ⟨w.heap.size, 1, none⟩ = some (.int .i64 0) ∧ W.cell? ⟨w.heap.size, 2, none⟩ = some (.int .u32 m.rs)) W) := Lib.hid (fun W h => ⟨h, h.hd.at HM1.out, h.hd.at HM2.out⟩)
  have hkc := HK1.out.drew.hd
  have htf := hkc.there 4 (by have := HL_V0.out; simp; omega)
  refine wp_region_noPanic ?_
  refine wp_region_held_drew (S := fun W => Kp w w.heap.size [(w.heap.size, 24, VM)] W ∧ W.cell? ⟨w.heap.size, 1, none⟩ = some (.int .i64 0) ∧ W.cell? ⟨w.heap.size, 2, none⟩ = some (.int .u32 m.rs)) (by kernel_rfl) (HKR.out _ HK1.out.tl.drew) (fun hHeld => ?_)
  refine wpAnyH_take (i := 0) (oi := { dst := some 16, op := Op.fieldAddr 24 (Operand.tmp 1) 2, type := 0, pos := "icmpmap.go:157", after := #[], guard := none }) (v := ?_) rfl (by kernel_rfl) (by kernel_rfl) (by kernel_rfl) (fun _ _ _ h => h) (Or.inl ⟨by rfl, ?_⟩) (by assumption) ?_
  rotate_left
  · (intro ww hSw; (try dsimp only at hSw); go_simp; try with_reducible rfl)
  (try simp only [Act.put, List.setIfInBounds_toArray, List.set_cons_zero, List.set_cons_succ])
  refine wpAnyH_take (i := 1) (oi := { dst := some 17, op := Op.load 22 (Operand.tmp 16), type := 22, pos := "icmpmap.go:157", after := #[{ on := 0, ground := Ground.data }], guard := none }) (v := ?_) rfl (by kernel_rfl) (by kernel_rfl) (by kernel_rfl) (fun _ _ _ h => h) (Or.inl ⟨by rfl, ?_⟩) (by assumption) ?_
  rotate_left
  · (intro ww hSw; (try dsimp only at hSw); go_simp; try with_reducible rfl)
  (try simp only [Act.put, List.setIfInBounds_toArray, List.set_cons_zero, List.set_cons_succ])
  refine wpAnyH_take (i := 2) (oi := { dst := some 18, op := Op.build 24 #[(0, Operand.const (Value.int IntKind.i64 0)), (2, Operand.tmp 17)], type := 24, pos := "icmpmap.go:157", after := #[{ on := 1, ground := Ground.data }], guard := none }) (v := ?_) rfl (by kernel_rfl) (by kernel_rfl) (by kernel_rfl) (fun _ _ _ h => h) (Or.inl ⟨by rfl, ?_⟩) (by assumption) ?_
  rotate_left
  · (intro ww hSw; (try dsimp only at hSw); go_simp; try with_reducible rfl)
  (try simp only [Act.put, List.setIfInBounds_toArray, List.set_cons_zero, List.set_cons_succ])
  refine wpAnyH_take (i := 3) (oi := { dst := some 19, op := Op.fieldAddr 24 (Operand.tmp 1) 1, type := 0, pos := "icmpmap.go:157", after := #[{ on := 6, ground := Ground.gcOnly Departure.lateStores }], guard := none }) (v := ?_) rfl (by kernel_rfl) (by kernel_rfl) (by kernel_rfl) (fun _ _ _ h => h) (Or.inl ⟨by rfl, ?_⟩) (by assumption) ?_
  rotate_left
  · (intro ww hSw; (try dsimp only at hSw); go_simp; try with_reducible rfl)
  (try simp only [Act.put, List.setIfInBounds_toArray, List.set_cons_zero, List.set_cons_succ])
  refine wpAnyH_take (i := 4) (oi := { dst := some 20, op := Op.load 3 (Operand.tmp 19), type := 3, pos := "icmpmap.go:157", after := #[{ on := 3, ground := Ground.data }, { on := 6, ground := Ground.gcOnly Departure.lateStores }], guard := none }) (v := ?_) rfl (by kernel_rfl) (by kernel_rfl) (by kernel_rfl) (fun _ _ _ h => h) (Or.inl ⟨by rfl, ?_⟩) (by assumption) ?_
  rotate_left
  · (intro ww hSw; (try dsimp only at hSw); go_simp; try with_reducible rfl)
  (try simp only [Act.put, List.setIfInBounds_toArray, List.set_cons_zero, List.set_cons_succ])
  refine wpAnyH_take (i := 5) (oi := { dst := some 21, op := Op.binOp BinOp.eql 3 (Operand.tmp 20) (Operand.const (Value.int IntKind.i64 0)) 3, type := 4, pos := "icmpmap.go:157", after := #[{ on := 4, ground := Ground.data }, { on := 6, ground := Ground.gcOnly Departure.lateStores }], guard := none }) (v := ?_) rfl (by kernel_rfl) (by kernel_rfl) (by kernel_rfl) (fun _ _ _ h => h) (Or.inl ⟨by rfl, ?_⟩) (by assumption) ?_
  rotate_left
  · (intro ww hSw; (try dsimp only at hSw); go_simp; try with_reducible rfl)
  (try simp only [Act.put, List.setIfInBounds_toArray, List.set_cons_zero, List.set_cons_succ])
  refine wpAnyH_ready (rs := [6]) (by kernel_rfl) (by simp) ?_
  refine AllReadyH.cons (o := { dst := none, op := Op.store 24 (Operand.tmp 2) (Operand.tmp 18), type := 0, pos := "icmpmap.go:157", after := #[{ on := 2, ground := Ground.data }, { on := 0, ground := Ground.phase }, { on := 1, ground := Ground.phase }, { on := 2, ground := Ground.phase }, { on := 3, ground := Ground.textOnly Departure.lateStores }, { on := 4, ground := Ground.textOnly Departure.lateStores }, { on := 5, ground := Ground.textOnly Departure.lateStores }], guard := none }) rfl (fun K hK => ?_) AllReadyH.nil
  rw [if_pos (by rfl)]
  have hne : ∀ x ∈ [(w.heap.size, 24, VM)], x.1 ≠ w.heap.size + 1 := fun x hx => by simp at hx; rw [hx]; omega
  have hS := Bk.sets [.int .i64 0, .int .i64 0, .int .u32 m.rs, .string ⟨#[]⟩] 0 _ _ hkc
  rw [puts_whole V0.toArray [.int .i64 0, .int .i64 0, .int .u32 m.rs, .string ⟨#[]⟩] (by have := HL_V0.out; simp; omega)] at hS
  refine wp_store_mid 24 _ _ rfl (w.heap.size + 1) 0 ([.int .i64 0, .int .i64 0, .int .u32 m.rs, .string ⟨#[]⟩] : List Value).toArray rfl rfl htf (by simpa using HIN.out) (by simp [Value.oneCell']) ?_
  refine hK.out _ _ (HKR.out _ ((And.left hHeld).sets hne (Nat.le_succ _) 0 [.int .i64 0, .int .i64 0, .int .u32 m.rs, .string ⟨#[]⟩])) (fun hHeld => ?_)
  clear hK K
  (try simp only [Act.put])
  refine wpAnyH_take (i := 7) (oi := { dst := some 3, op := Op.assign (Operand.tmp 21), type := 4, pos := "icmpmap.go:157", after := #[{ on := 5, ground := Ground.data }, { on := 6, ground := Ground.chain }, { on := 0, ground := Ground.phase }, { on := 1, ground := Ground.phase }, { on := 2, ground := Ground.phase }, { on := 3, ground := Ground.phase }, { on := 4, ground := Ground.phase }, { on := 5, ground := Ground.phase }, { on := 6, ground := Ground.phase }], guard := none }) (v := ?_) rfl (by kernel_rfl) (by kernel_rfl) (by kernel_rfl) (fun _ _ _ h => h) (Or.inl ⟨by rfl, ?_⟩) (by assumption) ?_
  rotate_left
  · (intro ww hSw; (try dsimp only at hSw); go_simp; try with_reducible rfl)
  (try simp only [Act.put, List.setIfInBounds_toArray, List.set_cons_zero, List.set_cons_succ])
  refine wpAnyH_done (by kernel_rfl) ?_ _
  refine NoPanic.normal ?_
  have HSS := Lib.hid hS
  have HB := Lib.hid (And.left hHeld).2.1
  clear hS hHeld
  go_wp2_with fail
  refine bodyPost_ret (v := .tuple #[.agg ([.int .i64 0, .int .i64 0, .int .u32 m.rs, .string ⟨#[]⟩] : List Value).toArray, .bool true]) ?_ rfl ?_
  · exact results_cell2 rfl rfl rfl (run_loadVar_mid _ (w.heap.size + 1) 0 24 [.int .i64 0, .int .i64 0, .int .u32 m.rs, .string ⟨#[]⟩] _ HSS.out.range Tryd.underlying24 rfl HIN.out)
  · rw [HS.out]
    exact ⟨rfl, HB.out⟩
set_option maxRecDepth 100000 in
set_option maxHeartbeats 4000000 in
theorem sd4_k129_n (m : Mg) (w : World) (h1 : m.kd = 129) (g0 : m.cd ≠ 0) : Calls Tryd.prog 21 #[.agg m.vals.toArray] w fun e w' => e = .returned (.tuple #[.agg (said4 m).1.vals.toArray, .bool (said4 m).2]) ∧ Below w.heap.size w w' := by
  have HS : Hid (said4 m = (⟨0, 0, m.rs, ⟨#[]⟩⟩, false)) := Lib.hid (by unfold said4; simp [h1, g0])
  have e0 : (m.cd == 0) = false := by rw [beq_eq_false_iff_ne]; exact g0
  obtain ⟨V0, hV0⟩ : ∃ V, V = mg0.vals := ⟨_, rfl⟩
  have HB0 : Hid (∀ W, (Instr.build 24 #[]).run Tryd.prog W = .ok (.agg V0.toArray) W) := Lib.hid (fun W => by rw [hV0]; exact mgBuild W)
  have HI_V0 : Hid ((Tryd.prog.info? 24).map (·.size) = some V0.length) := Lib.hid (by rw [hV0]; exact Tryd.infoMg _)
  have HO_V0 : Hid (V0.toArray.all (·.oneCell') = true) := Lib.hid (by rw [hV0]; exact mg_one _)
  have HL_V0 : Hid (V0.length = 4) := Lib.hid (by rw [hV0]; rfl)
  have hz0 : V0.toArray = #[.int .i64 0, .int .i64 0, .int .u32 0, .string ⟨#[]⟩] := by rw [hV0]; rfl
  have HV0 := Lib.hid hV0
  clear hV0
  have HI_VM : Hid ((Tryd.prog.info? 24).map (·.size) = some m.vals.length) := Lib.hid (Tryd.infoMg _)
  have HM0 : Hid (m.vals[0]? = some (.int .i64 129)) := Lib.hid (by rw [← h1]; rfl)
  have HM1 : Hid (m.vals[1]? = some (.int .i64 m.cd)) := Lib.hid (by exact rfl)
  have HM2 : Hid (m.vals[2]? = some (.int .u32 m.rs)) := Lib.hid (by exact rfl)
  have HM3 : Hid (m.vals[3]? = some (.string m.da)) := Lib.hid (by exact rfl)
  have HK1 : Hid (Kp w w.heap.size [(w.heap.size + 1, 24, V0), (w.heap.size, 24, m.vals)] ((w.alloc (.cells m.vals.toArray 24)).alloc (.cells V0.toArray 24))) := Lib.hid (by
    have h := (Kp.start w).new 24 m.vals
    have e1 : (w.alloc (.cells m.vals.toArray 24)).heap.size = w.heap.size + 1 := by simp
    have h2 := h.new 24 V0
    rwa [e1] at h2)
  generalize m.vals = VM at *
  generalize hw1 : (w.alloc (.cells VM.toArray 24)).alloc (.cells V0.toArray 24) = w1 at *
  rw [hz0] at hw1
  go_enter Tryd.func21, Tryd.ntmps21
  go_upto_region 1 with (fail)
  clear hw1 hz0
  have c0 : w1.cell? ⟨w.heap.size, 0, none⟩ = some (.int .i64 129) := HK1.out.tl.hd.at HM0.out
  go_upto_region 5 with (fail)
  clear c0
  have HIN : Hid ((Tryd.prog.info? 24).map (·.size) = some ([.int .i64 0, .int .i64 0, .int .u32 m.rs, .string ⟨#[]⟩] : List Value).length) := Lib.hid (Tryd.infoMg (⟨0, 0, m.rs, ⟨#[]⟩⟩ : Mg))
  have HKR : Hid (∀ W : World, Kp w w.heap.size [(w.heap.size, 24, VM)] W → (fun W => Kp w w.heap.size [(w.heap.size, 24, VM)] W ∧ W.cell? ⟨w.heap.size, 1, none⟩ = some (.int .i64 m.cd) ∧ W.cell? ⟨w.heap.size, 2, none⟩ = some (.int .u32 m.rs)) W) := Lib.hid (fun W h => ⟨h, h.hd.at HM1.out, h.hd.at HM2.out⟩)
  have hkc := HK1.out.drew.hd
  have htf := hkc.there 4 (by have := HL_V0.out; simp; omega)
  refine wp_region_noPanic ?_
  refine wp_region_held_drew (S := fun W => Kp w w.heap.size [(w.heap.size, 24, VM)] W ∧ W.cell? ⟨w.heap.size, 1, none⟩ = some (.int .i64 m.cd) ∧ W.cell? ⟨w.heap.size, 2, none⟩ = some (.int .u32 m.rs)) (by kernel_rfl) (HKR.out _ HK1.out.tl.drew) (fun hHeld => ?_)
  refine wpAnyH_take (i := 0) (oi := { dst := some 16, op := Op.fieldAddr 24 (Operand.tmp 1) 2, type := 0, pos := "icmpmap.go:157", after := #[], guard := none }) (v := ?_) rfl (by kernel_rfl) (by kernel_rfl) (by kernel_rfl) (fun _ _ _ h => h) (Or.inl ⟨by rfl, ?_⟩) (by assumption) ?_
  rotate_left
  · (intro ww hSw; (try dsimp only at hSw); go_simp; try with_reducible rfl)
  (try simp only [Act.put, List.setIfInBounds_toArray, List.set_cons_zero, List.set_cons_succ])
  refine wpAnyH_take (i := 1) (oi := { dst := some 17, op := Op.load 22 (Operand.tmp 16), type := 22, pos := "icmpmap.go:157", after := #[{ on := 0, ground := Ground.data }], guard := none }) (v := ?_) rfl (by kernel_rfl) (by kernel_rfl) (by kernel_rfl) (fun _ _ _ h => h) (Or.inl ⟨by rfl, ?_⟩) (by assumption) ?_
  rotate_left
  · (intro ww hSw; (try dsimp only at hSw); go_simp; try with_reducible rfl)
  (try simp only [Act.put, List.setIfInBounds_toArray, List.set_cons_zero, List.set_cons_succ])
  refine wpAnyH_take (i := 2) (oi := { dst := some 18, op := Op.build 24 #[(0, Operand.const (Value.int IntKind.i64 0)), (2, Operand.tmp 17)], type := 24, pos := "icmpmap.go:157", after := #[{ on := 1, ground := Ground.data }], guard := none }) (v := ?_) rfl (by kernel_rfl) (by kernel_rfl) (by kernel_rfl) (fun _ _ _ h => h) (Or.inl ⟨by rfl, ?_⟩) (by assumption) ?_
  rotate_left
  · (intro ww hSw; (try dsimp only at hSw); go_simp; try with_reducible rfl)
  (try simp only [Act.put, List.setIfInBounds_toArray, List.set_cons_zero, List.set_cons_succ])
  refine wpAnyH_take (i := 3) (oi := { dst := some 19, op := Op.fieldAddr 24 (Operand.tmp 1) 1, type := 0, pos := "icmpmap.go:157", after := #[{ on := 6, ground := Ground.gcOnly Departure.lateStores }], guard := none }) (v := ?_) rfl (by kernel_rfl) (by kernel_rfl) (by kernel_rfl) (fun _ _ _ h => h) (Or.inl ⟨by rfl, ?_⟩) (by assumption) ?_
  rotate_left
  · (intro ww hSw; (try dsimp only at hSw); go_simp; try with_reducible rfl)
  (try simp only [Act.put, List.setIfInBounds_toArray, List.set_cons_zero, List.set_cons_succ])
  refine wpAnyH_take (i := 4) (oi := { dst := some 20, op := Op.load 3 (Operand.tmp 19), type := 3, pos := "icmpmap.go:157", after := #[{ on := 3, ground := Ground.data }, { on := 6, ground := Ground.gcOnly Departure.lateStores }], guard := none }) (v := ?_) rfl (by kernel_rfl) (by kernel_rfl) (by kernel_rfl) (fun _ _ _ h => h) (Or.inl ⟨by rfl, ?_⟩) (by assumption) ?_
  rotate_left
  · (intro ww hSw; (try dsimp only at hSw); go_simp; try with_reducible rfl)
  (try simp only [Act.put, List.setIfInBounds_toArray, List.set_cons_zero, List.set_cons_succ])
  refine wpAnyH_take (i := 5) (oi := { dst := some 21, op := Op.binOp BinOp.eql 3 (Operand.tmp 20) (Operand.const (Value.int IntKind.i64 0)) 3, type := 4, pos := "icmpmap.go:157", after := #[{ on := 4, ground := Ground.data }, { on := 6, ground := Ground.gcOnly Departure.lateStores }], guard := none }) (v := ?_) rfl (by kernel_rfl) (by kernel_rfl) (by kernel_rfl) (fun _ _ _ h => h) (Or.inl ⟨by rfl, ?_⟩) (by assumption) ?_
  rotate_left
  · (intro ww hSw; (try dsimp only at hSw); go_simp; try with_reducible rfl)
  (try simp only [Act.put, List.setIfInBounds_toArray, List.set_cons_zero, List.set_cons_succ])
  refine wpAnyH_ready (rs := [6]) (by kernel_rfl) (by simp) ?_
  refine AllReadyH.cons (o := { dst := none, op := Op.store 24 (Operand.tmp 2) (Operand.tmp 18), type := 0, pos := "icmpmap.go:157", after := #[{ on := 2, ground := Ground.data }, { on := 0, ground := Ground.phase }, { on := 1, ground := Ground.phase }, { on := 2, ground := Ground.phase }, { on := 3, ground := Ground.textOnly Departure.lateStores }, { on := 4, ground := Ground.textOnly Departure.lateStores }, { on := 5, ground := Ground.textOnly Departure.lateStores }], guard := none }) rfl (fun K hK => ?_) AllReadyH.nil
  rw [if_pos (by rfl)]
  have hne : ∀ x ∈ [(w.heap.size, 24, VM)], x.1 ≠ w.heap.size + 1 := fun x hx => by simp at hx; rw [hx]; omega
  have hS := Bk.sets [.int .i64 0, .int .i64 0, .int .u32 m.rs, .string ⟨#[]⟩] 0 _ _ hkc
  rw [puts_whole V0.toArray [.int .i64 0, .int .i64 0, .int .u32 m.rs, .string ⟨#[]⟩] (by have := HL_V0.out; simp; omega)] at hS
  refine wp_store_mid 24 _ _ rfl (w.heap.size + 1) 0 ([.int .i64 0, .int .i64 0, .int .u32 m.rs, .string ⟨#[]⟩] : List Value).toArray rfl rfl htf (by simpa using HIN.out) (by simp [Value.oneCell']) ?_
  refine hK.out _ _ (HKR.out _ ((And.left hHeld).sets hne (Nat.le_succ _) 0 [.int .i64 0, .int .i64 0, .int .u32 m.rs, .string ⟨#[]⟩])) (fun hHeld => ?_)
  clear hK K
  (try simp only [Act.put])
  refine wpAnyH_take (i := 7) (oi := { dst := some 3, op := Op.assign (Operand.tmp 21), type := 4, pos := "icmpmap.go:157", after := #[{ on := 5, ground := Ground.data }, { on := 6, ground := Ground.chain }, { on := 0, ground := Ground.phase }, { on := 1, ground := Ground.phase }, { on := 2, ground := Ground.phase }, { on := 3, ground := Ground.phase }, { on := 4, ground := Ground.phase }, { on := 5, ground := Ground.phase }, { on := 6, ground := Ground.phase }], guard := none }) (v := ?_) rfl (by kernel_rfl) (by kernel_rfl) (by kernel_rfl) (fun _ _ _ h => h) (Or.inl ⟨by rfl, ?_⟩) (by assumption) ?_
  rotate_left
  · (intro ww hSw; (try dsimp only at hSw); go_simp; try with_reducible rfl)
  (try simp only [Act.put, List.setIfInBounds_toArray, List.set_cons_zero, List.set_cons_succ])
  refine wpAnyH_done (by kernel_rfl) ?_ _
  refine NoPanic.normal ?_
  have HSS := Lib.hid hS
  have HB := Lib.hid (And.left hHeld).2.1
  clear hS hHeld
  go_wp2_with fail
  refine bodyPost_ret (v := .tuple #[.agg ([.int .i64 0, .int .i64 0, .int .u32 m.rs, .string ⟨#[]⟩] : List Value).toArray, .bool false]) ?_ rfl ?_
  · exact results_cell2 rfl rfl rfl (run_loadVar_mid _ (w.heap.size + 1) 0 24 [.int .i64 0, .int .i64 0, .int .u32 m.rs, .string ⟨#[]⟩] _ HSS.out.range Tryd.underlying24 rfl HIN.out)
  · rw [HS.out]
    exact ⟨rfl, HB.out⟩
set_option maxRecDepth 100000 in
set_option maxHeartbeats 4000000 in
theorem sd4_k2_0 (m : Mg) (w : World) (h1 : m.kd = 2) (h2 : m.cd = 0) : Calls Tryd.prog 21 #[.agg m.vals.toArray] w fun e w' => e = .returned (.tuple #[.agg (said4 m).1.vals.toArray, .bool (said4 m).2]) ∧ Below w.heap.size w w' := by
  have HS : Hid (said4 m = (⟨3, 4, 0, ⟨#[]⟩⟩, true)) := Lib.hid (by unfold said4; simp [h1, h2])
  obtain ⟨V0, hV0⟩ : ∃ V, V = mg0.vals := ⟨_, rfl⟩
  have HB0 : Hid (∀ W, (Instr.build 24 #[]).run Tryd.prog W = .ok (.agg V0.toArray) W) := Lib.hid (fun W => by rw [hV0]; exact mgBuild W)
  have HI_V0 : Hid ((Tryd.prog.info? 24).map (·.size) = some V0.length) := Lib.hid (by rw [hV0]; exact Tryd.infoMg _)
  have HO_V0 : Hid (V0.toArray.all (·.oneCell') = true) := Lib.hid (by rw [hV0]; exact mg_one _)
  have HL_V0 : Hid (V0.length = 4) := Lib.hid (by rw [hV0]; rfl)
  have hz0 : V0.toArray = #[.int .i64 0, .int .i64 0, .int .u32 0, .string ⟨#[]⟩] := by rw [hV0]; rfl
  have HV0 := Lib.hid hV0
  clear hV0
  have HI_VM : Hid ((Tryd.prog.info? 24).map (·.size) = some m.vals.length) := Lib.hid (Tryd.infoMg _)
  have HM0 : Hid (m.vals[0]? = some (.int .i64 2)) := Lib.hid (by rw [← h1]; rfl)
  have HM1 : Hid (m.vals[1]? = some (.int .i64 0)) := Lib.hid (by rw [← h2]; rfl)
  have HM2 : Hid (m.vals[2]? = some (.int .u32 m.rs)) := Lib.hid (by exact rfl)
  have HM3 : Hid (m.vals[3]? = some (.string m.da)) := Lib.hid (by exact rfl)
  have HK1 : Hid (Kp w w.heap.size [(w.heap.size + 1, 24, V0), (w.heap.size, 24, m.vals)] ((w.alloc (.cells m.vals.toArray 24)).alloc (.cells V0.toArray 24))) := Lib.hid (by
    have h := (Kp.start w).new 24 m.vals
    have e1 : (w.alloc (.cells m.vals.toArray 24)).heap.size = w.heap.size + 1 := by simp
    have h2 := h.new 24 V0
    rwa [e1] at h2)
  generalize m.vals = VM at *
  generalize hw1 : (w.alloc (.cells VM.toArray 24)).alloc (.cells V0.toArray 24) = w1 at *
  rw [hz0] at hw1
  go_enter Tryd.func21, Tryd.ntmps21
  go_upto_region 1 with (fail)
  clear hw1 hz0
  have c0 : w1.cell? ⟨w.heap.size, 0, none⟩ = some (.int .i64 2) := HK1.out.tl.hd.at HM0.out
  go_upto_region 9 with (fail)
  clear c0
  have HIN : Hid ((Tryd.prog.info? 24).map (·.size) = some ([.int .i64 3, .int .i64 4, .int .u32 0, .string ⟨#[]⟩] : List Value).length) := Lib.hid (Tryd.infoMg (⟨3, 4, 0, ⟨#[]⟩⟩ : Mg))
  have HKR : Hid (∀ W : World, Kp w w.heap.size [(w.heap.size, 24, VM)] W → (fun W => Kp w w.heap.size [(w.heap.size, 24, VM)] W ∧ W.cell? ⟨w.heap.size, 1, none⟩ = some (.int .i64 0) ∧ W.cell? ⟨w.heap.size, 2, none⟩ = some (.int .u32 m.rs)) W) := Lib.hid (fun W h => ⟨h, h.hd.at HM1.out, h.hd.at HM2.out⟩)
  have hkc := HK1.out.drew.hd
  have htf := hkc.there 4 (by have := HL_V0.out; simp; omega)
  refine wp_region_noPanic ?_
  refine wp_region_held_drew (S := fun W => Kp w w.heap.size [(w.heap.size, 24, VM)] W ∧ W.cell? ⟨w.heap.size, 1, none⟩ = some (.int .i64 0) ∧ W.cell? ⟨w.heap.size, 2, none⟩ = some (.int .u32 m.rs)) (by kernel_rfl) (HKR.out _ HK1.out.tl.drew) (fun hHeld => ?_)
  refine wpAnyH_take (i := 0) (oi := { dst := some 31, op := Op.build 24 #[(0, Operand.const (Value.int IntKind.i64 3)), (1, Operand.const (Value.int IntKind.i64 4))], type := 24, pos := "icmpmap.go:161", after := #[], guard := none }) (v := ?_) rfl (by kernel_rfl) (by kernel_rfl) (by kernel_rfl) (fun _ _ _ h => h) (Or.inl ⟨by rfl, ?_⟩) (by assumption) ?_
  rotate_left
  · (intro ww hSw; (try dsimp only at hSw); go_simp; try with_reducible rfl)
  (try simp only [Act.put, List.setIfInBounds_toArray, List.set_cons_zero, List.set_cons_succ])
  refine wpAnyH_take (i := 1) (oi := { dst := some 32, op := Op.fieldAddr 24 (Operand.tmp 1) 1, type := 0, pos := "icmpmap.go:161", after := #[{ on := 4, ground := Ground.gcOnly Departure.lateStores }], guard := none }) (v := ?_) rfl (by kernel_rfl) (by kernel_rfl) (by kernel_rfl) (fun _ _ _ h => h) (Or.inl ⟨by rfl, ?_⟩) (by assumption) ?_
  rotate_left
  · (intro ww hSw; (try dsimp only at hSw); go_simp; try with_reducible rfl)
  (try simp only [Act.put, List.setIfInBounds_toArray, List.set_cons_zero, List.set_cons_succ])
  refine wpAnyH_take (i := 2) (oi := { dst := some 33, op := Op.load 3 (Operand.tmp 32), type := 3, pos := "icmpmap.go:161", after := #[{ on := 1, ground := Ground.data }, { on := 4, ground := Ground.gcOnly Departure.lateStores }], guard := none }) (v := ?_) rfl (by kernel_rfl) (by kernel_rfl) (by kernel_rfl) (fun _ _ _ h => h) (Or.inl ⟨by rfl, ?_⟩) (by assumption) ?_
  rotate_left
  · (intro ww hSw; (try dsimp only at hSw); go_simp; try with_reducible rfl)
  (try simp only [Act.put, List.setIfInBounds_toArray, List.set_cons_zero, List.set_cons_succ])
  refine wpAnyH_take (i := 3) (oi := { dst := some 34, op := Op.binOp BinOp.eql 3 (Operand.tmp 33) (Operand.const (Value.int IntKind.i64 0)) 3, type := 4, pos := "icmpmap.go:161", after := #[{ on := 2, ground := Ground.data }, { on := 4, ground := Ground.gcOnly Departure.lateStores }], guard := none }) (v := ?_) rfl (by kernel_rfl) (by kernel_rfl) (by kernel_rfl) (fun _ _ _ h => h) (Or.inl ⟨by rfl, ?_⟩) (by assumption) ?_
  rotate_left
  · (intro ww hSw; (try dsimp only at hSw); go_simp; try with_reducible rfl)
  (try simp only [Act.put, List.setIfInBounds_toArray, List.set_cons_zero, List.set_cons_succ])
  refine wpAnyH_ready (rs := [4]) (by kernel_rfl) (by simp) ?_
  refine AllReadyH.cons (o := { dst := none, op := Op.store 24 (Operand.tmp 2) (Operand.tmp 31), type := 0, pos := "icmpmap.go:161", after := #[{ on := 0, ground := Ground.data }, { on := 0, ground := Ground.phase }, { on := 1, ground := Ground.textOnly Departure.lateStores }, { on := 2, ground := Ground.textOnly Departure.lateStores }, { on := 3, ground := Ground.textOnly Departure.lateStores }], guard := none }) rfl (fun K hK => ?_) AllReadyH.nil
  rw [if_pos (by rfl)]
  have hne : ∀ x ∈ [(w.heap.size, 24, VM)], x.1 ≠ w.heap.size + 1 := fun x hx => by simp at hx; rw [hx]; omega
  have hS := Bk.sets [.int .i64 3, .int .i64 4, .int .u32 0, .string ⟨#[]⟩] 0 _ _ hkc
  rw [puts_whole V0.toArray [.int .i64 3, .int .i64 4, .int .u32 0, .string ⟨#[]⟩] (by have := HL_V0.out; simp; omega)] at hS
  refine wp_store_mid 24 _ _ rfl (w.heap.size + 1) 0 ([.int .i64 3, .int .i64 4, .int .u32 0, .string ⟨#[]⟩] : List Value).toArray rfl rfl htf (by simpa using HIN.out) (by simp [Value.oneCell']) ?_
  refine hK.out _ _ (HKR.out _ ((And.left hHeld).sets hne (Nat.le_succ _) 0 [.int .i64 3, .int .i64 4, .int .u32 0, .string ⟨#[]⟩])) (fun hHeld => ?_)
  clear hK K
  (try simp only [Act.put])
  refine wpAnyH_take (i := 5) (oi := { dst := some 3, op := Op.assign (Operand.tmp 34), type := 4, pos := "icmpmap.go:161", after := #[{ on := 3, ground := Ground.data }, { on := 4, ground := Ground.chain }, { on := 0, ground := Ground.phase }, { on := 1, ground := Ground.phase }, { on := 2, ground := Ground.phase }, { on := 3, ground := Ground.phase }, { on := 4, ground := Ground.phase }], guard := none }) (v := ?_) rfl (by kernel_rfl) (by kernel_rfl) (by kernel_rfl) (fun _ _ _ h => h) (Or.inl ⟨by rfl, ?_⟩) (by assumption) ?_
  rotate_left
  · (intro ww hSw; (try dsimp only at hSw); go_simp; try with_reducible rfl)
  (try simp only [Act.put, List.setIfInBounds_toArray, List.set_cons_zero, List.set_cons_succ])
  refine wpAnyH_done (by kernel_rfl) ?_ _
  refine NoPanic.normal ?_
  have HSS := Lib.hid hS
  have HB := Lib.hid (And.left hHeld).2.1
  clear hS hHeld
  go_wp2_with fail
  refine bodyPost_ret (v := .tuple #[.agg ([.int .i64 3, .int .i64 4, .int .u32 0, .string ⟨#[]⟩] : List Value).toArray, .bool true]) ?_ rfl ?_
  · exact results_cell2 rfl rfl rfl (run_loadVar_mid _ (w.heap.size + 1) 0 24 [.int .i64 3, .int .i64 4, .int .u32 0, .string ⟨#[]⟩] _ HSS.out.range Tryd.underlying24 rfl HIN.out)
  · rw [HS.out]
    exact ⟨rfl, HB.out⟩
set_option maxRecDepth 100000 in
set_option maxHeartbeats 4000000 in
theorem sd4_k2_n (m : Mg) (w : World) (h1 : m.kd = 2) (g0 : m.cd ≠ 0) : Calls Tryd.prog 21 #[.agg m.vals.toArray] w fun e w' => e = .returned (.tuple #[.agg (said4 m).1.vals.toArray, .bool (said4 m).2]) ∧ Below w.heap.size w w' := by
  have HS : Hid (said4 m = (⟨3, 4, 0, ⟨#[]⟩⟩, false)) := Lib.hid (by unfold said4; simp [h1, g0])
  have e0 : (m.cd == 0) = false := by rw [beq_eq_false_iff_ne]; exact g0
  obtain ⟨V0, hV0⟩ : ∃ V, V = mg0.vals := ⟨_, rfl⟩
  have HB0 : Hid (∀ W, (Instr.build 24 #[]).run Tryd.prog W = .ok (.agg V0.toArray) W) := Lib.hid (fun W => by rw [hV0]; exact mgBuild W)
  have HI_V0 : Hid ((Tryd.prog.info? 24).map (·.size) = some V0.length) := Lib.hid (by rw [hV0]; exact Tryd.infoMg _)
  have HO_V0 : Hid (V0.toArray.all (·.oneCell') = true) := Lib.hid (by rw [hV0]; exact mg_one _)
  have HL_V0 : Hid (V0.length = 4) := Lib.hid (by rw [hV0]; rfl)
  have hz0 : V0.toArray = #[.int .i64 0, .int .i64 0, .int .u32 0, .string ⟨#[]⟩] := by rw [hV0]; rfl
  have HV0 := Lib.hid hV0
  clear hV0
  have HI_VM : Hid ((Tryd.prog.info? 24).map (·.size) = some m.vals.length) := Lib.hid (Tryd.infoMg _)
  have HM0 : Hid (m.vals[0]? = some (.int .i64 2)) := Lib.hid (by rw [← h1]; rfl)
  have HM1 : Hid (m.vals[1]? = some (.int .i64 m.cd)) := Lib.hid (by exact rfl)
  have HM2 : Hid (m.vals[2]? = some (.int .u32 m.rs)) := Lib.hid (by exact rfl)
  have HM3 : Hid (m.vals[3]? = some (.string m.da)) := Lib.hid (by exact rfl)
  have HK1 : Hid (Kp w w.heap.size [(w.heap.size + 1, 24, V0), (w.heap.size, 24, m.vals)] ((w.alloc (.cells m.vals.toArray 24)).alloc (.cells V0.toArray 24))) := Lib.hid (by
    have h := (Kp.start w).new 24 m.vals
    have e1 : (w.alloc (.cells m.vals.toArray 24)).heap.size = w.heap.size + 1 := by simp
    have h2 := h.new 24 V0
    rwa [e1] at h2)
  generalize m.vals = VM at *
  generalize hw1 : (w.alloc (.cells VM.toArray 24)).alloc (.cells V0.toArray 24) = w1 at *
  rw [hz0] at hw1
  go_enter Tryd.func21, Tryd.ntmps21
  go_upto_region 1 with (fail)
  clear hw1 hz0
  have c0 : w1.cell? ⟨w.heap.size, 0, none⟩ = some (.int .i64 2) := HK1.out.tl.hd.at HM0.out
  go_upto_region 9 with (fail)
  clear c0
  have HIN : Hid ((Tryd.prog.info? 24).map (·.size) = some ([.int .i64 3, .int .i64 4, .int .u32 0, .string ⟨#[]⟩] : List Value).length) := Lib.hid (Tryd.infoMg (⟨3, 4, 0, ⟨#[]⟩⟩ : Mg))
  have HKR : Hid (∀ W : World, Kp w w.heap.size [(w.heap.size, 24, VM)] W → (fun W => Kp w w.heap.size [(w.heap.size, 24, VM)] W ∧ W.cell? ⟨w.heap.size, 1, none⟩ = some (.int .i64 m.cd) ∧ W.cell? ⟨w.heap.size, 2, none⟩ = some (.int .u32 m.rs)) W) := Lib.hid (fun W h => ⟨h, h.hd.at HM1.out, h.hd.at HM2.out⟩)
  have hkc := HK1.out.drew.hd
  have htf := hkc.there 4 (by have := HL_V0.out; simp; omega)
  refine wp_region_noPanic ?_
  refine wp_region_held_drew (S := fun W => Kp w w.heap.size [(w.heap.size, 24, VM)] W ∧ W.cell? ⟨w.heap.size, 1, none⟩ = some (.int .i64 m.cd) ∧ W.cell? ⟨w.heap.size, 2, none⟩ = some (.int .u32 m.rs)) (by kernel_rfl) (HKR.out _ HK1.out.tl.drew) (fun hHeld => ?_)
  refine wpAnyH_take (i := 0) (oi := { dst := some 31, op := Op.build 24 #[(0, Operand.const (Value.int IntKind.i64 3)), (1, Operand.const (Value.int IntKind.i64 4))], type := 24, pos := "icmpmap.go:161", after := #[], guard := none }) (v := ?_) rfl (by kernel_rfl) (by kernel_rfl) (by kernel_rfl) (fun _ _ _ h => h) (Or.inl ⟨by rfl, ?_⟩) (by assumption) ?_
  rotate_left
  · (intro ww hSw; (try dsimp only at hSw); go_simp; try with_reducible rfl)
  (try simp only [Act.put, List.setIfInBounds_toArray, List.set_cons_zero, List.set_cons_succ])
  refine wpAnyH_take (i := 1) (oi := { dst := some 32, op := Op.fieldAddr 24 (Operand.tmp 1) 1, type := 0, pos := "icmpmap.go:161", after := #[{ on := 4, ground := Ground.gcOnly Departure.lateStores }], guard := none }) (v := ?_) rfl (by kernel_rfl) (by kernel_rfl) (by kernel_rfl) (fun _ _ _ h => h) (Or.inl ⟨by rfl, ?_⟩) (by assumption) ?_
  rotate_left
  · (intro ww hSw; (try dsimp only at hSw); go_simp; try with_reducible rfl)
  (try simp only [Act.put, List.setIfInBounds_toArray, List.set_cons_zero, List.set_cons_succ])
  refine wpAnyH_take (i := 2) (oi := { dst := some 33, op := Op.load 3 (Operand.tmp 32), type := 3, pos := "icmpmap.go:161", after := #[{ on := 1, ground := Ground.data }, { on := 4, ground := Ground.gcOnly Departure.lateStores }], guard := none }) (v := ?_) rfl (by kernel_rfl) (by kernel_rfl) (by kernel_rfl) (fun _ _ _ h => h) (Or.inl ⟨by rfl, ?_⟩) (by assumption) ?_
  rotate_left
  · (intro ww hSw; (try dsimp only at hSw); go_simp; try with_reducible rfl)
  (try simp only [Act.put, List.setIfInBounds_toArray, List.set_cons_zero, List.set_cons_succ])
  refine wpAnyH_take (i := 3) (oi := { dst := some 34, op := Op.binOp BinOp.eql 3 (Operand.tmp 33) (Operand.const (Value.int IntKind.i64 0)) 3, type := 4, pos := "icmpmap.go:161", after := #[{ on := 2, ground := Ground.data }, { on := 4, ground := Ground.gcOnly Departure.lateStores }], guard := none }) (v := ?_) rfl (by kernel_rfl) (by kernel_rfl) (by kernel_rfl) (fun _ _ _ h => h) (Or.inl ⟨by rfl, ?_⟩) (by assumption) ?_
  rotate_left
  · (intro ww hSw; (try dsimp only at hSw); go_simp; try with_reducible rfl)
  (try simp only [Act.put, List.setIfInBounds_toArray, List.set_cons_zero, List.set_cons_succ])
  refine wpAnyH_ready (rs := [4]) (by kernel_rfl) (by simp) ?_
  refine AllReadyH.cons (o := { dst := none, op := Op.store 24 (Operand.tmp 2) (Operand.tmp 31), type := 0, pos := "icmpmap.go:161", after := #[{ on := 0, ground := Ground.data }, { on := 0, ground := Ground.phase }, { on := 1, ground := Ground.textOnly Departure.lateStores }, { on := 2, ground := Ground.textOnly Departure.lateStores }, { on := 3, ground := Ground.textOnly Departure.lateStores }], guard := none }) rfl (fun K hK => ?_) AllReadyH.nil
  rw [if_pos (by rfl)]
  have hne : ∀ x ∈ [(w.heap.size, 24, VM)], x.1 ≠ w.heap.size + 1 := fun x hx => by simp at hx; rw [hx]; omega
  have hS := Bk.sets [.int .i64 3, .int .i64 4, .int .u32 0, .string ⟨#[]⟩] 0 _ _ hkc
  rw [puts_whole V0.toArray [.int .i64 3, .int .i64 4, .int .u32 0, .string ⟨#[]⟩] (by have := HL_V0.out; simp; omega)] at hS
  refine wp_store_mid 24 _ _ rfl (w.heap.size + 1) 0 ([.int .i64 3, .int .i64 4, .int .u32 0, .string ⟨#[]⟩] : List Value).toArray rfl rfl htf (by simpa using HIN.out) (by simp [Value.oneCell']) ?_
  refine hK.out _ _ (HKR.out _ ((And.left hHeld).sets hne (Nat.le_succ _) 0 [.int .i64 3, .int .i64 4, .int .u32 0, .string ⟨#[]⟩])) (fun hHeld => ?_)
  clear hK K
  (try simp only [Act.put])
  refine wpAnyH_take (i := 5) (oi := { dst := some 3, op := Op.assign (Operand.tmp 34), type := 4, pos := "icmpmap.go:161", after := #[{ on := 3, ground := Ground.data }, { on := 4, ground := Ground.chain }, { on := 0, ground := Ground.phase }, { on := 1, ground := Ground.phase }, { on := 2, ground := Ground.phase }, { on := 3, ground := Ground.phase }, { on := 4, ground := Ground.phase }], guard := none }) (v := ?_) rfl (by kernel_rfl) (by kernel_rfl) (by kernel_rfl) (fun _ _ _ h => h) (Or.inl ⟨by rfl, ?_⟩) (by assumption) ?_
  rotate_left
  · (intro ww hSw; (try dsimp only at hSw); go_simp; try with_reducible rfl)
  (try simp only [Act.put, List.setIfInBounds_toArray, List.set_cons_zero, List.set_cons_succ])
  refine wpAnyH_done (by kernel_rfl) ?_ _
  refine NoPanic.normal ?_
  have HSS := Lib.hid hS
  have HB := Lib.hid (And.left hHeld).2.1
  clear hS hHeld
  go_wp2_with fail
  refine bodyPost_ret (v := .tuple #[.agg ([.int .i64 3, .int .i64 4, .int .u32 0, .string ⟨#[]⟩] : List Value).toArray, .bool false]) ?_ rfl ?_
  · exact results_cell2 rfl rfl rfl (run_loadVar_mid _ (w.heap.size + 1) 0 24 [.int .i64 3, .int .i64 4, .int .u32 0, .string ⟨#[]⟩] _ HSS.out.range Tryd.underlying24 rfl HIN.out)
  · rw [HS.out]
    exact ⟨rfl, HB.out⟩
set_option maxRecDepth 100000 in
set_option maxHeartbeats 4000000 in
theorem sd4_k3_0 (m : Mg) (w : World) (h1 : m.kd = 3) (h2 : m.cd = 0) : Calls Tryd.prog 21 #[.agg m.vals.toArray] w fun e w' => e = .returned (.tuple #[.agg (said4 m).1.vals.toArray, .bool (said4 m).2]) ∧ Below w.heap.size w w' := by
  have HS : Hid (said4 m = (⟨11, 0, 0, ⟨#[]⟩⟩, true)) := Lib.hid (by unfold said4; simp [h1, h2])
  obtain ⟨V0, hV0⟩ : ∃ V, V = mg0.vals := ⟨_, rfl⟩
  have HB0 : Hid (∀ W, (Instr.build 24 #[]).run Tryd.prog W = .ok (.agg V0.toArray) W) := Lib.hid (fun W => by rw [hV0]; exact mgBuild W)
  have HI_V0 : Hid ((Tryd.prog.info? 24).map (·.size) = some V0.length) := Lib.hid (by rw [hV0]; exact Tryd.infoMg _)
  have HO_V0 : Hid (V0.toArray.all (·.oneCell') = true) := Lib.hid (by rw [hV0]; exact mg_one _)
  have HL_V0 : Hid (V0.length = 4) := Lib.hid (by rw [hV0]; rfl)
  have hz0 : V0.toArray = #[.int .i64 0, .int .i64 0, .int .u32 0, .string ⟨#[]⟩] := by rw [hV0]; rfl
  have HV0 := Lib.hid hV0
  clear hV0
  have HI_VM : Hid ((Tryd.prog.info? 24).map (·.size) = some m.vals.length) := Lib.hid (Tryd.infoMg _)
  have HM0 : Hid (m.vals[0]? = some (.int .i64 3)) := Lib.hid (by rw [← h1]; rfl)
  have HM1 : Hid (m.vals[1]? = some (.int .i64 0)) := Lib.hid (by rw [← h2]; rfl)
  have HM2 : Hid (m.vals[2]? = some (.int .u32 m.rs)) := Lib.hid (by exact rfl)
  have HM3 : Hid (m.vals[3]? = some (.string m.da)) := Lib.hid (by exact rfl)
  have HK1 : Hid (Kp w w.heap.size [(w.heap.size + 1, 24, V0), (w.heap.size, 24, m.vals)] ((w.alloc (.cells m.vals.toArray 24)).alloc (.cells V0.toArray 24))) := Lib.hid (by
    have h := (Kp.start w).new 24 m.vals
    have e1 : (w.alloc (.cells m.vals.toArray 24)).heap.size = w.heap.size + 1 := by simp
    have h2 := h.new 24 V0
    rwa [e1] at h2)
  generalize m.vals = VM at *
  generalize hw1 : (w.alloc (.cells VM.toArray 24)).alloc (.cells V0.toArray 24) = w1 at *
  rw [hz0] at hw1
  go_enter Tryd.func21, Tryd.ntmps21
  go_upto_region 1 with (fail)
  clear hw1 hz0
  have c0 : w1.cell? ⟨w.heap.size, 0, none⟩ = some (.int .i64 3) := HK1.out.tl.hd.at HM0.out
  go_upto_region 11 with (fail)
  clear c0
  have HIN : Hid ((Tryd.prog.info? 24).map (·.size) = some ([.int .i64 11, .int .i64 0, .int .u32 0, .string ⟨#[]⟩] : List Value).length) := Lib.hid (Tryd.infoMg (⟨11, 0, 0, ⟨#[]⟩⟩ : Mg))
  have HKR : Hid (∀ W : World, Kp w w.heap.size [(w.heap.size, 24, VM)] W → (fun W => Kp w w.heap.size [(w.heap.size, 24, VM)] W ∧ W.cell? ⟨w.heap.size, 1, none⟩ = some (.int .i64 0) ∧ W.cell? ⟨w.heap.size, 2, none⟩ = some (.int .u32 m.rs)) W) := Lib.hid (fun W h => ⟨h, h.hd.at HM1.out, h.hd.at HM2.out⟩)
  have hkc := HK1.out.drew.hd
  have htf := hkc.there 4 (by have := HL_V0.out; simp; omega)
  refine wp_region_noPanic ?_
  refine wp_region_held_drew (S := fun W => Kp w w.heap.size [(w.heap.size, 24, VM)] W ∧ W.cell? ⟨w.heap.size, 1, none⟩ = some (.int .i64 0) ∧ W.cell? ⟨w.heap.size, 2, none⟩ = some (.int .u32 m.rs)) (by kernel_rfl) (HKR.out _ HK1.out.tl.drew) (fun hHeld => ?_)
  refine wpAnyH_take (i := 0) (oi := { dst := some 37, op := Op.fieldAddr 24 (Operand.tmp 1) 1, type := 0, pos := "icmpmap.go:163", after := #[], guard := none }) (v := ?_) rfl (by kernel_rfl) (by kernel_rfl) (by kernel_rfl) (fun _ _ _ h => h) (Or.inl ⟨by rfl, ?_⟩) (by assumption) ?_
  rotate_left
  · (intro ww hSw; (try dsimp only at hSw); go_simp; try with_reducible rfl)
  (try simp only [Act.put, List.setIfInBounds_toArray, List.set_cons_zero, List.set_cons_succ])
  refine wpAnyH_take (i := 1) (oi := { dst := some 38, op := Op.load 3 (Operand.tmp 37), type := 3, pos := "icmpmap.go:163", after := #[{ on := 0, ground := Ground.data }], guard := none }) (v := ?_) rfl (by kernel_rfl) (by kernel_rfl) (by kernel_rfl) (fun _ _ _ h => h) (Or.inl ⟨by rfl, ?_⟩) (by assumption) ?_
  rotate_left
  · (intro ww hSw; (try dsimp only at hSw); go_simp; try with_reducible rfl)
  (try simp only [Act.put, List.setIfInBounds_toArray, List.set_cons_zero, List.set_cons_succ])
  refine wpAnyH_take (i := 2) (oi := { dst := some 39, op := Op.build 24 #[(0, Operand.const (Value.int IntKind.i64 11)), (1, Operand.tmp 38)], type := 24, pos := "icmpmap.go:163", after := #[{ on := 1, ground := Ground.data }], guard := none }) (v := ?_) rfl (by kernel_rfl) (by kernel_rfl) (by kernel_rfl) (fun _ _ _ h => h) (Or.inl ⟨by rfl, ?_⟩) (by assumption) ?_
  rotate_left
  · (intro ww hSw; (try dsimp only at hSw); go_simp; try with_reducible rfl)
  (try simp only [Act.put, List.setIfInBounds_toArray, List.set_cons_zero, List.set_cons_succ])
  refine wpAnyH_take (i := 3) (oi := { dst := some 40, op := Op.fieldAddr 24 (Operand.tmp 1) 1, type := 0, pos := "icmpmap.go:163", after := #[], guard := none }) (v := ?_) rfl (by kernel_rfl) (by kernel_rfl) (by kernel_rfl) (fun _ _ _ h => h) (Or.inl ⟨by rfl, ?_⟩) (by assumption) ?_
  rotate_left
  · (intro ww hSw; (try dsimp only at hSw); go_simp; try with_reducible rfl)
  (try simp only [Act.put, List.setIfInBounds_toArray, List.set_cons_zero, List.set_cons_succ])
  refine wpAnyH_take (i := 4) (oi := { dst := some 41, op := Op.load 3 (Operand.tmp 40), type := 3, pos := "icmpmap.go:163", after := #[{ on := 3, ground := Ground.data }], guard := none }) (v := ?_) rfl (by kernel_rfl) (by kernel_rfl) (by kernel_rfl) (fun _ _ _ h => h) (Or.inl ⟨by rfl, ?_⟩) (by assumption) ?_
  rotate_left
  · (intro ww hSw; (try dsimp only at hSw); go_simp; try with_reducible rfl)
  (try simp only [Act.put, List.setIfInBounds_toArray, List.set_cons_zero, List.set_cons_succ])
  refine wpAnyH_take (i := 5) (oi := { dst := some 42, op := Op.binOp BinOp.eql 3 (Operand.tmp 41) (Operand.const (Value.int IntKind.i64 0)) 3, type := 4, pos := "icmpmap.go:163", after := #[{ on := 4, ground := Ground.data }], guard := none }) (v := ?_) rfl (by kernel_rfl) (by kernel_rfl) (by kernel_rfl) (fun _ _ _ h => h) (Or.inl ⟨by rfl, ?_⟩) (by assumption) ?_
  rotate_left
  · (intro ww hSw; (try dsimp only at hSw); go_simp; try with_reducible rfl)
  (try simp only [Act.put, List.setIfInBounds_toArray, List.set_cons_zero, List.set_cons_succ])
  refine wpAnyH_take (i := 6) (oi := { dst := some 43, op := Op.move (Operand.tmp 42), type := 4, pos := "icmpmap.go:163", after := #[{ on := 5, ground := Ground.data }], guard := none }) (v := ?_) rfl (by kernel_rfl) (by kernel_rfl) (by kernel_rfl) (fun _ _ _ h => h) (Or.inl ⟨by rfl, ?_⟩) (by assumption) ?_
  rotate_left
  · (intro ww hSw; (try dsimp only at hSw); go_simp; try with_reducible rfl)
  (try simp only [Act.put, List.setIfInBounds_toArray, List.set_cons_zero, List.set_cons_succ])
  refine wpAnyH_take (i := 7) (oi := { dst := some 44, op := Op.fieldAddr 24 (Operand.tmp 1) 1, type := 0, pos := "icmpmap.go:163", after := #[{ on := 6, ground := Ground.guard }, { on := 11, ground := Ground.gcOnly Departure.lateStores }], guard := some (6, false) }) (v := undef) rfl (by kernel_rfl) (by kernel_rfl) (by kernel_rfl) (fun _ _ _ h => h) (Or.inr ⟨by rfl, rfl⟩) (by assumption) ?_
  (try simp only [Act.put, List.setIfInBounds_toArray, List.set_cons_zero, List.set_cons_succ])
  refine wpAnyH_take (i := 8) (oi := { dst := some 45, op := Op.load 3 (Operand.tmp 44), type := 3, pos := "icmpmap.go:163", after := #[{ on := 7, ground := Ground.data }, { on := 6, ground := Ground.guard }, { on := 11, ground := Ground.gcOnly Departure.lateStores }], guard := some (6, false) }) (v := undef) rfl (by kernel_rfl) (by kernel_rfl) (by kernel_rfl) (fun _ _ _ h => h) (Or.inr ⟨by rfl, rfl⟩) (by assumption) ?_
  (try simp only [Act.put, List.setIfInBounds_toArray, List.set_cons_zero, List.set_cons_succ])
  refine wpAnyH_take (i := 9) (oi := { dst := some 46, op := Op.binOp BinOp.eql 3 (Operand.tmp 45) (Operand.const (Value.int IntKind.i64 1)) 3, type := 4, pos := "icmpmap.go:163", after := #[{ on := 8, ground := Ground.data }, { on := 6, ground := Ground.guard }, { on := 11, ground := Ground.gcOnly Departure.lateStores }], guard := some (6, false) }) (v := undef) rfl (by kernel_rfl) (by kernel_rfl) (by kernel_rfl) (fun _ _ _ h => h) (Or.inr ⟨by rfl, rfl⟩) (by assumption) ?_
  (try simp only [Act.put, List.setIfInBounds_toArray, List.set_cons_zero, List.set_cons_succ])
  refine wpAnyH_take (i := 10) (oi := { dst := some 47, op := Op.pick (Operand.tmp 43) (Operand.const (Value.bool true)) (Operand.tmp 46), type := 4, pos := "icmpmap.go:163", after := #[{ on := 6, ground := Ground.data }, { on := 9, ground := Ground.data }, { on := 11, ground := Ground.gcOnly Departure.lateStores }], guard := none }) (v := ?_) rfl (by kernel_rfl) (by kernel_rfl) (by kernel_rfl) (fun _ _ _ h => h) (Or.inl ⟨by rfl, ?_⟩) (by assumption) ?_
  rotate_left
  · (intro ww hSw; (try dsimp only at hSw); go_simp; try with_reducible rfl)
  (try simp only [Act.put, List.setIfInBounds_toArray, List.set_cons_zero, List.set_cons_succ])
  refine wpAnyH_ready (rs := [11]) (by kernel_rfl) (by simp) ?_
  refine AllReadyH.cons (o := { dst := none, op := Op.store 24 (Operand.tmp 2) (Operand.tmp 39), type := 0, pos := "icmpmap.go:163", after := #[{ on := 2, ground := Ground.data }, { on := 6, ground := Ground.chain }, { on := 0, ground := Ground.phase }, { on := 1, ground := Ground.phase }, { on := 2, ground := Ground.phase }, { on := 3, ground := Ground.textOnly Departure.lateStores }, { on := 4, ground := Ground.textOnly Departure.lateStores }, { on := 5, ground := Ground.textOnly Departure.lateStores }, { on := 6, ground := Ground.textOnly Departure.lateStores }, { on := 7, ground := Ground.textOnly Departure.lateStores }, { on := 8, ground := Ground.textOnly Departure.lateStores }, { on := 9, ground := Ground.textOnly Departure.lateStores }, { on := 10, ground := Ground.textOnly Departure.lateStores }], guard := none }) rfl (fun K hK => ?_) AllReadyH.nil
  rw [if_pos (by rfl)]
  have hne : ∀ x ∈ [(w.heap.size, 24, VM)], x.1 ≠ w.heap.size + 1 := fun x hx => by simp at hx; rw [hx]; omega
  have hS := Bk.sets [.int .i64 11, .int .i64 0, .int .u32 0, .string ⟨#[]⟩] 0 _ _ hkc
  rw [puts_whole V0.toArray [.int .i64 11, .int .i64 0, .int .u32 0, .string ⟨#[]⟩] (by have := HL_V0.out; simp; omega)] at hS
  refine wp_store_mid 24 _ _ rfl (w.heap.size + 1) 0 ([.int .i64 11, .int .i64 0, .int .u32 0, .string ⟨#[]⟩] : List Value).toArray rfl rfl htf (by simpa using HIN.out) (by simp [Value.oneCell']) ?_
  refine hK.out _ _ (HKR.out _ ((And.left hHeld).sets hne (Nat.le_succ _) 0 [.int .i64 11, .int .i64 0, .int .u32 0, .string ⟨#[]⟩])) (fun hHeld => ?_)
  clear hK K
  (try simp only [Act.put])
  refine wpAnyH_take (i := 12) (oi := { dst := some 3, op := Op.assign (Operand.tmp 47), type := 4, pos := "icmpmap.go:163", after := #[{ on := 10, ground := Ground.data }, { on := 11, ground := Ground.chain }, { on := 0, ground := Ground.phase }, { on := 1, ground := Ground.phase }, { on := 2, ground := Ground.phase }, { on := 3, ground := Ground.phase }, { on := 4, ground := Ground.phase }, { on := 5, ground := Ground.phase }, { on := 6, ground := Ground.phase }, { on := 7, ground := Ground.phase }, { on := 8, ground := Ground.phase }, { on := 9, ground := Ground.phase }, { on := 10, ground := Ground.phase }, { on := 11, ground := Ground.phase }], guard := none }) (v := ?_) rfl (by kernel_rfl) (by kernel_rfl) (by kernel_rfl) (fun _ _ _ h => h) (Or.inl ⟨by rfl, ?_⟩) (by assumption) ?_
  rotate_left
  · (intro ww hSw; (try dsimp only at hSw); go_simp; try with_reducible rfl)
  (try simp only [Act.put, List.setIfInBounds_toArray, List.set_cons_zero, List.set_cons_succ])
  refine wpAnyH_done (by kernel_rfl) ?_ _
  refine NoPanic.normal ?_
  have HSS := Lib.hid hS
  have HB := Lib.hid (And.left hHeld).2.1
  clear hS hHeld
  go_wp2_with fail
  refine bodyPost_ret (v := .tuple #[.agg ([.int .i64 11, .int .i64 0, .int .u32 0, .string ⟨#[]⟩] : List Value).toArray, .bool true]) ?_ rfl ?_
  · exact results_cell2 rfl rfl rfl (run_loadVar_mid _ (w.heap.size + 1) 0 24 [.int .i64 11, .int .i64 0, .int .u32 0, .string ⟨#[]⟩] _ HSS.out.range Tryd.underlying24 rfl HIN.out)
  · rw [HS.out]
    exact ⟨rfl, HB.out⟩
set_option maxRecDepth 100000 in
set_option maxHeartbeats 4000000 in
theorem sd4_k3_1 (m : Mg) (w : World) (h1 : m.kd = 3) (h2 : m.cd = 1) : Calls Tryd.prog 21 #[.agg m.vals.toArray] w fun e w' => e = .returned (.tuple #[.agg (said4 m).1.vals.toArray, .bool (said4 m).2]) ∧ Below w.heap.size w w' := by
  have HS : Hid (said4 m = (⟨11, 1, 0, ⟨#[]⟩⟩, true)) := Lib.hid (by unfold said4; simp [h1, h2])
  obtain ⟨V0, hV0⟩ : ∃ V, V = mg0.vals := ⟨_, rfl⟩
  have HB0 : Hid (∀ W, (Instr.build 24 #[]).run Tryd.prog W = .ok (.agg V0.toArray) W) := Lib.hid (fun W => by rw [hV0]; exact mgBuild W)
  have HI_V0 : Hid ((Tryd.prog.info? 24).map (·.size) = some V0.length) := Lib.hid (by rw [hV0]; exact Tryd.infoMg _)
  have HO_V0 : Hid (V0.toArray.all (·.oneCell') = true) := Lib.hid (by rw [hV0]; exact mg_one _)
  have HL_V0 : Hid (V0.length = 4) := Lib.hid (by rw [hV0]; rfl)
  have hz0 : V0.toArray = #[.int .i64 0, .int .i64 0, .int .u32 0, .string ⟨#[]⟩] := by rw [hV0]; rfl
  have HV0 := Lib.hid hV0
  clear hV0
  have HI_VM : Hid ((Tryd.prog.info? 24).map (·.size) = some m.vals.length) := Lib.hid (Tryd.infoMg _)
  have HM0 : Hid (m.vals[0]? = some (.int .i64 3)) := Lib.hid (by rw [← h1]; rfl)
  have HM1 : Hid (m.vals[1]? = some (.int .i64 1)) := Lib.hid (by rw [← h2]; rfl)
  have HM2 : Hid (m.vals[2]? = some (.int .u32 m.rs)) := Lib.hid (by exact rfl)
  have HM3 : Hid (m.vals[3]? = some (.string m.da)) := Lib.hid (by exact rfl)
  have HK1 : Hid (Kp w w.heap.size [(w.heap.size + 1, 24, V0), (w.heap.size, 24, m.vals)] ((w.alloc (.cells m.vals.toArray 24)).alloc (.cells V0.toArray 24))) := Lib.hid (by
    have h := (Kp.start w).new 24 m.vals
    have e1 : (w.alloc (.cells m.vals.toArray 24)).heap.size = w.heap.size + 1 := by simp
    have h2 := h.new 24 V0
    rwa [e1] at h2)
  generalize m.vals = VM at *
  generalize hw1 : (w.alloc (.cells VM.toArray 24)).alloc (.cells V0.toArray 24) = w1 at *
  rw [hz0] at hw1
  go_enter Tryd.func21, Tryd.ntmps21
  go_upto_region 1 with (fail)
  clear hw1 hz0
  have c0 : w1.cell? ⟨w.heap.size, 0, none⟩ = some (.int .i64 3) := HK1.out.tl.hd.at HM0.out
  go_upto_region 11 with (fail)
  clear c0
  have HIN : Hid ((Tryd.prog.info? 24).map (·.size) = some ([.int .i64 11, .int .i64 1, .int .u32 0, .string ⟨#[]⟩] : List Value).length) := Lib.hid (Tryd.infoMg (⟨11, 1, 0, ⟨#[]⟩⟩ : Mg))
  have HKR : Hid (∀ W : World, Kp w w.heap.size [(w.heap.size, 24, VM)] W → (fun W => Kp w w.heap.size [(w.heap.size, 24, VM)] W ∧ W.cell? ⟨w.heap.size, 1, none⟩ = some (.int .i64 1) ∧ W.cell? ⟨w.heap.size, 2, none⟩ = some (.int .u32 m.rs)) W) := Lib.hid (fun W h => ⟨h, h.hd.at HM1.out, h.hd.at HM2.out⟩)
  have hkc := HK1.out.drew.hd
  have htf := hkc.there 4 (by have := HL_V0.out; simp; omega)
  refine wp_region_noPanic ?_
  refine wp_region_held_drew (S := fun W => Kp w w.heap.size [(w.heap.size, 24, VM)] W ∧ W.cell? ⟨w.heap.size, 1, none⟩ = some (.int .i64 1) ∧ W.cell? ⟨w.heap.size, 2, none⟩ = some (.int .u32 m.rs)) (by kernel_rfl) (HKR.out _ HK1.out.tl.drew) (fun hHeld => ?_)
  refine wpAnyH_take (i := 0) (oi := { dst := some 37, op := Op.fieldAddr 24 (Operand.tmp 1) 1, type := 0, pos := "icmpmap.go:163", after := #[], guard := none }) (v := ?_) rfl (by kernel_rfl) (by kernel_rfl) (by kernel_rfl) (fun _ _ _ h => h) (Or.inl ⟨by rfl, ?_⟩) (by assumption) ?_
  rotate_left
  · (intro ww hSw; (try dsimp only at hSw); go_simp; try with_reducible rfl)
  (try simp only [Act.put, List.setIfInBounds_toArray, List.set_cons_zero, List.set_cons_succ])
  refine wpAnyH_take (i := 1) (oi := { dst := some 38, op := Op.load 3 (Operand.tmp 37), type := 3, pos := "icmpmap.go:163", after := #[{ on := 0, ground := Ground.data }], guard := none }) (v := ?_) rfl (by kernel_rfl) (by kernel_rfl) (by kernel_rfl) (fun _ _ _ h => h) (Or.inl ⟨by rfl, ?_⟩) (by assumption) ?_
  rotate_left
  · (intro ww hSw; (try dsimp only at hSw); go_simp; try with_reducible rfl)
  (try simp only [Act.put, List.setIfInBounds_toArray, List.set_cons_zero, List.set_cons_succ])
  refine wpAnyH_take (i := 2) (oi := { dst := some 39, op := Op.build 24 #[(0, Operand.const (Value.int IntKind.i64 11)), (1, Operand.tmp 38)], type := 24, pos := "icmpmap.go:163", after := #[{ on := 1, ground := Ground.data }], guard := none }) (v := ?_) rfl (by kernel_rfl) (by kernel_rfl) (by kernel_rfl) (fun _ _ _ h => h) (Or.inl ⟨by rfl, ?_⟩) (by assumption) ?_
  rotate_left
  · (intro ww hSw; (try dsimp only at hSw); go_simp; try with_reducible rfl)
  (try simp only [Act.put, List.setIfInBounds_toArray, List.set_cons_zero, List.set_cons_succ])
  refine wpAnyH_take (i := 3) (oi := { dst := some 40, op := Op.fieldAddr 24 (Operand.tmp 1) 1, type := 0, pos := "icmpmap.go:163", after := #[], guard := none }) (v := ?_) rfl (by kernel_rfl) (by kernel_rfl) (by kernel_rfl) (fun _ _ _ h => h) (Or.inl ⟨by rfl, ?_⟩) (by assumption) ?_
  rotate_left
  · (intro ww hSw; (try dsimp only at hSw); go_simp; try with_reducible rfl)
  (try simp only [Act.put, List.setIfInBounds_toArray, List.set_cons_zero, List.set_cons_succ])
  refine wpAnyH_take (i := 4) (oi := { dst := some 41, op := Op.load 3 (Operand.tmp 40), type := 3, pos := "icmpmap.go:163", after := #[{ on := 3, ground := Ground.data }], guard := none }) (v := ?_) rfl (by kernel_rfl) (by kernel_rfl) (by kernel_rfl) (fun _ _ _ h => h) (Or.inl ⟨by rfl, ?_⟩) (by assumption) ?_
  rotate_left
  · (intro ww hSw; (try dsimp only at hSw); go_simp; try with_reducible rfl)
  (try simp only [Act.put, List.setIfInBounds_toArray, List.set_cons_zero, List.set_cons_succ])
  refine wpAnyH_take (i := 5) (oi := { dst := some 42, op := Op.binOp BinOp.eql 3 (Operand.tmp 41) (Operand.const (Value.int IntKind.i64 0)) 3, type := 4, pos := "icmpmap.go:163", after := #[{ on := 4, ground := Ground.data }], guard := none }) (v := ?_) rfl (by kernel_rfl) (by kernel_rfl) (by kernel_rfl) (fun _ _ _ h => h) (Or.inl ⟨by rfl, ?_⟩) (by assumption) ?_
  rotate_left
  · (intro ww hSw; (try dsimp only at hSw); go_simp; try with_reducible rfl)
  (try simp only [Act.put, List.setIfInBounds_toArray, List.set_cons_zero, List.set_cons_succ])
  refine wpAnyH_take (i := 6) (oi := { dst := some 43, op := Op.move (Operand.tmp 42), type := 4, pos := "icmpmap.go:163", after := #[{ on := 5, ground := Ground.data }], guard := none }) (v := ?_) rfl (by kernel_rfl) (by kernel_rfl) (by kernel_rfl) (fun _ _ _ h => h) (Or.inl ⟨by rfl, ?_⟩) (by assumption) ?_
  rotate_left
  · (intro ww hSw; (try dsimp only at hSw); go_simp; try with_reducible rfl)
  (try simp only [Act.put, List.setIfInBounds_toArray, List.set_cons_zero, List.set_cons_succ])
  refine wpAnyH_take (i := 7) (oi := { dst := some 44, op := Op.fieldAddr 24 (Operand.tmp 1) 1, type := 0, pos := "icmpmap.go:163", after := #[{ on := 6, ground := Ground.guard }, { on := 11, ground := Ground.gcOnly Departure.lateStores }], guard := some (6, false) }) (v := ?_) rfl (by kernel_rfl) (by kernel_rfl) (by kernel_rfl) (fun _ _ _ h => h) (Or.inl ⟨by rfl, ?_⟩) (by assumption) ?_
  rotate_left
  · (intro ww hSw; (try dsimp only at hSw); go_simp; try with_reducible rfl)
  (try simp only [Act.put, List.setIfInBounds_toArray, List.set_cons_zero, List.set_cons_succ])
  refine wpAnyH_take (i := 8) (oi := { dst := some 45, op := Op.load 3 (Operand.tmp 44), type := 3, pos := "icmpmap.go:163", after := #[{ on := 7, ground := Ground.data }, { on := 6, ground := Ground.guard }, { on := 11, ground := Ground.gcOnly Departure.lateStores }], guard := some (6, false) }) (v := ?_) rfl (by kernel_rfl) (by kernel_rfl) (by kernel_rfl) (fun _ _ _ h => h) (Or.inl ⟨by rfl, ?_⟩) (by assumption) ?_
  rotate_left
  · (intro ww hSw; (try dsimp only at hSw); go_simp; try with_reducible rfl)
  (try simp only [Act.put, List.setIfInBounds_toArray, List.set_cons_zero, List.set_cons_succ])
  refine wpAnyH_take (i := 9) (oi := { dst := some 46, op := Op.binOp BinOp.eql 3 (Operand.tmp 45) (Operand.const (Value.int IntKind.i64 1)) 3, type := 4, pos := "icmpmap.go:163", after := #[{ on := 8, ground := Ground.data }, { on := 6, ground := Ground.guard }, { on := 11, ground := Ground.gcOnly Departure.lateStores }], guard := some (6, false) }) (v := ?_) rfl (by kernel_rfl) (by kernel_rfl) (by kernel_rfl) (fun _ _ _ h => h) (Or.inl ⟨by rfl, ?_⟩) (by assumption) ?_
  rotate_left
  · (intro ww hSw; (try dsimp only at hSw); go_simp; try with_reducible rfl)
  (try simp only [Act.put, List.setIfInBounds_toArray, List.set_cons_zero, List.set_cons_succ])
  refine wpAnyH_take (i := 10) (oi := { dst := some 47, op := Op.pick (Operand.tmp 43) (Operand.const (Value.bool true)) (Operand.tmp 46), type := 4, pos := "icmpmap.go:163", after := #[{ on := 6, ground := Ground.data }, { on := 9, ground := Ground.data }, { on := 11, ground := Ground.gcOnly Departure.lateStores }], guard := none }) (v := ?_) rfl (by kernel_rfl) (by kernel_rfl) (by kernel_rfl) (fun _ _ _ h => h) (Or.inl ⟨by rfl, ?_⟩) (by assumption) ?_
  rotate_left
  · (intro ww hSw; (try dsimp only at hSw); go_simp; try with_reducible rfl)
  (try simp only [Act.put, List.setIfInBounds_toArray, List.set_cons_zero, List.set_cons_succ])
  refine wpAnyH_ready (rs := [11]) (by kernel_rfl) (by simp) ?_
  refine AllReadyH.cons (o := { dst := none, op := Op.store 24 (Operand.tmp 2) (Operand.tmp 39), type := 0, pos := "icmpmap.go:163", after := #[{ on := 2, ground := Ground.data }, { on := 6, ground := Ground.chain }, { on := 0, ground := Ground.phase }, { on := 1, ground := Ground.phase }, { on := 2, ground := Ground.phase }, { on := 3, ground := Ground.textOnly Departure.lateStores }, { on := 4, ground := Ground.textOnly Departure.lateStores }, { on := 5, ground := Ground.textOnly Departure.lateStores }, { on := 6, ground := Ground.textOnly Departure.lateStores }, { on := 7, ground := Ground.textOnly Departure.lateStores }, { on := 8, ground := Ground.textOnly Departure.lateStores }, { on := 9, ground := Ground.textOnly Departure.lateStores }, { on := 10, ground := Ground.textOnly Departure.lateStores }], guard := none }) rfl (fun K hK => ?_) AllReadyH.nil
  rw [if_pos (by rfl)]
  have hne : ∀ x ∈ [(w.heap.size, 24, VM)], x.1 ≠ w.heap.size + 1 := fun x hx => by simp at hx; rw [hx]; omega
  have hS := Bk.sets [.int .i64 11, .int .i64 1, .int .u32 0, .string ⟨#[]⟩] 0 _ _ hkc
  rw [puts_whole V0.toArray [.int .i64 11, .int .i64 1, .int .u32 0, .string ⟨#[]⟩] (by have := HL_V0.out; simp; omega)] at hS
  refine wp_store_mid 24 _ _ rfl (w.heap.size + 1) 0 ([.int .i64 11, .int .i64 1, .int .u32 0, .string ⟨#[]⟩] : List Value).toArray rfl rfl htf (by simpa using HIN.out) (by simp [Value.oneCell']) ?_
  refine hK.out _ _ (HKR.out _ ((And.left hHeld).sets hne (Nat.le_succ _) 0 [.int .i64 11, .int .i64 1, .int .u32 0, .string ⟨#[]⟩])) (fun hHeld => ?_)
  clear hK K
  (try simp only [Act.put])
  refine wpAnyH_take (i := 12) (oi := { dst := some 3, op := Op.assign (Operand.tmp 47), type := 4, pos := "icmpmap.go:163", after := #[{ on := 10, ground := Ground.data }, { on := 11, ground := Ground.chain }, { on := 0, ground := Ground.phase }, { on := 1, ground := Ground.phase }, { on := 2, ground := Ground.phase }, { on := 3, ground := Ground.phase }, { on := 4, ground := Ground.phase }, { on := 5, ground := Ground.phase }, { on := 6, ground := Ground.phase }, { on := 7, ground := Ground.phase }, { on := 8, ground := Ground.phase }, { on := 9, ground := Ground.phase }, { on := 10, ground := Ground.phase }, { on := 11, ground := Ground.phase }], guard := none }) (v := ?_) rfl (by kernel_rfl) (by kernel_rfl) (by kernel_rfl) (fun _ _ _ h => h) (Or.inl ⟨by rfl, ?_⟩) (by assumption) ?_
  rotate_left
  · (intro ww hSw; (try dsimp only at hSw); go_simp; try with_reducible rfl)
  (try simp only [Act.put, List.setIfInBounds_toArray, List.set_cons_zero, List.set_cons_succ])
  refine wpAnyH_done (by kernel_rfl) ?_ _
  refine NoPanic.normal ?_
  have HSS := Lib.hid hS
  have HB := Lib.hid (And.left hHeld).2.1
  clear hS hHeld
  go_wp2_with fail
  refine bodyPost_ret (v := .tuple #[.agg ([.int .i64 11, .int .i64 1, .int .u32 0, .string ⟨#[]⟩] : List Value).toArray, .bool true]) ?_ rfl ?_
  · exact results_cell2 rfl rfl rfl (run_loadVar_mid _ (w.heap.size + 1) 0 24 [.int .i64 11, .int .i64 1, .int .u32 0, .string ⟨#[]⟩] _ HSS.out.range Tryd.underlying24 rfl HIN.out)
  · rw [HS.out]
    exact ⟨rfl, HB.out⟩
set_option maxRecDepth 100000 in
set_option maxHeartbeats 4000000 in
theorem sd4_k3_n (m : Mg) (w : World) (h1 : m.kd = 3) (g0 : m.cd ≠ 0) (g1 : m.cd ≠ 1) : Calls Tryd.prog 21 #[.agg m.vals.toArray] w fun e w' => e = .returned (.tuple #[.agg (said4 m).1.vals.toArray, .bool (said4 m).2]) ∧ Below w.heap.size w w' := by
  have HS : Hid (said4 m = (⟨11, m.cd, 0, ⟨#[]⟩⟩, false)) := Lib.hid (by unfold said4; simp [h1, g0, g1])
  have e0 : (m.cd == 0) = false := by rw [beq_eq_false_iff_ne]; exact g0
  have e1 : (m.cd == 1) = false := by rw [beq_eq_false_iff_ne]; exact g1
  obtain ⟨V0, hV0⟩ : ∃ V, V = mg0.vals := ⟨_, rfl⟩
  have HB0 : Hid (∀ W, (Instr.build 24 #[]).run Tryd.prog W = .ok (.agg V0.toArray) W) := Lib.hid (fun W => by rw [hV0]; exact mgBuild W)
  have HI_V0 : Hid ((Tryd.prog.info? 24).map (·.size) = some V0.length) := Lib.hid (by rw [hV0]; exact Tryd.infoMg _)
  have HO_V0 : Hid (V0.toArray.all (·.oneCell') = true) := Lib.hid (by rw [hV0]; exact mg_one _)
  have HL_V0 : Hid (V0.length = 4) := Lib.hid (by rw [hV0]; rfl)
  have hz0 : V0.toArray = #[.int .i64 0, .int .i64 0, .int .u32 0, .string ⟨#[]⟩] := by rw [hV0]; rfl
  have HV0 := Lib.hid hV0
  clear hV0
  have HI_VM : Hid ((Tryd.prog.info? 24).map (·.size) = some m.vals.length) := Lib.hid (Tryd.infoMg _)
  have HM0 : Hid (m.vals[0]? = some (.int .i64 3)) := Lib.hid (by rw [← h1]; rfl)
  have HM1 : Hid (m.vals[1]? = some (.int .i64 m.cd)) := Lib.hid (by exact rfl)
  have HM2 : Hid (m.vals[2]? = some (.int .u32 m.rs)) := Lib.hid (by exact rfl)
  have HM3 : Hid (m.vals[3]? = some (.string m.da)) := Lib.hid (by exact rfl)
  have HK1 : Hid (Kp w w.heap.size [(w.heap.size + 1, 24, V0), (w.heap.size, 24, m.vals)] ((w.alloc (.cells m.vals.toArray 24)).alloc (.cells V0.toArray 24))) := Lib.hid (by
    have h := (Kp.start w).new 24 m.vals
    have e1 : (w.alloc (.cells m.vals.toArray 24)).heap.size = w.heap.size + 1 := by simp
    have h2 := h.new 24 V0
    rwa [e1] at h2)
  generalize m.vals = VM at *
  generalize hw1 : (w.alloc (.cells VM.toArray 24)).alloc (.cells V0.toArray 24) = w1 at *
  rw [hz0] at hw1
  go_enter Tryd.func21, Tryd.ntmps21
  go_upto_region 1 with (fail)
  clear hw1 hz0
  have c0 : w1.cell? ⟨w.heap.size, 0, none⟩ = some (.int .i64 3) := HK1.out.tl.hd.at HM0.out
  go_upto_region 11 with (fail)
  clear c0
  have HIN : Hid ((Tryd.prog.info? 24).map (·.size) = some ([.int .i64 11, .int .i64 m.cd, .int .u32 0, .string ⟨#[]⟩] : List Value).length) := Lib.hid (Tryd.infoMg (⟨11, m.cd, 0, ⟨#[]⟩⟩ : Mg))
  have HKR : Hid (∀ W : World, Kp w w.heap.size [(w.heap.size, 24, VM)] W → (fun W => Kp w w.heap.size [(w.heap.size, 24, VM)] W ∧ W.cell? ⟨w.heap.size, 1, none⟩ = some (.int .i64 m.cd) ∧ W.cell? ⟨w.heap.size, 2, none⟩ = some (.int .u32 m.rs)) W) := Lib.hid (fun W h => ⟨h, h.hd.at HM1.out, h.hd.at HM2.out⟩)
  have hkc := HK1.out.drew.hd
  have htf := hkc.there 4 (by have := HL_V0.out; simp; omega)
  refine wp_region_noPanic ?_
  refine wp_region_held_drew (S := fun W => Kp w w.heap.size [(w.heap.size, 24, VM)] W ∧ W.cell? ⟨w.heap.size, 1, none⟩ = some (.int .i64 m.cd) ∧ W.cell? ⟨w.heap.size, 2, none⟩ = some (.int .u32 m.rs)) (by kernel_rfl) (HKR.out _ HK1.out.tl.drew) (fun hHeld => ?_)
  refine wpAnyH_take (i := 0) (oi := { dst := some 37, op := Op.fieldAddr 24 (Operand.tmp 1) 1, type := 0, pos := "icmpmap.go:163", after := #[], guard := none }) (v := ?_) rfl (by kernel_rfl) (by kernel_rfl) (by kernel_rfl) (fun _ _ _ h => h) (Or.inl ⟨by rfl, ?_⟩) (by assumption) ?_
  rotate_left
  · (intro ww hSw; (try dsimp only at hSw); go_simp; try with_reducible rfl)
  (try simp only [Act.put, List.setIfInBounds_toArray, List.set_cons_zero, List.set_cons_succ])
  refine wpAnyH_take (i := 1) (oi := { dst := some 38, op := Op.load 3 (Operand.tmp 37), type := 3, pos := "icmpmap.go:163", after := #[{ on := 0, ground := Ground.data }], guard := none }) (v := ?_) rfl (by kernel_rfl) (by kernel_rfl) (by kernel_rfl) (fun _ _ _ h => h) (Or.inl ⟨by rfl, ?_⟩) (by assumption) ?_
  rotate_left
  · (intro ww hSw; (try dsimp only at hSw); go_simp; try with_reducible rfl)
  (try simp only [Act.put, List.setIfInBounds_toArray, List.set_cons_zero, List.set_cons_succ])
  refine wpAnyH_take (i := 2) (oi := { dst := some 39, op := Op.build 24 #[(0, Operand.const (Value.int IntKind.i64 11)), (1, Operand.tmp 38)], type := 24, pos := "icmpmap.go:163", after := #[{ on := 1, ground := Ground.data }], guard := none }) (v := ?_) rfl (by kernel_rfl) (by kernel_rfl) (by kernel_rfl) (fun _ _ _ h => h) (Or.inl ⟨by rfl, ?_⟩) (by assumption) ?_
  rotate_left
  · (intro ww hSw; (try dsimp only at hSw); go_simp; try with_reducible rfl)
  (try simp only [Act.put, List.setIfInBounds_toArray, List.set_cons_zero, List.set_cons_succ])
  refine wpAnyH_take (i := 3) (oi := { dst := some 40, op := Op.fieldAddr 24 (Operand.tmp 1) 1, type := 0, pos := "icmpmap.go:163", after := #[], guard := none }) (v := ?_) rfl (by kernel_rfl) (by kernel_rfl) (by kernel_rfl) (fun _ _ _ h => h) (Or.inl ⟨by rfl, ?_⟩) (by assumption) ?_
  rotate_left
  · (intro ww hSw; (try dsimp only at hSw); go_simp; try with_reducible rfl)
  (try simp only [Act.put, List.setIfInBounds_toArray, List.set_cons_zero, List.set_cons_succ])
  refine wpAnyH_take (i := 4) (oi := { dst := some 41, op := Op.load 3 (Operand.tmp 40), type := 3, pos := "icmpmap.go:163", after := #[{ on := 3, ground := Ground.data }], guard := none }) (v := ?_) rfl (by kernel_rfl) (by kernel_rfl) (by kernel_rfl) (fun _ _ _ h => h) (Or.inl ⟨by rfl, ?_⟩) (by assumption) ?_
  rotate_left
  · (intro ww hSw; (try dsimp only at hSw); go_simp; try with_reducible rfl)
  (try simp only [Act.put, List.setIfInBounds_toArray, List.set_cons_zero, List.set_cons_succ])
  refine wpAnyH_take (i := 5) (oi := { dst := some 42, op := Op.binOp BinOp.eql 3 (Operand.tmp 41) (Operand.const (Value.int IntKind.i64 0)) 3, type := 4, pos := "icmpmap.go:163", after := #[{ on := 4, ground := Ground.data }], guard := none }) (v := ?_) rfl (by kernel_rfl) (by kernel_rfl) (by kernel_rfl) (fun _ _ _ h => h) (Or.inl ⟨by rfl, ?_⟩) (by assumption) ?_
  rotate_left
  · (intro ww hSw; (try dsimp only at hSw); go_simp; try with_reducible rfl)
  (try simp only [Act.put, List.setIfInBounds_toArray, List.set_cons_zero, List.set_cons_succ])
  refine wpAnyH_take (i := 6) (oi := { dst := some 43, op := Op.move (Operand.tmp 42), type := 4, pos := "icmpmap.go:163", after := #[{ on := 5, ground := Ground.data }], guard := none }) (v := ?_) rfl (by kernel_rfl) (by kernel_rfl) (by kernel_rfl) (fun _ _ _ h => h) (Or.inl ⟨by rfl, ?_⟩) (by assumption) ?_
  rotate_left
  · (intro ww hSw; (try dsimp only at hSw); go_simp; try with_reducible rfl)
  (try simp only [Act.put, List.setIfInBounds_toArray, List.set_cons_zero, List.set_cons_succ])
  refine wpAnyH_take (i := 7) (oi := { dst := some 44, op := Op.fieldAddr 24 (Operand.tmp 1) 1, type := 0, pos := "icmpmap.go:163", after := #[{ on := 6, ground := Ground.guard }, { on := 11, ground := Ground.gcOnly Departure.lateStores }], guard := some (6, false) }) (v := ?_) rfl (by kernel_rfl) (by kernel_rfl) (by kernel_rfl) (fun _ _ _ h => h) (Or.inl ⟨by rfl, ?_⟩) (by assumption) ?_
  rotate_left
  · (intro ww hSw; (try dsimp only at hSw); go_simp; try with_reducible rfl)
  (try simp only [Act.put, List.setIfInBounds_toArray, List.set_cons_zero, List.set_cons_succ])
  refine wpAnyH_take (i := 8) (oi := { dst := some 45, op := Op.load 3 (Operand.tmp 44), type := 3, pos := "icmpmap.go:163", after := #[{ on := 7, ground := Ground.data }, { on := 6, ground := Ground.guard }, { on := 11, ground := Ground.gcOnly Departure.lateStores }], guard := some (6, false) }) (v := ?_) rfl (by kernel_rfl) (by kernel_rfl) (by kernel_rfl) (fun _ _ _ h => h) (Or.inl ⟨by rfl, ?_⟩) (by assumption) ?_
  rotate_left
  · (intro ww hSw; (try dsimp only at hSw); go_simp; try with_reducible rfl)
  (try simp only [Act.put, List.setIfInBounds_toArray, List.set_cons_zero, List.set_cons_succ])
  refine wpAnyH_take (i := 9) (oi := { dst := some 46, op := Op.binOp BinOp.eql 3 (Operand.tmp 45) (Operand.const (Value.int IntKind.i64 1)) 3, type := 4, pos := "icmpmap.go:163", after := #[{ on := 8, ground := Ground.data }, { on := 6, ground := Ground.guard }, { on := 11, ground := Ground.gcOnly Departure.lateStores }], guard := some (6, false) }) (v := ?_) rfl (by kernel_rfl) (by kernel_rfl) (by kernel_rfl) (fun _ _ _ h => h) (Or.inl ⟨by rfl, ?_⟩) (by assumption) ?_
  rotate_left
  · (intro ww hSw; (try dsimp only at hSw); go_simp; try with_reducible rfl)
  (try simp only [Act.put, List.setIfInBounds_toArray, List.set_cons_zero, List.set_cons_succ])
  refine wpAnyH_take (i := 10) (oi := { dst := some 47, op := Op.pick (Operand.tmp 43) (Operand.const (Value.bool true)) (Operand.tmp 46), type := 4, pos := "icmpmap.go:163", after := #[{ on := 6, ground := Ground.data }, { on := 9, ground := Ground.data }, { on := 11, ground := Ground.gcOnly Departure.lateStores }], guard := none }) (v := ?_) rfl (by kernel_rfl) (by kernel_rfl) (by kernel_rfl) (fun _ _ _ h => h) (Or.inl ⟨by rfl, ?_⟩) (by assumption) ?_
  rotate_left
  · (intro ww hSw; (try dsimp only at hSw); go_simp; try with_reducible rfl)
  (try simp only [Act.put, List.setIfInBounds_toArray, List.set_cons_zero, List.set_cons_succ])
  refine wpAnyH_ready (rs := [11]) (by kernel_rfl) (by simp) ?_
  refine AllReadyH.cons (o := { dst := none, op := Op.store 24 (Operand.tmp 2) (Operand.tmp 39), type := 0, pos := "icmpmap.go:163", after := #[{ on := 2, ground := Ground.data }, { on := 6, ground := Ground.chain }, { on := 0, ground := Ground.phase }, { on := 1, ground := Ground.phase }, { on := 2, ground := Ground.phase }, { on := 3, ground := Ground.textOnly Departure.lateStores }, { on := 4, ground := Ground.textOnly Departure.lateStores }, { on := 5, ground := Ground.textOnly Departure.lateStores }, { on := 6, ground := Ground.textOnly Departure.lateStores }, { on := 7, ground := Ground.textOnly Departure.lateStores }, { on := 8, ground := Ground.textOnly Departure.lateStores }, { on := 9, ground := Ground.textOnly Departure.lateStores }, { on := 10, ground := Ground.textOnly Departure.lateStores }], guard := none }) rfl (fun K hK => ?_) AllReadyH.nil
  rw [if_pos (by rfl)]
  have hne : ∀ x ∈ [(w.heap.size, 24, VM)], x.1 ≠ w.heap.size + 1 := fun x hx => by simp at hx; rw [hx]; omega
  have hS := Bk.sets [.int .i64 11, .int .i64 m.cd, .int .u32 0, .string ⟨#[]⟩] 0 _ _ hkc
  rw [puts_whole V0.toArray [.int .i64 11, .int .i64 m.cd, .int .u32 0, .string ⟨#[]⟩] (by have := HL_V0.out; simp; omega)] at hS
  refine wp_store_mid 24 _ _ rfl (w.heap.size + 1) 0 ([.int .i64 11, .int .i64 m.cd, .int .u32 0, .string ⟨#[]⟩] : List Value).toArray rfl rfl htf (by simpa using HIN.out) (by simp [Value.oneCell']) ?_
  refine hK.out _ _ (HKR.out _ ((And.left hHeld).sets hne (Nat.le_succ _) 0 [.int .i64 11, .int .i64 m.cd, .int .u32 0, .string ⟨#[]⟩])) (fun hHeld => ?_)
  clear hK K
  (try simp only [Act.put])
  refine wpAnyH_take (i := 12) (oi := { dst := some 3, op := Op.assign (Operand.tmp 47), type := 4, pos := "icmpmap.go:163", after := #[{ on := 10, ground := Ground.data }, { on := 11, ground := Ground.chain }, { on := 0, ground := Ground.phase }, { on := 1, ground := Ground.phase }, { on := 2, ground := Ground.phase }, { on := 3, ground := Ground.phase }, { on := 4, ground := Ground.phase }, { on := 5, ground := Ground.phase }, { on := 6, ground := Ground.phase }, { on := 7, ground := Ground.phase }, { on := 8, ground := Ground.phase }, { on := 9, ground := Ground.phase }, { on := 10, ground := Ground.phase }, { on := 11, ground := Ground.phase }], guard := none }) (v := ?_) rfl (by kernel_rfl) (by kernel_rfl) (by kernel_rfl) (fun _ _ _ h => h) (Or.inl ⟨by rfl, ?_⟩) (by assumption) ?_
  rotate_left
  · (intro ww hSw; (try dsimp only at hSw); go_simp; try with_reducible rfl)
  (try simp only [Act.put, List.setIfInBounds_toArray, List.set_cons_zero, List.set_cons_succ])
  refine wpAnyH_done (by kernel_rfl) ?_ _
  refine NoPanic.normal ?_
  have HSS := Lib.hid hS
  have HB := Lib.hid (And.left hHeld).2.1
  clear hS hHeld
  go_wp2_with fail
  refine bodyPost_ret (v := .tuple #[.agg ([.int .i64 11, .int .i64 m.cd, .int .u32 0, .string ⟨#[]⟩] : List Value).toArray, .bool false]) ?_ rfl ?_
  · exact results_cell2 rfl rfl rfl (run_loadVar_mid _ (w.heap.size + 1) 0 24 [.int .i64 11, .int .i64 m.cd, .int .u32 0, .string ⟨#[]⟩] _ HSS.out.range Tryd.underlying24 rfl HIN.out)
  · rw [HS.out]
    exact ⟨rfl, HB.out⟩
end Go.Proofs.YtnehabpdpkjaeaaDoor
