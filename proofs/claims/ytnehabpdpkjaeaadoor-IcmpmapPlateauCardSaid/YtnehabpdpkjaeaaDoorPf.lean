/-
  Proved here: what the program's said6 answers of pointers.
  Conditions: none.
-/
import Derived.Test.YtnehabpdpkjaeaaDoorPe
namespace Go.Proofs.YtnehabpdpkjaeaaDoor
open Go.RowKit

set_option maxRecDepth 100000 in
set_option maxHeartbeats 4000000 in
theorem sd6_px (m : Mg) (w : World) (hr : 0 ≤ m.rs ∧ m.rs < 4294967296) (h1 : m.kd = 12) (hp : ptr6 (m.rs / 16777216) < 0) : Calls Tryd.prog 18 #[.agg m.vals.toArray] w fun e w' => e = .returned (.tuple #[.agg (said6 m).1.vals.toArray, .bool (said6 m).2]) ∧ Below w.heap.size w w' := by
  have hp2 : ¬ 0 ≤ ptr6 (m.rs / 16777216) := by omega
  have HS : Hid (said6 m = (⟨4, 0, 0, ⟨#[]⟩⟩, false)) := Lib.hid (by unfold said6; simp [h1, pp_fst, pp_snd, hp, hp2])
  have CA : Hid (∀ W, Calls Tryd.prog 27 #[.int .u32 (m.rs / 16777216)] W fun e w' => e = .returned (.tuple #[.int .u32 0, .bool false]) ∧ Below W.heap.size W w') := Lib.hid (fun W => (pt6_any (m.rs / 16777216) W (by omega)).mono (fun e w' ⟨a, b⟩ => ⟨by rw [a, pp_fst, pp_snd, if_pos hp]; simp [hp2], b ▸ Below.refl _ _⟩))
  clear hp2
  obtain ⟨V0, hV0⟩ : ∃ V, V = mg0.vals := ⟨_, rfl⟩
  have HB0 : Hid (∀ W, (Instr.build 24 #[]).run Tryd.prog W = .ok (.agg V0.toArray) W) := Lib.hid (fun W => by rw [hV0]; exact mgBuild W)
  have HI_V0 : Hid ((Tryd.prog.info? 24).map (·.size) = some V0.length) := Lib.hid (by rw [hV0]; exact Tryd.infoMg _)
  have HO_V0 : Hid (V0.toArray.all (·.oneCell') = true) := Lib.hid (by rw [hV0]; exact mg_one _)
  have HL_V0 : Hid (V0.length = 4) := Lib.hid (by rw [hV0]; rfl)
  have hz0 : V0.toArray = #[.int .i64 0, .int .i64 0, .int .u32 0, .string ⟨#[]⟩] := by rw [hV0]; rfl
  have HV0 := Lib.hid hV0
  clear hV0
  have HI_VM : Hid ((Tryd.prog.info? 24).map (·.size) = some m.vals.length) := Lib.hid (Tryd.infoMg _)
  have HM0 : Hid (m.vals[0]? = some (.int .i64 12)) := Lib.hid (by rw [← h1]; rfl)
  have HM1 : Hid (m.vals[1]? = some (.int .i64 m.cd)) := Lib.hid (by exact rfl)
  have HM2 : Hid (m.vals[2]? = some (.int .u32 m.rs)) := Lib.hid (by exact rfl)
  have HM3 : Hid (m.vals[3]? = some (.string m.da)) := Lib.hid (by exact rfl)
  have HK1 : Hid (Kp w w.heap.size [(w.heap.size + 1, 24, V0), (w.heap.size, 24, m.vals)] ((w.alloc (.cells m.vals.toArray 24)).alloc (.cells V0.toArray 24))) := Lib.hid (by
    have h := (Kp.start w).new 24 m.vals
    have e1 : (w.alloc (.cells m.vals.toArray 24)).heap.size = w.heap.size + 1 := by simp
    have h2 := h.new 24 V0
    rwa [e1] at h2)
  generalize m.vals = VM at *
  generalize hw1 : (w.alloc (.cells VM.toArray 24)).alloc (.cells V0.toArray 24) = w1 at *
  rw [hz0] at hw1
  go_enter Tryd.func18, Tryd.ntmps18
  go_upto_region 1 with (fail)
  clear hw1 hz0
  have c0 : w1.cell? ⟨w.heap.size, 0, none⟩ = some (.int .i64 12) := HK1.out.tl.hd.at HM0.out
  have c2 : w1.cell? ⟨w.heap.size, 2, none⟩ = some (.int .u32 m.rs) := HK1.out.tl.hd.at HM2.out
  go_upto_region 11 with (fail)
  go_wp2_with (fail)
  refine (CA.out _).mono ?_
  rintro e w2 ⟨rfl, bb⟩
  have HK2 := Lib.hid (HK1.out.below bb (Nat.le_refl _))
  clear bb HK1
  go_upto_region 12 with (fail)
  clear c0 c2
  have HIN : Hid ((Tryd.prog.info? 24).map (·.size) = some ([.int .i64 4, .int .i64 0, .int .u32 0, .string ⟨#[]⟩] : List Value).length) := Lib.hid (Tryd.infoMg (⟨4, 0, 0, ⟨#[]⟩⟩ : Mg))
  have HKR : Hid (∀ W : World, Kp w w.heap.size [(w.heap.size, 24, VM)] W → (fun W => Kp w w.heap.size [(w.heap.size, 24, VM)] W ∧ W.cell? ⟨w.heap.size, 1, none⟩ = some (.int .i64 m.cd)) W) := Lib.hid (fun W h => ⟨h, h.hd.at HM1.out⟩)
  have hkc := HK2.out.drew.hd
  have htf := hkc.there 4 (by have := HL_V0.out; simp; omega)
  refine wp_region_noPanic ?_
  refine wp_region_held_drew (S := fun W => Kp w w.heap.size [(w.heap.size, 24, VM)] W ∧ W.cell? ⟨w.heap.size, 1, none⟩ = some (.int .i64 m.cd)) (by kernel_rfl) (HKR.out _ HK2.out.tl.drew) (fun hHeld => ?_)
  refine wpAnyH_take (i := 0) (oi := { dst := some 53, op := Op.move (Operand.tmp 4), type := 22, pos := "icmpmap.go:129", after := #[], guard := none }) (v := ?_) rfl (by kernel_rfl) (by kernel_rfl) (by kernel_rfl) (fun _ _ _ h => h) (Or.inl ⟨by rfl, ?_⟩) (by assumption) ?_
  rotate_left
  · (intro ww hSw; (try dsimp only at hSw); go_simp; try with_reducible rfl)
  (try simp only [Act.put, List.setIfInBounds_toArray, List.set_cons_zero, List.set_cons_succ])
  refine wpAnyH_take (i := 1) (oi := { dst := some 54, op := Op.build 24 #[(0, Operand.const (Value.int IntKind.i64 4)), (2, Operand.tmp 53)], type := 24, pos := "icmpmap.go:129", after := #[{ on := 0, ground := Ground.data }], guard := none }) (v := ?_) rfl (by kernel_rfl) (by kernel_rfl) (by kernel_rfl) (fun _ _ _ h => h) (Or.inl ⟨by rfl, ?_⟩) (by assumption) ?_
  rotate_left
  · (intro ww hSw; (try dsimp only at hSw); go_simp; try with_reducible rfl)
  (try simp only [Act.put, List.setIfInBounds_toArray, List.set_cons_zero, List.set_cons_succ])
  refine wpAnyH_take (i := 2) (oi := { dst := some 55, op := Op.move (Operand.tmp 5), type := 4, pos := "icmpmap.go:129", after := #[], guard := none }) (v := ?_) rfl (by kernel_rfl) (by kernel_rfl) (by kernel_rfl) (fun _ _ _ h => h) (Or.inl ⟨by rfl, ?_⟩) (by assumption) ?_
  rotate_left
  · (intro ww hSw; (try dsimp only at hSw); go_simp; try with_reducible rfl)
  (try simp only [Act.put, List.setIfInBounds_toArray, List.set_cons_zero, List.set_cons_succ])
  refine wpAnyH_take (i := 3) (oi := { dst := some 56, op := Op.move (Operand.tmp 55), type := 4, pos := "icmpmap.go:129", after := #[{ on := 2, ground := Ground.data }], guard := none }) (v := ?_) rfl (by kernel_rfl) (by kernel_rfl) (by kernel_rfl) (fun _ _ _ h => h) (Or.inl ⟨by rfl, ?_⟩) (by assumption) ?_
  rotate_left
  · (intro ww hSw; (try dsimp only at hSw); go_simp; try with_reducible rfl)
  (try simp only [Act.put, List.setIfInBounds_toArray, List.set_cons_zero, List.set_cons_succ])
  refine wpAnyH_take (i := 4) (oi := { dst := some 57, op := Op.fieldAddr 24 (Operand.tmp 1) 1, type := 0, pos := "icmpmap.go:129", after := #[{ on := 3, ground := Ground.guard }], guard := some (3, true) }) (v := undef) rfl (by kernel_rfl) (by kernel_rfl) (by kernel_rfl) (fun _ _ _ h => h) (Or.inr ⟨by rfl, rfl⟩) (by assumption) ?_
  (try simp only [Act.put, List.setIfInBounds_toArray, List.set_cons_zero, List.set_cons_succ])
  refine wpAnyH_take (i := 5) (oi := { dst := some 58, op := Op.load 3 (Operand.tmp 57), type := 3, pos := "icmpmap.go:129", after := #[{ on := 4, ground := Ground.data }, { on := 3, ground := Ground.guard }], guard := some (3, true) }) (v := undef) rfl (by kernel_rfl) (by kernel_rfl) (by kernel_rfl) (fun _ _ _ h => h) (Or.inr ⟨by rfl, rfl⟩) (by assumption) ?_
  (try simp only [Act.put, List.setIfInBounds_toArray, List.set_cons_zero, List.set_cons_succ])
  refine wpAnyH_take (i := 6) (oi := { dst := some 59, op := Op.binOp BinOp.eql 3 (Operand.tmp 58) (Operand.const (Value.int IntKind.i64 0)) 3, type := 4, pos := "icmpmap.go:129", after := #[{ on := 5, ground := Ground.data }, { on := 3, ground := Ground.guard }], guard := some (3, true) }) (v := undef) rfl (by kernel_rfl) (by kernel_rfl) (by kernel_rfl) (fun _ _ _ h => h) (Or.inr ⟨by rfl, rfl⟩) (by assumption) ?_
  (try simp only [Act.put, List.setIfInBounds_toArray, List.set_cons_zero, List.set_cons_succ])
  refine wpAnyH_take (i := 7) (oi := { dst := some 60, op := Op.move (Operand.tmp 59), type := 4, pos := "icmpmap.go:129", after := #[{ on := 6, ground := Ground.data }, { on := 3, ground := Ground.chain }, { on := 3, ground := Ground.guard }], guard := some (3, true) }) (v := undef) rfl (by kernel_rfl) (by kernel_rfl) (by kernel_rfl) (fun _ _ _ h => h) (Or.inr ⟨by rfl, rfl⟩) (by assumption) ?_
  (try simp only [Act.put, List.setIfInBounds_toArray, List.set_cons_zero, List.set_cons_succ])
  refine wpAnyH_take (i := 8) (oi := { dst := some 61, op := Op.fieldAddr 24 (Operand.tmp 1) 1, type := 0, pos := "icmpmap.go:129", after := #[{ on := 7, ground := Ground.guard }, { on := 13, ground := Ground.gcOnly Departure.lateStores }], guard := some (7, false) }) (v := undef) rfl (by kernel_rfl) (by kernel_rfl) (by kernel_rfl) (fun _ _ _ h => h) (Or.inr ⟨by rfl, rfl⟩) (by assumption) ?_
  (try simp only [Act.put, List.setIfInBounds_toArray, List.set_cons_zero, List.set_cons_succ])
  refine wpAnyH_take (i := 9) (oi := { dst := some 62, op := Op.load 3 (Operand.tmp 61), type := 3, pos := "icmpmap.go:129", after := #[{ on := 8, ground := Ground.data }, { on := 7, ground := Ground.guard }, { on := 13, ground := Ground.gcOnly Departure.lateStores }], guard := some (7, false) }) (v := undef) rfl (by kernel_rfl) (by kernel_rfl) (by kernel_rfl) (fun _ _ _ h => h) (Or.inr ⟨by rfl, rfl⟩) (by assumption) ?_
  (try simp only [Act.put, List.setIfInBounds_toArray, List.set_cons_zero, List.set_cons_succ])
  refine wpAnyH_take (i := 10) (oi := { dst := some 63, op := Op.binOp BinOp.eql 3 (Operand.tmp 62) (Operand.const (Value.int IntKind.i64 2)) 3, type := 4, pos := "icmpmap.go:129", after := #[{ on := 9, ground := Ground.data }, { on := 7, ground := Ground.guard }, { on := 13, ground := Ground.gcOnly Departure.lateStores }], guard := some (7, false) }) (v := undef) rfl (by kernel_rfl) (by kernel_rfl) (by kernel_rfl) (fun _ _ _ h => h) (Or.inr ⟨by rfl, rfl⟩) (by assumption) ?_
  (try simp only [Act.put, List.setIfInBounds_toArray, List.set_cons_zero, List.set_cons_succ])
  refine wpAnyH_take (i := 11) (oi := { dst := some 64, op := Op.pick (Operand.tmp 60) (Operand.const (Value.bool true)) (Operand.tmp 63), type := 4, pos := "icmpmap.go:129", after := #[{ on := 7, ground := Ground.data }, { on := 10, ground := Ground.data }, { on := 3, ground := Ground.guard }, { on := 13, ground := Ground.gcOnly Departure.lateStores }], guard := some (3, true) }) (v := undef) rfl (by kernel_rfl) (by kernel_rfl) (by kernel_rfl) (fun _ _ _ h => h) (Or.inr ⟨by rfl, rfl⟩) (by assumption) ?_
  (try simp only [Act.put, List.setIfInBounds_toArray, List.set_cons_zero, List.set_cons_succ])
  refine wpAnyH_take (i := 12) (oi := { dst := some 65, op := Op.pick (Operand.tmp 56) (Operand.tmp 64) (Operand.const (Value.bool false)), type := 4, pos := "icmpmap.go:129", after := #[{ on := 3, ground := Ground.data }, { on := 11, ground := Ground.data }, { on := 13, ground := Ground.gcOnly Departure.lateStores }], guard := none }) (v := ?_) rfl (by kernel_rfl) (by kernel_rfl) (by kernel_rfl) (fun _ _ _ h => h) (Or.inl ⟨by rfl, ?_⟩) (by assumption) ?_
  rotate_left
  · (intro ww hSw; (try dsimp only at hSw); go_simp; try with_reducible rfl)
  (try simp only [Act.put, List.setIfInBounds_toArray, List.set_cons_zero, List.set_cons_succ])
  refine wpAnyH_ready (rs := [13]) (by kernel_rfl) (by simp) ?_
  refine AllReadyH.cons (o := { dst := none, op := Op.store 24 (Operand.tmp 2) (Operand.tmp 54), type := 0, pos := "icmpmap.go:129", after := #[{ on := 1, ground := Ground.data }, { on := 7, ground := Ground.chain }, { on := 0, ground := Ground.phase }, { on := 1, ground := Ground.phase }, { on := 2, ground := Ground.textOnly Departure.lateStores }, { on := 3, ground := Ground.textOnly Departure.lateStores }, { on := 4, ground := Ground.textOnly Departure.lateStores }, { on := 5, ground := Ground.textOnly Departure.lateStores }, { on := 6, ground := Ground.textOnly Departure.lateStores }, { on := 7, ground := Ground.textOnly Departure.lateStores }, { on := 8, ground := Ground.textOnly Departure.lateStores }, { on := 9, ground := Ground.textOnly Departure.lateStores }, { on := 10, ground := Ground.textOnly Departure.lateStores }, { on := 11, ground := Ground.textOnly Departure.lateStores }, { on := 12, ground := Ground.textOnly Departure.lateStores }], guard := none }) rfl (fun K hK => ?_) AllReadyH.nil
  rw [if_pos (by rfl)]
  have hne : ∀ x ∈ [(w.heap.size, 24, VM)], x.1 ≠ w.heap.size + 1 := fun x hx => by simp at hx; rw [hx]; omega
  have hS := Bk.sets [.int .i64 4, .int .i64 0, .int .u32 0, .string ⟨#[]⟩] 0 _ _ hkc
  rw [puts_whole V0.toArray [.int .i64 4, .int .i64 0, .int .u32 0, .string ⟨#[]⟩] (by have := HL_V0.out; simp; omega)] at hS
  refine wp_store_mid 24 _ _ rfl (w.heap.size + 1) 0 ([.int .i64 4, .int .i64 0, .int .u32 0, .string ⟨#[]⟩] : List Value).toArray rfl rfl htf (by simpa using HIN.out) (by simp [Value.oneCell']) ?_
  refine hK.out _ _ (HKR.out _ ((And.left hHeld).sets hne (Nat.le_succ _) 0 [.int .i64 4, .int .i64 0, .int .u32 0, .string ⟨#[]⟩])) (fun hHeld => ?_)
  clear hK K
  (try simp only [Act.put])
  refine wpAnyH_take (i := 14) (oi := { dst := some 3, op := Op.assign (Operand.tmp 65), type := 4, pos := "icmpmap.go:129", after := #[{ on := 12, ground := Ground.data }, { on := 13, ground := Ground.chain }, { on := 0, ground := Ground.phase }, { on := 1, ground := Ground.phase }, { on := 2, ground := Ground.phase }, { on := 3, ground := Ground.phase }, { on := 4, ground := Ground.phase }, { on := 5, ground := Ground.phase }, { on := 6, ground := Ground.phase }, { on := 7, ground := Ground.phase }, { on := 8, ground := Ground.phase }, { on := 9, ground := Ground.phase }, { on := 10, ground := Ground.phase }, { on := 11, ground := Ground.phase }, { on := 12, ground := Ground.phase }, { on := 13, ground := Ground.phase }], guard := none }) (v := ?_) rfl (by kernel_rfl) (by kernel_rfl) (by kernel_rfl) (fun _ _ _ h => h) (Or.inl ⟨by rfl, ?_⟩) (by assumption) ?_
  rotate_left
  · (intro ww hSw; (try dsimp only at hSw); go_simp; try with_reducible rfl)
  (try simp only [Act.put, List.setIfInBounds_toArray, List.set_cons_zero, List.set_cons_succ])
  refine wpAnyH_done (by kernel_rfl) ?_ _
  refine NoPanic.normal ?_
  have HSS := Lib.hid hS
  have HB := Lib.hid (And.left hHeld).2.1
  clear hS hHeld
  go_wp2_with fail
  refine bodyPost_ret (v := .tuple #[.agg ([.int .i64 4, .int .i64 0, .int .u32 0, .string ⟨#[]⟩] : List Value).toArray, .bool false]) ?_ rfl ?_
  · exact results_cell2 rfl rfl rfl (run_loadVar_mid _ (w.heap.size + 1) 0 24 [.int .i64 4, .int .i64 0, .int .u32 0, .string ⟨#[]⟩] _ HSS.out.range Tryd.underlying24 rfl HIN.out)
  · rw [HS.out]
    exact ⟨rfl, HB.out⟩
set_option maxRecDepth 100000 in
set_option maxHeartbeats 4000000 in
theorem sd6_p0 (m : Mg) (w : World) (hr : 0 ≤ m.rs ∧ m.rs < 4294967296) (h1 : m.kd = 12) (hp : ¬ ptr6 (m.rs / 16777216) < 0) (h2 : m.cd = 0) : Calls Tryd.prog 18 #[.agg m.vals.toArray] w fun e w' => e = .returned (.tuple #[.agg (said6 m).1.vals.toArray, .bool (said6 m).2]) ∧ Below w.heap.size w w' := by
  have hp2 : 0 ≤ ptr6 (m.rs / 16777216) := by omega
  have HS : Hid (said6 m = (⟨4, 0, (ptr6 (m.rs / 16777216)), ⟨#[]⟩⟩, true)) := Lib.hid (by unfold said6; simp [h1, pp_fst, pp_snd, hp, hp2, h2])
  have CA : Hid (∀ W, Calls Tryd.prog 27 #[.int .u32 (m.rs / 16777216)] W fun e w' => e = .returned (.tuple #[.int .u32 (ptr6 (m.rs / 16777216)), .bool true]) ∧ Below W.heap.size W w') := Lib.hid (fun W => (pt6_any (m.rs / 16777216) W (by omega)).mono (fun e w' ⟨a, b⟩ => ⟨by rw [a, pp_fst, pp_snd, if_neg hp]; simp [hp2], b ▸ Below.refl _ _⟩))
  clear hp2
  generalize ptr6 (m.rs / 16777216) = X at *
  obtain ⟨V0, hV0⟩ : ∃ V, V = mg0.vals := ⟨_, rfl⟩
  have HB0 : Hid (∀ W, (Instr.build 24 #[]).run Tryd.prog W = .ok (.agg V0.toArray) W) := Lib.hid (fun W => by rw [hV0]; exact mgBuild W)
  have HI_V0 : Hid ((Tryd.prog.info? 24).map (·.size) = some V0.length) := Lib.hid (by rw [hV0]; exact Tryd.infoMg _)
  have HO_V0 : Hid (V0.toArray.all (·.oneCell') = true) := Lib.hid (by rw [hV0]; exact mg_one _)
  have HL_V0 : Hid (V0.length = 4) := Lib.hid (by rw [hV0]; rfl)
  have hz0 : V0.toArray = #[.int .i64 0, .int .i64 0, .int .u32 0, .string ⟨#[]⟩] := by rw [hV0]; rfl
  have HV0 := Lib.hid hV0
  clear hV0
  have HI_VM : Hid ((Tryd.prog.info? 24).map (·.size) = some m.vals.length) := Lib.hid (Tryd.infoMg _)
  have HM0 : Hid (m.vals[0]? = some (.int .i64 12)) := Lib.hid (by rw [← h1]; rfl)
  have HM1 : Hid (m.vals[1]? = some (.int .i64 0)) := Lib.hid (by rw [← h2]; rfl)
  have HM2 : Hid (m.vals[2]? = some (.int .u32 m.rs)) := Lib.hid (by exact rfl)
  have HM3 : Hid (m.vals[3]? = some (.string m.da)) := Lib.hid (by exact rfl)
  have HK1 : Hid (Kp w w.heap.size [(w.heap.size + 1, 24, V0), (w.heap.size, 24, m.vals)] ((w.alloc (.cells m.vals.toArray 24)).alloc (.cells V0.toArray 24))) := Lib.hid (by
    have h := (Kp.start w).new 24 m.vals
    have e1 : (w.alloc (.cells m.vals.toArray 24)).heap.size = w.heap.size + 1 := by simp
    have h2 := h.new 24 V0
    rwa [e1] at h2)
  generalize m.vals = VM at *
  generalize hw1 : (w.alloc (.cells VM.toArray 24)).alloc (.cells V0.toArray 24) = w1 at *
  rw [hz0] at hw1
  go_enter Tryd.func18, Tryd.ntmps18
  go_upto_region 1 with (fail)
  clear hw1 hz0
  have c0 : w1.cell? ⟨w.heap.size, 0, none⟩ = some (.int .i64 12) := HK1.out.tl.hd.at HM0.out
  have c2 : w1.cell? ⟨w.heap.size, 2, none⟩ = some (.int .u32 m.rs) := HK1.out.tl.hd.at HM2.out
  go_upto_region 11 with (fail)
  go_wp2_with (fail)
  refine (CA.out _).mono ?_
  rintro e w2 ⟨rfl, bb⟩
  have HK2 := Lib.hid (HK1.out.below bb (Nat.le_refl _))
  clear bb HK1
  go_upto_region 12 with (fail)
  clear c0 c2
  have HIN : Hid ((Tryd.prog.info? 24).map (·.size) = some ([.int .i64 4, .int .i64 0, .int .u32 X, .string ⟨#[]⟩] : List Value).length) := Lib.hid (Tryd.infoMg (⟨4, 0, X, ⟨#[]⟩⟩ : Mg))
  have HKR : Hid (∀ W : World, Kp w w.heap.size [(w.heap.size, 24, VM)] W → (fun W => Kp w w.heap.size [(w.heap.size, 24, VM)] W ∧ W.cell? ⟨w.heap.size, 1, none⟩ = some (.int .i64 0)) W) := Lib.hid (fun W h => ⟨h, h.hd.at HM1.out⟩)
  have hkc := HK2.out.drew.hd
  have htf := hkc.there 4 (by have := HL_V0.out; simp; omega)
  refine wp_region_noPanic ?_
  refine wp_region_held_drew (S := fun W => Kp w w.heap.size [(w.heap.size, 24, VM)] W ∧ W.cell? ⟨w.heap.size, 1, none⟩ = some (.int .i64 0)) (by kernel_rfl) (HKR.out _ HK2.out.tl.drew) (fun hHeld => ?_)
  refine wpAnyH_take (i := 0) (oi := { dst := some 53, op := Op.move (Operand.tmp 4), type := 22, pos := "icmpmap.go:129", after := #[], guard := none }) (v := ?_) rfl (by kernel_rfl) (by kernel_rfl) (by kernel_rfl) (fun _ _ _ h => h) (Or.inl ⟨by rfl, ?_⟩) (by assumption) ?_
  rotate_left
  · (intro ww hSw; (try dsimp only at hSw); go_simp; try with_reducible rfl)
  (try simp only [Act.put, List.setIfInBounds_toArray, List.set_cons_zero, List.set_cons_succ])
  refine wpAnyH_take (i := 1) (oi := { dst := some 54, op := Op.build 24 #[(0, Operand.const (Value.int IntKind.i64 4)), (2, Operand.tmp 53)], type := 24, pos := "icmpmap.go:129", after := #[{ on := 0, ground := Ground.data }], guard := none }) (v := ?_) rfl (by kernel_rfl) (by kernel_rfl) (by kernel_rfl) (fun _ _ _ h => h) (Or.inl ⟨by rfl, ?_⟩) (by assumption) ?_
  rotate_left
  · (intro ww hSw; (try dsimp only at hSw); go_simp; try with_reducible rfl)
  (try simp only [Act.put, List.setIfInBounds_toArray, List.set_cons_zero, List.set_cons_succ])
  refine wpAnyH_take (i := 2) (oi := { dst := some 55, op := Op.move (Operand.tmp 5), type := 4, pos := "icmpmap.go:129", after := #[], guard := none }) (v := ?_) rfl (by kernel_rfl) (by kernel_rfl) (by kernel_rfl) (fun _ _ _ h => h) (Or.inl ⟨by rfl, ?_⟩) (by assumption) ?_
  rotate_left
  · (intro ww hSw; (try dsimp only at hSw); go_simp; try with_reducible rfl)
  (try simp only [Act.put, List.setIfInBounds_toArray, List.set_cons_zero, List.set_cons_succ])
  refine wpAnyH_take (i := 3) (oi := { dst := some 56, op := Op.move (Operand.tmp 55), type := 4, pos := "icmpmap.go:129", after := #[{ on := 2, ground := Ground.data }], guard := none }) (v := ?_) rfl (by kernel_rfl) (by kernel_rfl) (by kernel_rfl) (fun _ _ _ h => h) (Or.inl ⟨by rfl, ?_⟩) (by assumption) ?_
  rotate_left
  · (intro ww hSw; (try dsimp only at hSw); go_simp; try with_reducible rfl)
  (try simp only [Act.put, List.setIfInBounds_toArray, List.set_cons_zero, List.set_cons_succ])
  refine wpAnyH_take (i := 4) (oi := { dst := some 57, op := Op.fieldAddr 24 (Operand.tmp 1) 1, type := 0, pos := "icmpmap.go:129", after := #[{ on := 3, ground := Ground.guard }], guard := some (3, true) }) (v := ?_) rfl (by kernel_rfl) (by kernel_rfl) (by kernel_rfl) (fun _ _ _ h => h) (Or.inl ⟨by rfl, ?_⟩) (by assumption) ?_
  rotate_left
  · (intro ww hSw; (try dsimp only at hSw); go_simp; try with_reducible rfl)
  (try simp only [Act.put, List.setIfInBounds_toArray, List.set_cons_zero, List.set_cons_succ])
  refine wpAnyH_take (i := 5) (oi := { dst := some 58, op := Op.load 3 (Operand.tmp 57), type := 3, pos := "icmpmap.go:129", after := #[{ on := 4, ground := Ground.data }, { on := 3, ground := Ground.guard }], guard := some (3, true) }) (v := ?_) rfl (by kernel_rfl) (by kernel_rfl) (by kernel_rfl) (fun _ _ _ h => h) (Or.inl ⟨by rfl, ?_⟩) (by assumption) ?_
  rotate_left
  · (intro ww hSw; (try dsimp only at hSw); go_simp; try with_reducible rfl)
  (try simp only [Act.put, List.setIfInBounds_toArray, List.set_cons_zero, List.set_cons_succ])
  refine wpAnyH_take (i := 6) (oi := { dst := some 59, op := Op.binOp BinOp.eql 3 (Operand.tmp 58) (Operand.const (Value.int IntKind.i64 0)) 3, type := 4, pos := "icmpmap.go:129", after := #[{ on := 5, ground := Ground.data }, { on := 3, ground := Ground.guard }], guard := some (3, true) }) (v := ?_) rfl (by kernel_rfl) (by kernel_rfl) (by kernel_rfl) (fun _ _ _ h => h) (Or.inl ⟨by rfl, ?_⟩) (by assumption) ?_
  rotate_left
  · (intro ww hSw; (try dsimp only at hSw); go_simp; try with_reducible rfl)
  (try simp only [Act.put, List.setIfInBounds_toArray, List.set_cons_zero, List.set_cons_succ])
  refine wpAnyH_take (i := 7) (oi := { dst := some 60, op := Op.move (Operand.tmp 59), type := 4, pos := "icmpmap.go:129", after := #[{ on := 6, ground := Ground.data }, { on := 3, ground := Ground.chain }, { on := 3, ground := Ground.guard }], guard := some (3, true) }) (v := ?_) rfl (by kernel_rfl) (by kernel_rfl) (by kernel_rfl) (fun _ _ _ h => h) (Or.inl ⟨by rfl, ?_⟩) (by assumption) ?_
  rotate_left
  · (intro ww hSw; (try dsimp only at hSw); go_simp; try with_reducible rfl)
  (try simp only [Act.put, List.setIfInBounds_toArray, List.set_cons_zero, List.set_cons_succ])
  refine wpAnyH_take (i := 8) (oi := { dst := some 61, op := Op.fieldAddr 24 (Operand.tmp 1) 1, type := 0, pos := "icmpmap.go:129", after := #[{ on := 7, ground := Ground.guard }, { on := 13, ground := Ground.gcOnly Departure.lateStores }], guard := some (7, false) }) (v := undef) rfl (by kernel_rfl) (by kernel_rfl) (by kernel_rfl) (fun _ _ _ h => h) (Or.inr ⟨by rfl, rfl⟩) (by assumption) ?_
  (try simp only [Act.put, List.setIfInBounds_toArray, List.set_cons_zero, List.set_cons_succ])
  refine wpAnyH_take (i := 9) (oi := { dst := some 62, op := Op.load 3 (Operand.tmp 61), type := 3, pos := "icmpmap.go:129", after := #[{ on := 8, ground := Ground.data }, { on := 7, ground := Ground.guard }, { on := 13, ground := Ground.gcOnly Departure.lateStores }], guard := some (7, false) }) (v := undef) rfl (by kernel_rfl) (by kernel_rfl) (by kernel_rfl) (fun _ _ _ h => h) (Or.inr ⟨by rfl, rfl⟩) (by assumption) ?_
  (try simp only [Act.put, List.setIfInBounds_toArray, List.set_cons_zero, List.set_cons_succ])
  refine wpAnyH_take (i := 10) (oi := { dst := some 63, op := Op.binOp BinOp.eql 3 (Operand.tmp 62) (Operand.const (Value.int IntKind.i64 2)) 3, type := 4, pos := "icmpmap.go:129", after := #[{ on := 9, ground := Ground.data }, { on := 7, ground := Ground.guard }, { on := 13, ground := Ground.gcOnly Departure.lateStores }], guard := some (7, false) }) (v := undef) rfl (by kernel_rfl) (by kernel_rfl) (by kernel_rfl) (fun _ _ _ h => h) (Or.inr ⟨by rfl, rfl⟩) (by assumption) ?_
  (try simp only [Act.put, List.setIfInBounds_toArray, List.set_cons_zero, List.set_cons_succ])
  refine wpAnyH_take (i := 11) (oi := { dst := some 64, op := Op.pick (Operand.tmp 60) (Operand.const (Value.bool true)) (Operand.tmp 63), type := 4, pos := "icmpmap.go:129", after := #[{ on := 7, ground := Ground.data }, { on := 10, ground := Ground.data }, { on := 3, ground := Ground.guard }, { on := 13, ground := Ground.gcOnly Departure.lateStores }], guard := some (3, true) }) (v := ?_) rfl (by kernel_rfl) (by kernel_rfl) (by kernel_rfl) (fun _ _ _ h => h) (Or.inl ⟨by rfl, ?_⟩) (by assumption) ?_
  rotate_left
  · (intro ww hSw; (try dsimp only at hSw); go_simp; try with_reducible rfl)
  (try simp only [Act.put, List.setIfInBounds_toArray, List.set_cons_zero, List.set_cons_succ])
  refine wpAnyH_take (i := 12) (oi := { dst := some 65, op := Op.pick (Operand.tmp 56) (Operand.tmp 64) (Operand.const (Value.bool false)), type := 4, pos := "icmpmap.go:129", after := #[{ on := 3, ground := Ground.data }, { on := 11, ground := Ground.data }, { on := 13, ground := Ground.gcOnly Departure.lateStores }], guard := none }) (v := ?_) rfl (by kernel_rfl) (by kernel_rfl) (by kernel_rfl) (fun _ _ _ h => h) (Or.inl ⟨by rfl, ?_⟩) (by assumption) ?_
  rotate_left
  · (intro ww hSw; (try dsimp only at hSw); go_simp; try with_reducible rfl)
  (try simp only [Act.put, List.setIfInBounds_toArray, List.set_cons_zero, List.set_cons_succ])
  refine wpAnyH_ready (rs := [13]) (by kernel_rfl) (by simp) ?_
  refine AllReadyH.cons (o := { dst := none, op := Op.store 24 (Operand.tmp 2) (Operand.tmp 54), type := 0, pos := "icmpmap.go:129", after := #[{ on := 1, ground := Ground.data }, { on := 7, ground := Ground.chain }, { on := 0, ground := Ground.phase }, { on := 1, ground := Ground.phase }, { on := 2, ground := Ground.textOnly Departure.lateStores }, { on := 3, ground := Ground.textOnly Departure.lateStores }, { on := 4, ground := Ground.textOnly Departure.lateStores }, { on := 5, ground := Ground.textOnly Departure.lateStores }, { on := 6, ground := Ground.textOnly Departure.lateStores }, { on := 7, ground := Ground.textOnly Departure.lateStores }, { on := 8, ground := Ground.textOnly Departure.lateStores }, { on := 9, ground := Ground.textOnly Departure.lateStores }, { on := 10, ground := Ground.textOnly Departure.lateStores }, { on := 11, ground := Ground.textOnly Departure.lateStores }, { on := 12, ground := Ground.textOnly Departure.lateStores }], guard := none }) rfl (fun K hK => ?_) AllReadyH.nil
  rw [if_pos (by rfl)]
  have hne : ∀ x ∈ [(w.heap.size, 24, VM)], x.1 ≠ w.heap.size + 1 := fun x hx => by simp at hx; rw [hx]; omega
  have hS := Bk.sets [.int .i64 4, .int .i64 0, .int .u32 X, .string ⟨#[]⟩] 0 _ _ hkc
  rw [puts_whole V0.toArray [.int .i64 4, .int .i64 0, .int .u32 X, .string ⟨#[]⟩] (by have := HL_V0.out; simp; omega)] at hS
  refine wp_store_mid 24 _ _ rfl (w.heap.size + 1) 0 ([.int .i64 4, .int .i64 0, .int .u32 X, .string ⟨#[]⟩] : List Value).toArray rfl rfl htf (by simpa using HIN.out) (by simp [Value.oneCell']) ?_
  refine hK.out _ _ (HKR.out _ ((And.left hHeld).sets hne (Nat.le_succ _) 0 [.int .i64 4, .int .i64 0, .int .u32 X, .string ⟨#[]⟩])) (fun hHeld => ?_)
  clear hK K
  (try simp only [Act.put])
  refine wpAnyH_take (i := 14) (oi := { dst := some 3, op := Op.assign (Operand.tmp 65), type := 4, pos := "icmpmap.go:129", after := #[{ on := 12, ground := Ground.data }, { on := 13, ground := Ground.chain }, { on := 0, ground := Ground.phase }, { on := 1, ground := Ground.phase }, { on := 2, ground := Ground.phase }, { on := 3, ground := Ground.phase }, { on := 4, ground := Ground.phase }, { on := 5, ground := Ground.phase }, { on := 6, ground := Ground.phase }, { on := 7, ground := Ground.phase }, { on := 8, ground := Ground.phase }, { on := 9, ground := Ground.phase }, { on := 10, ground := Ground.phase }, { on := 11, ground := Ground.phase }, { on := 12, ground := Ground.phase }, { on := 13, ground := Ground.phase }], guard := none }) (v := ?_) rfl (by kernel_rfl) (by kernel_rfl) (by kernel_rfl) (fun _ _ _ h => h) (Or.inl ⟨by rfl, ?_⟩) (by assumption) ?_
  rotate_left
  · (intro ww hSw; (try dsimp only at hSw); go_simp; try with_reducible rfl)
  (try simp only [Act.put, List.setIfInBounds_toArray, List.set_cons_zero, List.set_cons_succ])
  refine wpAnyH_done (by kernel_rfl) ?_ _
  refine NoPanic.normal ?_
  have HSS := Lib.hid hS
  have HB := Lib.hid (And.left hHeld).2.1
  clear hS hHeld
  go_wp2_with fail
  refine bodyPost_ret (v := .tuple #[.agg ([.int .i64 4, .int .i64 0, .int .u32 X, .string ⟨#[]⟩] : List Value).toArray, .bool true]) ?_ rfl ?_
  · exact results_cell2 rfl rfl rfl (run_loadVar_mid _ (w.heap.size + 1) 0 24 [.int .i64 4, .int .i64 0, .int .u32 X, .string ⟨#[]⟩] _ HSS.out.range Tryd.underlying24 rfl HIN.out)
  · rw [HS.out]
    exact ⟨rfl, HB.out⟩
set_option maxRecDepth 100000 in
set_option maxHeartbeats 4000000 in
theorem sd6_p2 (m : Mg) (w : World) (hr : 0 ≤ m.rs ∧ m.rs < 4294967296) (h1 : m.kd = 12) (hp : ¬ ptr6 (m.rs / 16777216) < 0) (h2 : m.cd = 2) : Calls Tryd.prog 18 #[.agg m.vals.toArray] w fun e w' => e = .returned (.tuple #[.agg (said6 m).1.vals.toArray, .bool (said6 m).2]) ∧ Below w.heap.size w w' := by
  have hp2 : 0 ≤ ptr6 (m.rs / 16777216) := by omega
  have HS : Hid (said6 m = (⟨4, 0, (ptr6 (m.rs / 16777216)), ⟨#[]⟩⟩, true)) := Lib.hid (by unfold said6; simp [h1, pp_fst, pp_snd, hp, hp2, h2])
  have CA : Hid (∀ W, Calls Tryd.prog 27 #[.int .u32 (m.rs / 16777216)] W fun e w' => e = .returned (.tuple #[.int .u32 (ptr6 (m.rs / 16777216)), .bool true]) ∧ Below W.heap.size W w') := Lib.hid (fun W => (pt6_any (m.rs / 16777216) W (by omega)).mono (fun e w' ⟨a, b⟩ => ⟨by rw [a, pp_fst, pp_snd, if_neg hp]; simp [hp2], b ▸ Below.refl _ _⟩))
  clear hp2
  generalize ptr6 (m.rs / 16777216) = X at *
  obtain ⟨V0, hV0⟩ : ∃ V, V = mg0.vals := ⟨_, rfl⟩
  have HB0 : Hid (∀ W, (Instr.build 24 #[]).run Tryd.prog W = .ok (.agg V0.toArray) W) := Lib.hid (fun W => by rw [hV0]; exact mgBuild W)
  have HI_V0 : Hid ((Tryd.prog.info? 24).map (·.size) = some V0.length) := Lib.hid (by rw [hV0]; exact Tryd.infoMg _)
  have HO_V0 : Hid (V0.toArray.all (·.oneCell') = true) := Lib.hid (by rw [hV0]; exact mg_one _)
  have HL_V0 : Hid (V0.length = 4) := Lib.hid (by rw [hV0]; rfl)
  have hz0 : V0.toArray = #[.int .i64 0, .int .i64 0, .int .u32 0, .string ⟨#[]⟩] := by rw [hV0]; rfl
  have HV0 := Lib.hid hV0
  clear hV0
  have HI_VM : Hid ((Tryd.prog.info? 24).map (·.size) = some m.vals.length) := Lib.hid (Tryd.infoMg _)
  have HM0 : Hid (m.vals[0]? = some (.int .i64 12)) := Lib.hid (by rw [← h1]; rfl)
  have HM1 : Hid (m.vals[1]? = some (.int .i64 2)) := Lib.hid (by rw [← h2]; rfl)
  have HM2 : Hid (m.vals[2]? = some (.int .u32 m.rs)) := Lib.hid (by exact rfl)
  have HM3 : Hid (m.vals[3]? = some (.string m.da)) := Lib.hid (by exact rfl)
  have HK1 : Hid (Kp w w.heap.size [(w.heap.size + 1, 24, V0), (w.heap.size, 24, m.vals)] ((w.alloc (.cells m.vals.toArray 24)).alloc (.cells V0.toArray 24))) := Lib.hid (by
    have h := (Kp.start w).new 24 m.vals
    have e1 : (w.alloc (.cells m.vals.toArray 24)).heap.size = w.heap.size + 1 := by simp
    have h2 := h.new 24 V0
    rwa [e1] at h2)
  generalize m.vals = VM at *
  generalize hw1 : (w.alloc (.cells VM.toArray 24)).alloc (.cells V0.toArray 24) = w1 at *
  rw [hz0] at hw1
  go_enter Tryd.func18, Tryd.ntmps18
  go_upto_region 1 with (fail)
  clear hw1 hz0
  have c0 : w1.cell? ⟨w.heap.size, 0, none⟩ = some (.int .i64 12) := HK1.out.tl.hd.at HM0.out
  have c2 : w1.cell? ⟨w.heap.size, 2, none⟩ = some (.int .u32 m.rs) := HK1.out.tl.hd.at HM2.out
  go_upto_region 11 with (fail)
  go_wp2_with (fail)
  refine (CA.out _).mono ?_
  rintro e w2 ⟨rfl, bb⟩
  have HK2 := Lib.hid (HK1.out.below bb (Nat.le_refl _))
  clear bb HK1
  go_upto_region 12 with (fail)
  clear c0 c2
  have HIN : Hid ((Tryd.prog.info? 24).map (·.size) = some ([.int .i64 4, .int .i64 0, .int .u32 X, .string ⟨#[]⟩] : List Value).length) := Lib.hid (Tryd.infoMg (⟨4, 0, X, ⟨#[]⟩⟩ : Mg))
  have HKR : Hid (∀ W : World, Kp w w.heap.size [(w.heap.size, 24, VM)] W → (fun W => Kp w w.heap.size [(w.heap.size, 24, VM)] W ∧ W.cell? ⟨w.heap.size, 1, none⟩ = some (.int .i64 2)) W) := Lib.hid (fun W h => ⟨h, h.hd.at HM1.out⟩)
  have hkc := HK2.out.drew.hd
  have htf := hkc.there 4 (by have := HL_V0.out; simp; omega)
  refine wp_region_noPanic ?_
  refine wp_region_held_drew (S := fun W => Kp w w.heap.size [(w.heap.size, 24, VM)] W ∧ W.cell? ⟨w.heap.size, 1, none⟩ = some (.int .i64 2)) (by kernel_rfl) (HKR.out _ HK2.out.tl.drew) (fun hHeld => ?_)
  refine wpAnyH_take (i := 0) (oi := { dst := some 53, op := Op.move (Operand.tmp 4), type := 22, pos := "icmpmap.go:129", after := #[], guard := none }) (v := ?_) rfl (by kernel_rfl) (by kernel_rfl) (by kernel_rfl) (fun _ _ _ h => h) (Or.inl ⟨by rfl, ?_⟩) (by assumption) ?_
  rotate_left
  · (intro ww hSw; (try dsimp only at hSw); go_simp; try with_reducible rfl)
  (try simp only [Act.put, List.setIfInBounds_toArray, List.set_cons_zero, List.set_cons_succ])
  refine wpAnyH_take (i := 1) (oi := { dst := some 54, op := Op.build 24 #[(0, Operand.const (Value.int IntKind.i64 4)), (2, Operand.tmp 53)], type := 24, pos := "icmpmap.go:129", after := #[{ on := 0, ground := Ground.data }], guard := none }) (v := ?_) rfl (by kernel_rfl) (by kernel_rfl) (by kernel_rfl) (fun _ _ _ h => h) (Or.inl ⟨by rfl, ?_⟩) (by assumption) ?_
  rotate_left
  · (intro ww hSw; (try dsimp only at hSw); go_simp; try with_reducible rfl)
  (try simp only [Act.put, List.setIfInBounds_toArray, List.set_cons_zero, List.set_cons_succ])
  refine wpAnyH_take (i := 2) (oi := { dst := some 55, op := Op.move (Operand.tmp 5), type := 4, pos := "icmpmap.go:129", after := #[], guard := none }) (v := ?_) rfl (by kernel_rfl) (by kernel_rfl) (by kernel_rfl) (fun _ _ _ h => h) (Or.inl ⟨by rfl, ?_⟩) (by assumption) ?_
  rotate_left
  · (intro ww hSw; (try dsimp only at hSw); go_simp; try with_reducible rfl)
  (try simp only [Act.put, List.setIfInBounds_toArray, List.set_cons_zero, List.set_cons_succ])
  refine wpAnyH_take (i := 3) (oi := { dst := some 56, op := Op.move (Operand.tmp 55), type := 4, pos := "icmpmap.go:129", after := #[{ on := 2, ground := Ground.data }], guard := none }) (v := ?_) rfl (by kernel_rfl) (by kernel_rfl) (by kernel_rfl) (fun _ _ _ h => h) (Or.inl ⟨by rfl, ?_⟩) (by assumption) ?_
  rotate_left
  · (intro ww hSw; (try dsimp only at hSw); go_simp; try with_reducible rfl)
  (try simp only [Act.put, List.setIfInBounds_toArray, List.set_cons_zero, List.set_cons_succ])
  refine wpAnyH_take (i := 4) (oi := { dst := some 57, op := Op.fieldAddr 24 (Operand.tmp 1) 1, type := 0, pos := "icmpmap.go:129", after := #[{ on := 3, ground := Ground.guard }], guard := some (3, true) }) (v := ?_) rfl (by kernel_rfl) (by kernel_rfl) (by kernel_rfl) (fun _ _ _ h => h) (Or.inl ⟨by rfl, ?_⟩) (by assumption) ?_
  rotate_left
  · (intro ww hSw; (try dsimp only at hSw); go_simp; try with_reducible rfl)
  (try simp only [Act.put, List.setIfInBounds_toArray, List.set_cons_zero, List.set_cons_succ])
  refine wpAnyH_take (i := 5) (oi := { dst := some 58, op := Op.load 3 (Operand.tmp 57), type := 3, pos := "icmpmap.go:129", after := #[{ on := 4, ground := Ground.data }, { on := 3, ground := Ground.guard }], guard := some (3, true) }) (v := ?_) rfl (by kernel_rfl) (by kernel_rfl) (by kernel_rfl) (fun _ _ _ h => h) (Or.inl ⟨by rfl, ?_⟩) (by assumption) ?_
  rotate_left
  · (intro ww hSw; (try dsimp only at hSw); go_simp; try with_reducible rfl)
  (try simp only [Act.put, List.setIfInBounds_toArray, List.set_cons_zero, List.set_cons_succ])
  refine wpAnyH_take (i := 6) (oi := { dst := some 59, op := Op.binOp BinOp.eql 3 (Operand.tmp 58) (Operand.const (Value.int IntKind.i64 0)) 3, type := 4, pos := "icmpmap.go:129", after := #[{ on := 5, ground := Ground.data }, { on := 3, ground := Ground.guard }], guard := some (3, true) }) (v := ?_) rfl (by kernel_rfl) (by kernel_rfl) (by kernel_rfl) (fun _ _ _ h => h) (Or.inl ⟨by rfl, ?_⟩) (by assumption) ?_
  rotate_left
  · (intro ww hSw; (try dsimp only at hSw); go_simp; try with_reducible rfl)
  (try simp only [Act.put, List.setIfInBounds_toArray, List.set_cons_zero, List.set_cons_succ])
  refine wpAnyH_take (i := 7) (oi := { dst := some 60, op := Op.move (Operand.tmp 59), type := 4, pos := "icmpmap.go:129", after := #[{ on := 6, ground := Ground.data }, { on := 3, ground := Ground.chain }, { on := 3, ground := Ground.guard }], guard := some (3, true) }) (v := ?_) rfl (by kernel_rfl) (by kernel_rfl) (by kernel_rfl) (fun _ _ _ h => h) (Or.inl ⟨by rfl, ?_⟩) (by assumption) ?_
  rotate_left
  · (intro ww hSw; (try dsimp only at hSw); go_simp; try with_reducible rfl)
  (try simp only [Act.put, List.setIfInBounds_toArray, List.set_cons_zero, List.set_cons_succ])
  refine wpAnyH_take (i := 8) (oi := { dst := some 61, op := Op.fieldAddr 24 (Operand.tmp 1) 1, type := 0, pos := "icmpmap.go:129", after := #[{ on := 7, ground := Ground.guard }, { on := 13, ground := Ground.gcOnly Departure.lateStores }], guard := some (7, false) }) (v := ?_) rfl (by kernel_rfl) (by kernel_rfl) (by kernel_rfl) (fun _ _ _ h => h) (Or.inl ⟨by rfl, ?_⟩) (by assumption) ?_
  rotate_left
  · (intro ww hSw; (try dsimp only at hSw); go_simp; try with_reducible rfl)
  (try simp only [Act.put, List.setIfInBounds_toArray, List.set_cons_zero, List.set_cons_succ])
  refine wpAnyH_take (i := 9) (oi := { dst := some 62, op := Op.load 3 (Operand.tmp 61), type := 3, pos := "icmpmap.go:129", after := #[{ on := 8, ground := Ground.data }, { on := 7, ground := Ground.guard }, { on := 13, ground := Ground.gcOnly Departure.lateStores }], guard := some (7, false) }) (v := ?_) rfl (by kernel_rfl) (by kernel_rfl) (by kernel_rfl) (fun _ _ _ h => h) (Or.inl ⟨by rfl, ?_⟩) (by assumption) ?_
  rotate_left
  · (intro ww hSw; (try dsimp only at hSw); go_simp; try with_reducible rfl)
  (try simp only [Act.put, List.setIfInBounds_toArray, List.set_cons_zero, List.set_cons_succ])
  refine wpAnyH_take (i := 10) (oi := { dst := some 63, op := Op.binOp BinOp.eql 3 (Operand.tmp 62) (Operand.const (Value.int IntKind.i64 2)) 3, type := 4, pos := "icmpmap.go:129", after := #[{ on := 9, ground := Ground.data }, { on := 7, ground := Ground.guard }, { on := 13, ground := Ground.gcOnly Departure.lateStores }], guard := some (7, false) }) (v := ?_) rfl (by kernel_rfl) (by kernel_rfl) (by kernel_rfl) (fun _ _ _ h => h) (Or.inl ⟨by rfl, ?_⟩) (by assumption) ?_
  rotate_left
  · (intro ww hSw; (try dsimp only at hSw); go_simp; try with_reducible rfl)
  (try simp only [Act.put, List.setIfInBounds_toArray, List.set_cons_zero, List.set_cons_succ])
  refine wpAnyH_take (i := 11) (oi := { dst := some 64, op := Op.pick (Operand.tmp 60) (Operand.const (Value.bool true)) (Operand.tmp 63), type := 4, pos := "icmpmap.go:129", after := #[{ on := 7, ground := Ground.data }, { on := 10, ground := Ground.data }, { on := 3, ground := Ground.guard }, { on := 13, ground := Ground.gcOnly Departure.lateStores }], guard := some (3, true) }) (v := ?_) rfl (by kernel_rfl) (by kernel_rfl) (by kernel_rfl) (fun _ _ _ h => h) (Or.inl ⟨by rfl, ?_⟩) (by assumption) ?_
  rotate_left
  · (intro ww hSw; (try dsimp only at hSw); go_simp; try with_reducible rfl)
  (try simp only [Act.put, List.setIfInBounds_toArray, List.set_cons_zero, List.set_cons_succ])
  refine wpAnyH_take (i := 12) (oi := { dst := some 65, op := Op.pick (Operand.tmp 56) (Operand.tmp 64) (Operand.const (Value.bool false)), type := 4, pos := "icmpmap.go:129", after := #[{ on := 3, ground := Ground.data }, { on := 11, ground := Ground.data }, { on := 13, ground := Ground.gcOnly Departure.lateStores }], guard := none }) (v := ?_) rfl (by kernel_rfl) (by kernel_rfl) (by kernel_rfl) (fun _ _ _ h => h) (Or.inl ⟨by rfl, ?_⟩) (by assumption) ?_
  rotate_left
  · (intro ww hSw; (try dsimp only at hSw); go_simp; try with_reducible rfl)
  (try simp only [Act.put, List.setIfInBounds_toArray, List.set_cons_zero, List.set_cons_succ])
  refine wpAnyH_ready (rs := [13]) (by kernel_rfl) (by simp) ?_
  refine AllReadyH.cons (o := { dst := none, op := Op.store 24 (Operand.tmp 2) (Operand.tmp 54), type := 0, pos := "icmpmap.go:129", after := #[{ on := 1, ground := Ground.data }, { on := 7, ground := Ground.chain }, { on := 0, ground := Ground.phase }, { on := 1, ground := Ground.phase }, { on := 2, ground := Ground.textOnly Departure.lateStores }, { on := 3, ground := Ground.textOnly Departure.lateStores }, { on := 4, ground := Ground.textOnly Departure.lateStores }, { on := 5, ground := Ground.textOnly Departure.lateStores }, { on := 6, ground := Ground.textOnly Departure.lateStores }, { on := 7, ground := Ground.textOnly Departure.lateStores }, { on := 8, ground := Ground.textOnly Departure.lateStores }, { on := 9, ground := Ground.textOnly Departure.lateStores }, { on := 10, ground := Ground.textOnly Departure.lateStores }, { on := 11, ground := Ground.textOnly Departure.lateStores }, { on := 12, ground := Ground.textOnly Departure.lateStores }], guard := none }) rfl (fun K hK => ?_) AllReadyH.nil
  rw [if_pos (by rfl)]
  have hne : ∀ x ∈ [(w.heap.size, 24, VM)], x.1 ≠ w.heap.size + 1 := fun x hx => by simp at hx; rw [hx]; omega
  have hS := Bk.sets [.int .i64 4, .int .i64 0, .int .u32 X, .string ⟨#[]⟩] 0 _ _ hkc
  rw [puts_whole V0.toArray [.int .i64 4, .int .i64 0, .int .u32 X, .string ⟨#[]⟩] (by have := HL_V0.out; simp; omega)] at hS
  refine wp_store_mid 24 _ _ rfl (w.heap.size + 1) 0 ([.int .i64 4, .int .i64 0, .int .u32 X, .string ⟨#[]⟩] : List Value).toArray rfl rfl htf (by simpa using HIN.out) (by simp [Value.oneCell']) ?_
  refine hK.out _ _ (HKR.out _ ((And.left hHeld).sets hne (Nat.le_succ _) 0 [.int .i64 4, .int .i64 0, .int .u32 X, .string ⟨#[]⟩])) (fun hHeld => ?_)
  clear hK K
  (try simp only [Act.put])
  refine wpAnyH_take (i := 14) (oi := { dst := some 3, op := Op.assign (Operand.tmp 65), type := 4, pos := "icmpmap.go:129", after := #[{ on := 12, ground := Ground.data }, { on := 13, ground := Ground.chain }, { on := 0, ground := Ground.phase }, { on := 1, ground := Ground.phase }, { on := 2, ground := Ground.phase }, { on := 3, ground := Ground.phase }, { on := 4, ground := Ground.phase }, { on := 5, ground := Ground.phase }, { on := 6, ground := Ground.phase }, { on := 7, ground := Ground.phase }, { on := 8, ground := Ground.phase }, { on := 9, ground := Ground.phase }, { on := 10, ground := Ground.phase }, { on := 11, ground := Ground.phase }, { on := 12, ground := Ground.phase }, { on := 13, ground := Ground.phase }], guard := none }) (v := ?_) rfl (by kernel_rfl) (by kernel_rfl) (by kernel_rfl) (fun _ _ _ h => h) (Or.inl ⟨by rfl, ?_⟩) (by assumption) ?_
  rotate_left
  · (intro ww hSw; (try dsimp only at hSw); go_simp; try with_reducible rfl)
  (try simp only [Act.put, List.setIfInBounds_toArray, List.set_cons_zero, List.set_cons_succ])
  refine wpAnyH_done (by kernel_rfl) ?_ _
  refine NoPanic.normal ?_
  have HSS := Lib.hid hS
  have HB := Lib.hid (And.left hHeld).2.1
  clear hS hHeld
  go_wp2_with fail
  refine bodyPost_ret (v := .tuple #[.agg ([.int .i64 4, .int .i64 0, .int .u32 X, .string ⟨#[]⟩] : List Value).toArray, .bool true]) ?_ rfl ?_
  · exact results_cell2 rfl rfl rfl (run_loadVar_mid _ (w.heap.size + 1) 0 24 [.int .i64 4, .int .i64 0, .int .u32 X, .string ⟨#[]⟩] _ HSS.out.range Tryd.underlying24 rfl HIN.out)
  · rw [HS.out]
    exact ⟨rfl, HB.out⟩
set_option maxRecDepth 100000 in
set_option maxHeartbeats 4000000 in
theorem sd6_pn (m : Mg) (w : World) (hr : 0 ≤ m.rs ∧ m.rs < 4294967296) (h1 : m.kd = 12) (hp : ¬ ptr6 (m.rs / 16777216) < 0) (g0 : m.cd ≠ 0) (g2 : m.cd ≠ 2) : Calls Tryd.prog 18 #[.agg m.vals.toArray] w fun e w' => e = .returned (.tuple #[.agg (said6 m).1.vals.toArray, .bool (said6 m).2]) ∧ Below w.heap.size w w' := by
  have hp2 : 0 ≤ ptr6 (m.rs / 16777216) := by omega
  have HS : Hid (said6 m = (⟨4, 0, (ptr6 (m.rs / 16777216)), ⟨#[]⟩⟩, false)) := Lib.hid (by unfold said6; simp [h1, pp_fst, pp_snd, hp, hp2, g0, g2])
  have CA : Hid (∀ W, Calls Tryd.prog 27 #[.int .u32 (m.rs / 16777216)] W fun e w' => e = .returned (.tuple #[.int .u32 (ptr6 (m.rs / 16777216)), .bool true]) ∧ Below W.heap.size W w') := Lib.hid (fun W => (pt6_any (m.rs / 16777216) W (by omega)).mono (fun e w' ⟨a, b⟩ => ⟨by rw [a, pp_fst, pp_snd, if_neg hp]; simp [hp2], b ▸ Below.refl _ _⟩))
  clear hp2
  have e0 : (m.cd == 0) = false := by rw [beq_eq_false_iff_ne]; exact g0
  have e2 : (m.cd == 2) = false := by rw [beq_eq_false_iff_ne]; exact g2
  generalize ptr6 (m.rs / 16777216) = X at *
  obtain ⟨V0, hV0⟩ : ∃ V, V = mg0.vals := ⟨_, rfl⟩
  have HB0 : Hid (∀ W, (Instr.build 24 #[]).run Tryd.prog W = .ok (.agg V0.toArray) W) := Lib.hid (fun W => by rw [hV0]; exact mgBuild W)
  have HI_V0 : Hid ((Tryd.prog.info? 24).map (·.size) = some V0.length) := Lib.hid (by rw [hV0]; exact Tryd.infoMg _)
  have HO_V0 : Hid (V0.toArray.all (·.oneCell') = true) := Lib.hid (by rw [hV0]; exact mg_one _)
  have HL_V0 : Hid (V0.length = 4) := Lib.hid (by rw [hV0]; rfl)
  have hz0 : V0.toArray = #[.int .i64 0, .int .i64 0, .int .u32 0, .string ⟨#[]⟩] := by rw [hV0]; rfl
  have HV0 := Lib.hid hV0
  clear hV0
  have HI_VM : Hid ((Tryd.prog.info? 24).map (·.size) = some m.vals.length) := Lib.hid (Tryd.infoMg _)
  have HM0 : Hid (m.vals[0]? = some (.int .i64 12)) := Lib.hid (by rw [← h1]; rfl)
  have HM1 : Hid (m.vals[1]? = some (.int .i64 m.cd)) := Lib.hid (by exact rfl)
  have HM2 : Hid (m.vals[2]? = some (.int .u32 m.rs)) := Lib.hid (by exact rfl)
  have HM3 : Hid (m.vals[3]? = some (.string m.da)) := Lib.hid (by exact rfl)
  have HK1 : Hid (Kp w w.heap.size [(w.heap.size + 1, 24, V0), (w.heap.size, 24, m.vals)] ((w.alloc (.cells m.vals.toArray 24)).alloc (.cells V0.toArray 24))) := Lib.hid (by
    have h := (Kp.start w).new 24 m.vals
    have e1 : (w.alloc (.cells m.vals.toArray 24)).heap.size = w.heap.size + 1 := by simp
    have h2 := h.new 24 V0
    rwa [e1] at h2)
  generalize m.vals = VM at *
  generalize hw1 : (w.alloc (.cells VM.toArray 24)).alloc (.cells V0.toArray 24) = w1 at *
  rw [hz0] at hw1
  go_enter Tryd.func18, Tryd.ntmps18
  go_upto_region 1 with (fail)
  clear hw1 hz0
  have c0 : w1.cell? ⟨w.heap.size, 0, none⟩ = some (.int .i64 12) := HK1.out.tl.hd.at HM0.out
  have c2 : w1.cell? ⟨w.heap.size, 2, none⟩ = some (.int .u32 m.rs) := HK1.out.tl.hd.at HM2.out
  go_upto_region 11 with (fail)
  go_wp2_with (fail)
  refine (CA.out _).mono ?_
  rintro e w2 ⟨rfl, bb⟩
  have HK2 := Lib.hid (HK1.out.below bb (Nat.le_refl _))
  clear bb HK1
  go_upto_region 12 with (fail)
  clear c0 c2
  have HIN : Hid ((Tryd.prog.info? 24).map (·.size) = some ([.int .i64 4, .int .i64 0, .int .u32 X, .string ⟨#[]⟩] : List Value).length) := Lib.hid (Tryd.infoMg (⟨4, 0, X, ⟨#[]⟩⟩ : Mg))
  have HKR : Hid (∀ W : World, Kp w w.heap.size [(w.heap.size, 24, VM)] W → (fun W => Kp w w.heap.size [(w.heap.size, 24, VM)] W ∧ W.cell? ⟨w.heap.size, 1, none⟩ = some (.int .i64 m.cd)) W) := Lib.hid (fun W h => ⟨h, h.hd.at HM1.out⟩)
  have hkc := HK2.out.drew.hd
  have htf := hkc.there 4 (by have := HL_V0.out; simp; omega)
  refine wp_region_noPanic ?_
  refine wp_region_held_drew (S := fun W => Kp w w.heap.size [(w.heap.size, 24, VM)] W ∧ W.cell? ⟨w.heap.size, 1, none⟩ = some (.int .i64 m.cd)) (by kernel_rfl) (HKR.out _ HK2.out.tl.drew) (fun hHeld => ?_)
  refine wpAnyH_take (i := 0) (oi := { dst := some 53, op := Op.move (Operand.tmp 4), type := 22, pos := "icmpmap.go:129", after := #[], guard := none }) (v := ?_) rfl (by kernel_rfl) (by kernel_rfl) (by kernel_rfl) (fun _ _ _ h => h) (Or.inl ⟨by rfl, ?_⟩) (by assumption) ?_
  rotate_left
  · (intro ww hSw; (try dsimp only at hSw); go_simp; try with_reducible rfl)
  (try simp only [Act.put, List.setIfInBounds_toArray, List.set_cons_zero, List.set_cons_succ])
  refine wpAnyH_take (i := 1) (oi := { dst := some 54, op := Op.build 24 #[(0, Operand.const (Value.int IntKind.i64 4)), (2, Operand.tmp 53)], type := 24, pos := "icmpmap.go:129", after := #[{ on := 0, ground := Ground.data }], guard := none }) (v := ?_) rfl (by kernel_rfl) (by kernel_rfl) (by kernel_rfl) (fun _ _ _ h => h) (Or.inl ⟨by rfl, ?_⟩) (by assumption) ?_
  rotate_left
  · (intro ww hSw; (try dsimp only at hSw); go_simp; try with_reducible rfl)
  (try simp only [Act.put, List.setIfInBounds_toArray, List.set_cons_zero, List.set_cons_succ])
  refine wpAnyH_take (i := 2) (oi := { dst := some 55, op := Op.move (Operand.tmp 5), type := 4, pos := "icmpmap.go:129", after := #[], guard := none }) (v := ?_) rfl (by kernel_rfl) (by kernel_rfl) (by kernel_rfl) (fun _ _ _ h => h) (Or.inl ⟨by rfl, ?_⟩) (by assumption) ?_
  rotate_left
  · (intro ww hSw; (try dsimp only at hSw); go_simp; try with_reducible rfl)
  (try simp only [Act.put, List.setIfInBounds_toArray, List.set_cons_zero, List.set_cons_succ])
  refine wpAnyH_take (i := 3) (oi := { dst := some 56, op := Op.move (Operand.tmp 55), type := 4, pos := "icmpmap.go:129", after := #[{ on := 2, ground := Ground.data }], guard := none }) (v := ?_) rfl (by kernel_rfl) (by kernel_rfl) (by kernel_rfl) (fun _ _ _ h => h) (Or.inl ⟨by rfl, ?_⟩) (by assumption) ?_
  rotate_left
  · (intro ww hSw; (try dsimp only at hSw); go_simp; try with_reducible rfl)
  (try simp only [Act.put, List.setIfInBounds_toArray, List.set_cons_zero, List.set_cons_succ])
  refine wpAnyH_take (i := 4) (oi := { dst := some 57, op := Op.fieldAddr 24 (Operand.tmp 1) 1, type := 0, pos := "icmpmap.go:129", after := #[{ on := 3, ground := Ground.guard }], guard := some (3, true) }) (v := ?_) rfl (by kernel_rfl) (by kernel_rfl) (by kernel_rfl) (fun _ _ _ h => h) (Or.inl ⟨by rfl, ?_⟩) (by assumption) ?_
  rotate_left
  · (intro ww hSw; (try dsimp only at hSw); go_simp; try with_reducible rfl)
  (try simp only [Act.put, List.setIfInBounds_toArray, List.set_cons_zero, List.set_cons_succ])
  refine wpAnyH_take (i := 5) (oi := { dst := some 58, op := Op.load 3 (Operand.tmp 57), type := 3, pos := "icmpmap.go:129", after := #[{ on := 4, ground := Ground.data }, { on := 3, ground := Ground.guard }], guard := some (3, true) }) (v := ?_) rfl (by kernel_rfl) (by kernel_rfl) (by kernel_rfl) (fun _ _ _ h => h) (Or.inl ⟨by rfl, ?_⟩) (by assumption) ?_
  rotate_left
  · (intro ww hSw; (try dsimp only at hSw); go_simp; try with_reducible rfl)
  (try simp only [Act.put, List.setIfInBounds_toArray, List.set_cons_zero, List.set_cons_succ])
  refine wpAnyH_take (i := 6) (oi := { dst := some 59, op := Op.binOp BinOp.eql 3 (Operand.tmp 58) (Operand.const (Value.int IntKind.i64 0)) 3, type := 4, pos := "icmpmap.go:129", after := #[{ on := 5, ground := Ground.data }, { on := 3, ground := Ground.guard }], guard := some (3, true) }) (v := ?_) rfl (by kernel_rfl) (by kernel_rfl) (by kernel_rfl) (fun _ _ _ h => h) (Or.inl ⟨by rfl, ?_⟩) (by assumption) ?_
  rotate_left
  · (intro ww hSw; (try dsimp only at hSw); go_simp; try with_reducible rfl)
  (try simp only [Act.put, List.setIfInBounds_toArray, List.set_cons_zero, List.set_cons_succ])
  refine wpAnyH_take (i := 7) (oi := { dst := some 60, op := Op.move (Operand.tmp 59), type := 4, pos := "icmpmap.go:129", after := #[{ on := 6, ground := Ground.data }, { on := 3, ground := Ground.chain }, { on := 3, ground := Ground.guard }], guard := some (3, true) }) (v := ?_) rfl (by kernel_rfl) (by kernel_rfl) (by kernel_rfl) (fun _ _ _ h => h) (Or.inl ⟨by rfl, ?_⟩) (by assumption) ?_
  rotate_left
  · (intro ww hSw; (try dsimp only at hSw); go_simp; try with_reducible rfl)
  (try simp only [Act.put, List.setIfInBounds_toArray, List.set_cons_zero, List.set_cons_succ])
  refine wpAnyH_take (i := 8) (oi := { dst := some 61, op := Op.fieldAddr 24 (Operand.tmp 1) 1, type := 0, pos := "icmpmap.go:129", after := #[{ on := 7, ground := Ground.guard }, { on := 13, ground := Ground.gcOnly Departure.lateStores }], guard := some (7, false) }) (v := ?_) rfl (by kernel_rfl) (by kernel_rfl) (by kernel_rfl) (fun _ _ _ h => h) (Or.inl ⟨by rfl, ?_⟩) (by assumption) ?_
  rotate_left
  · (intro ww hSw; (try dsimp only at hSw); go_simp; try with_reducible rfl)
  (try simp only [Act.put, List.setIfInBounds_toArray, List.set_cons_zero, List.set_cons_succ])
  refine wpAnyH_take (i := 9) (oi := { dst := some 62, op := Op.load 3 (Operand.tmp 61), type := 3, pos := "icmpmap.go:129", after := #[{ on := 8, ground := Ground.data }, { on := 7, ground := Ground.guard }, { on := 13, ground := Ground.gcOnly Departure.lateStores }], guard := some (7, false) }) (v := ?_) rfl (by kernel_rfl) (by kernel_rfl) (by kernel_rfl) (fun _ _ _ h => h) (Or.inl ⟨by rfl, ?_⟩) (by assumption) ?_
  rotate_left
  · (intro ww hSw; (try dsimp only at hSw); go_simp; try with_reducible rfl)
  (try simp only [Act.put, List.setIfInBounds_toArray, List.set_cons_zero, List.set_cons_succ])
  refine wpAnyH_take (i := 10) (oi := { dst := some 63, op := Op.binOp BinOp.eql 3 (Operand.tmp 62) (Operand.const (Value.int IntKind.i64 2)) 3, type := 4, pos := "icmpmap.go:129", after := #[{ on := 9, ground := Ground.data }, { on := 7, ground := Ground.guard }, { on := 13, ground := Ground.gcOnly Departure.lateStores }], guard := some (7, false) }) (v := ?_) rfl (by kernel_rfl) (by kernel_rfl) (by kernel_rfl) (fun _ _ _ h => h) (Or.inl ⟨by rfl, ?_⟩) (by assumption) ?_
  rotate_left
  · (intro ww hSw; (try dsimp only at hSw); go_simp; try with_reducible rfl)
  (try simp only [Act.put, List.setIfInBounds_toArray, List.set_cons_zero, List.set_cons_succ])
  refine wpAnyH_take (i := 11) (oi := { dst := some 64, op := Op.pick (Operand.tmp 60) (Operand.const (Value.bool true)) (Operand.tmp 63), type := 4, pos := "icmpmap.go:129", after := #[{ on := 7, ground := Ground.data }, { on := 10, ground := Ground.data }, { on := 3, ground := Ground.guard }, { on := 13, ground := Ground.gcOnly Departure.lateStores }], guard := some (3, true) }) (v := ?_) rfl (by kernel_rfl) (by kernel_rfl) (by kernel_rfl) (fun _ _ _ h => h) (Or.inl ⟨by rfl, ?_⟩) (by assumption) ?_
  rotate_left
  · (intro ww hSw; (try dsimp only at hSw); go_simp; try with_reducible rfl)
  (try simp only [Act.put, List.setIfInBounds_toArray, List.set_cons_zero, List.set_cons_succ])
  refine wpAnyH_take (i := 12) (oi := { dst := some 65, op := Op.pick (Operand.tmp 56) (Operand.tmp 64) (Operand.const (Value.bool false)), type := 4, pos := "icmpmap.go:129", after := #[{ on := 3, ground := Ground.data }, { on := 11, ground := Ground.data }, { on := 13, ground := Ground.gcOnly Departure.lateStores }], guard := none }) (v := ?_) rfl (by kernel_rfl) (by kernel_rfl) (by kernel_rfl) (fun _ _ _ h => h) (Or.inl ⟨by rfl, ?_⟩) (by assumption) ?_
  rotate_left
  · (intro ww hSw; (try dsimp only at hSw); go_simp; try with_reducible rfl)
  (try simp only [Act.put, List.setIfInBounds_toArray, List.set_cons_zero, List.set_cons_succ])
  refine wpAnyH_ready (rs := [13]) (by kernel_rfl) (by simp) ?_
  refine AllReadyH.cons (o := { dst := none, op := Op.store 24 (Operand.tmp 2) (Operand.tmp 54), type := 0, pos := "icmpmap.go:129", after := #[{ on := 1, ground := Ground.data }, { on := 7, ground := Ground.chain }, { on := 0, ground := Ground.phase }, { on := 1, ground := Ground.phase }, { on := 2, ground := Ground.textOnly Departure.lateStores }, { on := 3, ground := Ground.textOnly Departure.lateStores }, { on := 4, ground := Ground.textOnly Departure.lateStores }, { on := 5, ground := Ground.textOnly Departure.lateStores }, { on := 6, ground := Ground.textOnly Departure.lateStores }, { on := 7, ground := Ground.textOnly Departure.lateStores }, { on := 8, ground := Ground.textOnly Departure.lateStores }, { on := 9, ground := Ground.textOnly Departure.lateStores }, { on := 10, ground := Ground.textOnly Departure.lateStores }, { on := 11, ground := Ground.textOnly Departure.lateStores }, { on := 12, ground := Ground.textOnly Departure.lateStores }], guard := none }) rfl (fun K hK => ?_) AllReadyH.nil
  rw [if_pos (by rfl)]
  have hne : ∀ x ∈ [(w.heap.size, 24, VM)], x.1 ≠ w.heap.size + 1 := fun x hx => by simp at hx; rw [hx]; omega
  have hS := Bk.sets [.int .i64 4, .int .i64 0, .int .u32 X, .string ⟨#[]⟩] 0 _ _ hkc
  rw [puts_whole V0.toArray [.int .i64 4, .int .i64 0, .int .u32 X, .string ⟨#[]⟩] (by have := HL_V0.out; simp; omega)] at hS
  refine wp_store_mid 24 _ _ rfl (w.heap.size + 1) 0 ([.int .i64 4, .int .i64 0, .int .u32 X, .string ⟨#[]⟩] : List Value).toArray rfl rfl htf (by simpa using HIN.out) (by simp [Value.oneCell']) ?_
  refine hK.out _ _ (HKR.out _ ((And.left hHeld).sets hne (Nat.le_succ _) 0 [.int .i64 4, .int .i64 0, .int .u32 X, .string ⟨#[]⟩])) (fun hHeld => ?_)
  clear hK K
  (try simp only [Act.put])
  refine wpAnyH_take (i := 14) (oi := { dst := some 3, op := Op.assign (Operand.tmp 65), type := 4, pos := "icmpmap.go:129", after := #[{ on := 12, ground := Ground.data }, { on := 13, ground := Ground.chain }, { on := 0, ground := Ground.phase }, { on := 1, ground := Ground.phase }, { on := 2, ground := Ground.phase }, { on := 3, ground := Ground.phase }, { on := 4, ground := Ground.phase }, { on := 5, ground := Ground.phase }, { on := 6, ground := Ground.phase }, { on := 7, ground := Ground.phase }, { on := 8, ground := Ground.phase }, { on := 9, ground := Ground.phase }, { on := 10, ground := Ground.phase }, { on := 11, ground := Ground.phase }, { on := 12, ground := Ground.phase }, { on := 13, ground := Ground.phase }], guard := none }) (v := ?_) rfl (by kernel_rfl) (by kernel_rfl) (by kernel_rfl) (fun _ _ _ h => h) (Or.inl ⟨by rfl, ?_⟩) (by assumption) ?_
  rotate_left
  · (intro ww hSw; (try dsimp only at hSw); go_simp; try with_reducible rfl)
  (try simp only [Act.put, List.setIfInBounds_toArray, List.set_cons_zero, List.set_cons_succ])
  refine wpAnyH_done (by kernel_rfl) ?_ _
  refine NoPanic.normal ?_
  have HSS := Lib.hid hS
  have HB := Lib.hid (And.left hHeld).2.1
  clear hS hHeld
  go_wp2_with fail
  refine bodyPost_ret (v := .tuple #[.agg ([.int .i64 4, .int .i64 0, .int .u32 X, .string ⟨#[]⟩] : List Value).toArray, .bool false]) ?_ rfl ?_
  · exact results_cell2 rfl rfl rfl (run_loadVar_mid _ (w.heap.size + 1) 0 24 [.int .i64 4, .int .i64 0, .int .u32 X, .string ⟨#[]⟩] _ HSS.out.range Tryd.underlying24 rfl HIN.out)
  · rw [HS.out]
    exact ⟨rfl, HB.out⟩
end Go.Proofs.YtnehabpdpkjaeaaDoor
