/-
  Proved here: what the document's To6 answers off its table.
  Conditions: none.
-/
import Derived.Test.YtnehabpdpkjaeaaDoorR6b
import Derived.Test.YtnehabpdpkjaeaaDoorRl
namespace Go.Proofs.YtnehabpdpkjaeaaDoor
open Go.RowKit

theorem ln6_mem {r : Int} {kd cd : Int} {x : Ln} (h : findL (ln6 r) kd cd = some x) : x.2.2.2.2 = r ∨ x.2.2.2.2 = 0 ∨ x.2.2.2.2 = 6 := by
  obtain ⟨hm, _⟩ := findL_mem h
  unfold ln6 at hm
  simp only [List.mem_cons, List.not_mem_nil, or_false] at hm
  rcases hm with rfl | rfl | rfl | rfl | rfl | rfl | rfl | rfl | rfl | rfl | rfl | rfl | rfl | rfl | rfl | rfl | rfl | rfl
  all_goals first | exact .inl rfl | exact .inr (.inl rfl) | exact .inr (.inr rfl)
set_option maxRecDepth 100000 in
set_option maxHeartbeats 4000000 in
theorem rsix_tabA_none (m : Mg) (a b len : Int) (w : World) (hr : 0 ≤ m.rs ∧ m.rs < 4294967296) (hb : mtus a b = true) (g1 : m.kd ≠ 3) (g2 : m.kd ≠ 12) (hf : findL (ln6 m.rs) m.kd m.cd = none) : Calls Tryd.prog 15 #[.agg m.vals.toArray, .int .i64 a, .int .i64 b, .int .i64 len] w (fun e w' => e = .returned (.tuple #[.agg (six m a b len).1.vals.toArray, .bool (six m a b len).2]) ∧ Below w.heap.size w w') := by
  have HS : Hid (six m a b len = (mg0, false)) := Lib.hid (by unfold six; rw [hb, if_neg (by simp), if_neg (by omega), if_neg (by omega), hf]; rfl)
  have HBn : Hid (∀ W, Calls Tryd.prog 23 #[.int .i64 a, .int .i64 b] W fun e w' => e = .returned (.bool true) ∧ W = w') := Lib.hid (fun W => by rw [← hb]; exact rbounds_any a b W)
  clear hb
  obtain ⟨VF, hVF⟩ : ∃ V, V = lnv ln0 := ⟨_, rfl⟩
  have CF : Hid (∀ (W : World) (v : Value), Lns W v (ln6 m.rs) → Calls Tryd.prog 24 #[v, .agg m.vals.toArray] W fun e w' => e = .returned (.tuple #[.agg VF.toArray, .bool false]) ∧ Below W.heap.size W w') := Lib.hid (fun W v hx => by
    have h := rfind_any v (ln6 m.rs) m W hx (by show 18 ≤ 1000; omega)
    rw [hf] at h
    rw [hVF]
    exact h)
  have HI_VF : Hid ((Tryd.prog.info? 42).map (·.size) = some VF.length) := Lib.hid (by rw [hVF]; exact Tryd.sizeLn _)
  have HO_VF : Hid (VF.toArray.all (·.oneCell') = true) := Lib.hid (by rw [hVF]; exact lnv_one _)
  have HL_VF : Hid (VF.length = 5) := Lib.hid (by rw [hVF]; rfl)
  clear hVF hf
  have k3 : (m.kd == 3) = false := by rw [beq_eq_false_iff_ne]; exact g1
  have k12 : (m.kd == 12) = false := by rw [beq_eq_false_iff_ne]; exact g2
  have kid : IntKind.i64.wrap m.rs = m.rs := IntWalk.i64_in _ (by omega)
  obtain ⟨V0, hV0⟩ : ∃ V, V = mg0.vals := ⟨_, rfl⟩
  have HB0 : Hid (∀ W, (Instr.build 24 #[]).run Tryd.prog W = .ok (.agg V0.toArray) W) := Lib.hid (fun W => by rw [hV0]; exact mgBuild W)
  have HI_V0 : Hid ((Tryd.prog.info? 24).map (·.size) = some V0.length) := Lib.hid (by rw [hV0]; exact Tryd.infoMg _)
  have HO_V0 : Hid (V0.toArray.all (·.oneCell') = true) := Lib.hid (by rw [hV0]; exact mg_one _)
  have HL_V0 : Hid (V0.length = 4) := Lib.hid (by rw [hV0]; rfl)
  have hz0 : V0.toArray = #[.int .i64 0, .int .i64 0, .int .u32 0, .string ⟨#[]⟩] := by rw [hV0]; rfl
  have HV0 := Lib.hid hV0
  clear hV0
  have HI_VM : Hid ((Tryd.prog.info? 24).map (·.size) = some m.vals.length) := Lib.hid (Tryd.infoMg _)
  have HM0 : Hid (m.vals[0]? = some (.int .i64 m.kd)) := Lib.hid (by exact rfl)
  have HM1 : Hid (m.vals[1]? = some (.int .i64 m.cd)) := Lib.hid (by exact rfl)
  have HM2 : Hid (m.vals[2]? = some (.int .u32 m.rs)) := Lib.hid (by exact rfl)
  have HM3 : Hid (m.vals[3]? = some (.string m.da)) := Lib.hid (by exact rfl)
  have HK1 : Hid (Kp w w.heap.size [(w.heap.size + 1, 24, V0), (w.heap.size, 24, m.vals)] ((w.alloc (.cells m.vals.toArray 24)).alloc (.cells V0.toArray 24))) := Lib.hid (by
    have h := (Kp.start w).new 24 m.vals
    have e1 : (w.alloc (.cells m.vals.toArray 24)).heap.size = w.heap.size + 1 := by simp
    have h2 := h.new 24 V0
    rwa [e1] at h2)
  generalize m.vals = VM at *
  generalize hw1 : (w.alloc (.cells VM.toArray 24)).alloc (.cells V0.toArray 24) = w1 at *
  rw [hz0] at hw1
  go_enter Tryd.func15, Tryd.ntmps15
  go_upto_region 1 with (fail)
  clear hw1 hz0
  go_wp2_with (fail)
  refine (HBn.out _).mono ?_
  rintro e w99 ⟨rfl, rfl⟩
  have c0 : w1.cell? ⟨w.heap.size, 0, none⟩ = some (.int .i64 m.kd) := HK1.out.tl.hd.at HM0.out
  have c1 : w1.cell? ⟨w.heap.size, 1, none⟩ = some (.int .i64 m.cd) := HK1.out.tl.hd.at HM1.out
  go_upto_region 21 with (fail)
  clear c0 c1
  have HKR : Hid (∀ W : World, Kp w w.heap.size [(w.heap.size + 1, 24, V0), (w.heap.size, 24, VM)] W → (fun w' => (Kp w w.heap.size [(w.heap.size + 1, 24, V0), (w.heap.size, 24, VM)] w' ∧ w'.rangeAt (w.heap.size) 0 VM) ∧ w'.cell? ⟨w.heap.size, 2, none⟩ = some (.int .u32 m.rs)) W) := Lib.hid (fun W h => ⟨⟨h, h.tl.hd.range⟩, h.tl.hd.at HM2.out⟩)
  refine wp_region_noPanic ?_
  refine wp_region_held_drew (S := fun w' => (Kp w w.heap.size [(w.heap.size + 1, 24, V0), (w.heap.size, 24, VM)] w' ∧ w'.rangeAt (w.heap.size) 0 VM) ∧ w'.cell? ⟨w.heap.size, 2, none⟩ = some (.int .u32 m.rs)) (by kernel_rfl) (HKR.out _ HK1.out.drew) (fun hHeld => ?_)
  refine wpAnyH_take (i := 0) (oi := { dst := some 95, op := Op.fieldAddr 24 (Operand.tmp 4) 2, type := 0, pos := "ref.go:83", after := #[], guard := none }) (v := ?_) rfl (by kernel_rfl) (by kernel_rfl) (by kernel_rfl) (fun _ _ _ h => h) (Or.inl ⟨by rfl, ?_⟩) (by assumption) ?_
  rotate_left
  · (intro ww hSw; (try dsimp only at hSw); go_simp; try with_reducible rfl)
  (try simp only [Act.put, List.setIfInBounds_toArray, List.set_cons_zero, List.set_cons_succ])
  refine wpAnyH_take (i := 1) (oi := { dst := some 96, op := Op.load 22 (Operand.tmp 95), type := 22, pos := "ref.go:83", after := #[{ on := 0, ground := Ground.data }], guard := none }) (v := ?_) rfl (by kernel_rfl) (by kernel_rfl) (by kernel_rfl) (fun _ _ _ h => h) (Or.inl ⟨by rfl, ?_⟩) (by assumption) ?_
  rotate_left
  · (intro ww hSw; (try dsimp only at hSw); go_simp; try with_reducible rfl)
  (try simp only [Act.put, List.setIfInBounds_toArray, List.set_cons_zero, List.set_cons_succ])
  refine wpAnyH_take (i := 2) (oi := { dst := some 97, op := Op.convert 22 3 (Operand.tmp 96), type := 3, pos := "ref.go:83", after := #[{ on := 1, ground := Ground.data }], guard := none }) (v := ?_) rfl (by kernel_rfl) (by kernel_rfl) (by kernel_rfl) (fun _ _ _ h => h) (Or.inl ⟨by rfl, ?_⟩) (by assumption) ?_
  rotate_left
  · (intro ww hSw; (try dsimp only at hSw); go_simp; try with_reducible rfl)
  (try simp only [Act.put, List.setIfInBounds_toArray, List.set_cons_zero, List.set_cons_succ])
  refine wpAnyH_take (i := 4) (oi := { dst := some 99, op := Op.load 24 (Operand.tmp 4), type := 24, pos := "ref.go:83", after := #[], guard := none }) (v := .agg (VM).toArray) rfl (by kernel_rfl) (by kernel_rfl) (by kernel_rfl) (fun _ _ _ h => h) (yieldsIf_load_mid (by rfl) _ _ rfl (w.heap.size) 0 rfl (VM) _ (fun ww hSw => (And.left hSw).2) Tryd.underlying24 rfl HI_VM.out) (by assumption) ?_
  (try simp only [Act.put, List.setIfInBounds_toArray, List.set_cons_zero, List.set_cons_succ])
  refine wpAnyH_ready (rs := [3, 9]) (by kernel_rfl) (by simp) ?_
  refine AllReadyH.cons (o := { dst := some 98, op := Op.call { callee := Callee.value (Operand.func 25), args := #[Operand.tmp 97], argTypes := #[3] }, type := 45, pos := "ref.go:83", after := #[{ on := 2, ground := Ground.data }], guard := none }) rfl (fun K hK => ?_) (AllReadyH.cons (o := { dst := some 14, op := Op.alloc 42, type := 0, pos := "ref.go:83", after := #[], guard := none }) rfl (fun K hK => ?_) AllReadyH.nil)
  · go_simp
    ((with_reducible refine (rlines6_any _ _).mono ?_); rintro e wA ⟨vL, rfl, hLn, hb9⟩)
    refine hK.out _ _ (HKR.out _ ((And.left hHeld).1.below hb9 (Nat.le_refl _))) (fun hHeld => ?_)
    clear hK K
    (try simp only [Act.put, List.setIfInBounds_toArray, List.set_cons_zero, List.set_cons_succ])
    refine wpAnyH_ready (rs := [5, 9]) (by kernel_rfl) (by simp) ?_
    refine AllReadyH.cons (o := { dst := some 100, op := Op.call { callee := Callee.value (Operand.func 24), args := #[Operand.tmp 98, Operand.tmp 99], argTypes := #[45, 24] }, type := 43, pos := "ref.go:83", after := #[{ on := 3, ground := Ground.data }, { on := 4, ground := Ground.data }, { on := 3, ground := Ground.chain }], guard := none }) rfl (fun K hK => ?_) (AllReadyH.cons (o := { dst := some 14, op := Op.alloc 42, type := 0, pos := "ref.go:83", after := #[], guard := none }) rfl (fun K hK => ?_) AllReadyH.nil)
    · go_simp
      ((with_reducible refine (CF.out _ _ hLn).mono ?_); rintro e wB ⟨rfl, hb9⟩)
      refine hK.out _ _ (HKR.out _ ((And.left hHeld).1.below hb9 (Nat.le_refl _))) (fun hHeld => ?_)
      clear hK K
      (try simp only [Act.put, List.setIfInBounds_toArray, List.set_cons_zero, List.set_cons_succ])
      refine wpAnyH_take (i := 6) (oi := { dst := some 94, op := Op.move (Operand.tmp 100), type := 43, pos := "ref.go:83", after := #[{ on := 5, ground := Ground.data }], guard := none }) (v := ?_) rfl (by kernel_rfl) (by kernel_rfl) (by kernel_rfl) (fun _ _ _ h => h) (Or.inl ⟨by rfl, ?_⟩) (by assumption) ?_
      rotate_left
      · (intro ww hSw; (try dsimp only at hSw); go_simp; try with_reducible rfl)
      (try simp only [Act.put, List.setIfInBounds_toArray, List.set_cons_zero, List.set_cons_succ])
      refine wpAnyH_take (i := 7) (oi := { dst := some 101, op := Op.extract (Operand.tmp 94) 0, type := 42, pos := "ref.go:83", after := #[{ on := 6, ground := Ground.data }], guard := none }) (v := ?_) rfl (by kernel_rfl) (by kernel_rfl) (by kernel_rfl) (fun _ _ _ h => h) (Or.inl ⟨by rfl, ?_⟩) (by assumption) ?_
      rotate_left
      · (intro ww hSw; (try dsimp only at hSw); go_simp; try with_reducible rfl)
      (try simp only [Act.put, List.setIfInBounds_toArray, List.set_cons_zero, List.set_cons_succ])
      refine wpAnyH_take (i := 8) (oi := { dst := some 102, op := Op.extract (Operand.tmp 94) 1, type := 4, pos := "ref.go:83", after := #[{ on := 6, ground := Ground.data }, { on := 10, ground := Ground.gcOnly Departure.lateStores }], guard := none }) (v := ?_) rfl (by kernel_rfl) (by kernel_rfl) (by kernel_rfl) (fun _ _ _ h => h) (Or.inl ⟨by rfl, ?_⟩) (by assumption) ?_
      rotate_left
      · (intro ww hSw; (try dsimp only at hSw); go_simp; try with_reducible rfl)
      (try simp only [Act.put, List.setIfInBounds_toArray, List.set_cons_zero, List.set_cons_succ])
      refine wpAnyH_ready (rs := [9]) (by kernel_rfl) (by simp) ?_
      refine AllReadyH.cons (o := { dst := some 14, op := Op.alloc 42, type := 0, pos := "ref.go:83", after := #[], guard := none }) rfl (fun K hK => ?_) AllReadyH.nil
      have hnw := (And.left hHeld).1.2.2
      have hne := fun x hx => (And.left hHeld).1.ne x hx
      go_simp
      refine hK.out _ _ (HKR.out _ ((And.left hHeld).1.alloc _)) (fun hHeld => ?_)
      clear hK K
      (try simp only [Act.put, List.setIfInBounds_toArray, List.set_cons_zero, List.set_cons_succ])
      have hA := bk_new (wB) 42 ([.int .i64 0, .int .i64 0, .int .i64 0, .int .i64 0, .int .i64 0] : List Value).toArray
      refine wpAnyH_ready (rs := [10]) (by kernel_rfl) (by simp) ?_
      refine AllReadyH.cons (o := { dst := none, op := Op.store 42 (Operand.tmp 14) (Operand.tmp 101), type := 0, pos := "ref.go:83", after := #[{ on := 9, ground := Ground.data }, { on := 7, ground := Ground.data }, { on := 5, ground := Ground.chain }, { on := 0, ground := Ground.phase }, { on := 1, ground := Ground.phase }, { on := 2, ground := Ground.phase }, { on := 3, ground := Ground.phase }, { on := 4, ground := Ground.phase }, { on := 5, ground := Ground.phase }, { on := 6, ground := Ground.phase }, { on := 7, ground := Ground.phase }, { on := 8, ground := Ground.textOnly Departure.lateStores }, { on := 9, ground := Ground.phase }], guard := none }) rfl (fun K hK => ?_) AllReadyH.nil
      rw [if_pos (by rfl)]
      have hS := Bk.sets VF 0 _ _ hA
      rw [puts_whole ([.int .i64 0, .int .i64 0, .int .i64 0, .int .i64 0, .int .i64 0] : List Value).toArray VF (by have := HL_VF.out; simp; omega)] at hS
      refine wp_store_mid 42 _ _ rfl (wB).heap.size 0 VF.toArray rfl rfl (hA.there _ (by have := HL_VF.out; simp; omega)) (by simpa using HI_VF.out) HO_VF.out ?_
      refine hK.out _ _ (HKR.out _ ((And.left hHeld).1.sets hne hnw 0 VF)) (fun hHeld => ?_)
      clear hK K
      (try simp only [Act.put])
      refine wpAnyH_take (i := 11) (oi := { dst := some 15, op := Op.assign (Operand.tmp 102), type := 4, pos := "ref.go:83", after := #[{ on := 8, ground := Ground.data }, { on := 10, ground := Ground.chain }, { on := 0, ground := Ground.phase }, { on := 1, ground := Ground.phase }, { on := 2, ground := Ground.phase }, { on := 3, ground := Ground.phase }, { on := 4, ground := Ground.phase }, { on := 5, ground := Ground.phase }, { on := 6, ground := Ground.phase }, { on := 7, ground := Ground.phase }, { on := 8, ground := Ground.phase }, { on := 9, ground := Ground.phase }, { on := 10, ground := Ground.phase }], guard := none }) (v := ?_) rfl (by kernel_rfl) (by kernel_rfl) (by kernel_rfl) (fun _ _ _ h => h) (Or.inl ⟨by rfl, ?_⟩) (by assumption) ?_
      rotate_left
      · (intro ww hSw; (try dsimp only at hSw); go_simp; try with_reducible rfl)
      (try simp only [Act.put, List.setIfInBounds_toArray, List.set_cons_zero, List.set_cons_succ])
      refine wpAnyH_done (by kernel_rfl) ?_ _
      refine NoPanic.normal ?_
      have HK7 := Lib.hid (And.left hHeld).1
      have HSS := Lib.hid hS
      clear hHeld hS hA HKR
      generalize (wB.alloc (.cells ([.int .i64 0, .int .i64 0, .int .i64 0, .int .i64 0, .int .i64 0] : List Value).toArray 42)).setCells (wB).heap.size 0 VF = w7 at *
      generalize (wB).heap.size = gl at *
      have hkc := HK7.out.hd
      have htf := hkc.there V0.toArray.size (Nat.le_refl _)
      go_wp2_with (((with_reducible (change wpList _ _ _ _ _ _)); (first | (refine Great.wpList_readTo rfl _ rfl (.agg V0.toArray) (run_execN (T := 24) (l := #[]) (m := #[]) rfl (by simp) (HB0.out _)) ?_) | (refine wpList_store_mid rfl 24 _ _ rfl (w.heap.size + 1) 0 V0.toArray rfl rfl htf (by simpa using HI_V0.out) HO_V0.out ?_))))
      have hk5 := Bk.sets V0 0 _ _ hkc
      rw [puts_whole V0.toArray V0 (by simp)] at hk5
      refine bodyPost_ret (v := .tuple #[.agg V0.toArray, .bool false]) ?_ rfl ?_
      · exact results_cell2 rfl rfl rfl (run_loadVar_mid _ (w.heap.size + 1) 0 24 V0 _ hk5.range Tryd.underlying24 rfl HI_V0.out)
      · rw [HS.out]
        exact ⟨by rw [HV0.out], below_sets _ (by omega) 0 _ HK7.out.2.1⟩
    · have hnw := (And.left hHeld).1.2.2
      have hne := fun x hx => (And.left hHeld).1.ne x hx
      go_simp
      refine hK.out _ _ (HKR.out _ ((And.left hHeld).1.alloc _)) (fun hHeld => ?_)
      clear hK K
      (try simp only [Act.put, List.setIfInBounds_toArray, List.set_cons_zero, List.set_cons_succ])
      have hA := bk_new (wA) 42 ([.int .i64 0, .int .i64 0, .int .i64 0, .int .i64 0, .int .i64 0] : List Value).toArray
      have hLn := hLn.below ((Below.refl _ _).alloc (Nat.le_refl _) (.cells ([.int .i64 0, .int .i64 0, .int .i64 0, .int .i64 0, .int .i64 0] : List Value).toArray 42))
      refine wpAnyH_ready (rs := [5]) (by kernel_rfl) (by simp) ?_
      refine AllReadyH.cons (o := { dst := some 100, op := Op.call { callee := Callee.value (Operand.func 24), args := #[Operand.tmp 98, Operand.tmp 99], argTypes := #[45, 24] }, type := 43, pos := "ref.go:83", after := #[{ on := 3, ground := Ground.data }, { on := 4, ground := Ground.data }, { on := 3, ground := Ground.chain }], guard := none }) rfl (fun K hK => ?_) AllReadyH.nil
      go_simp
      ((with_reducible refine (CF.out _ _ hLn).mono ?_); rintro e wB ⟨rfl, hb9⟩)
      refine hK.out _ _ (HKR.out _ ((And.left hHeld).1.below hb9 (Nat.le_refl _))) (fun hHeld => ?_)
      clear hK K
      (try simp only [Act.put, List.setIfInBounds_toArray, List.set_cons_zero, List.set_cons_succ])
      have hA := hA.below hb9 hA.lt
      refine wpAnyH_take (i := 6) (oi := { dst := some 94, op := Op.move (Operand.tmp 100), type := 43, pos := "ref.go:83", after := #[{ on := 5, ground := Ground.data }], guard := none }) (v := ?_) rfl (by kernel_rfl) (by kernel_rfl) (by kernel_rfl) (fun _ _ _ h => h) (Or.inl ⟨by rfl, ?_⟩) (by assumption) ?_
      rotate_left
      · (intro ww hSw; (try dsimp only at hSw); go_simp; try with_reducible rfl)
      (try simp only [Act.put, List.setIfInBounds_toArray, List.set_cons_zero, List.set_cons_succ])
      refine wpAnyH_take (i := 7) (oi := { dst := some 101, op := Op.extract (Operand.tmp 94) 0, type := 42, pos := "ref.go:83", after := #[{ on := 6, ground := Ground.data }], guard := none }) (v := ?_) rfl (by kernel_rfl) (by kernel_rfl) (by kernel_rfl) (fun _ _ _ h => h) (Or.inl ⟨by rfl, ?_⟩) (by assumption) ?_
      rotate_left
      · (intro ww hSw; (try dsimp only at hSw); go_simp; try with_reducible rfl)
      (try simp only [Act.put, List.setIfInBounds_toArray, List.set_cons_zero, List.set_cons_succ])
      refine wpAnyH_take (i := 8) (oi := { dst := some 102, op := Op.extract (Operand.tmp 94) 1, type := 4, pos := "ref.go:83", after := #[{ on := 6, ground := Ground.data }, { on := 10, ground := Ground.gcOnly Departure.lateStores }], guard := none }) (v := ?_) rfl (by kernel_rfl) (by kernel_rfl) (by kernel_rfl) (fun _ _ _ h => h) (Or.inl ⟨by rfl, ?_⟩) (by assumption) ?_
      rotate_left
      · (intro ww hSw; (try dsimp only at hSw); go_simp; try with_reducible rfl)
      (try simp only [Act.put, List.setIfInBounds_toArray, List.set_cons_zero, List.set_cons_succ])
      refine wpAnyH_ready (rs := [10]) (by kernel_rfl) (by simp) ?_
      refine AllReadyH.cons (o := { dst := none, op := Op.store 42 (Operand.tmp 14) (Operand.tmp 101), type := 0, pos := "ref.go:83", after := #[{ on := 9, ground := Ground.data }, { on := 7, ground := Ground.data }, { on := 5, ground := Ground.chain }, { on := 0, ground := Ground.phase }, { on := 1, ground := Ground.phase }, { on := 2, ground := Ground.phase }, { on := 3, ground := Ground.phase }, { on := 4, ground := Ground.phase }, { on := 5, ground := Ground.phase }, { on := 6, ground := Ground.phase }, { on := 7, ground := Ground.phase }, { on := 8, ground := Ground.textOnly Departure.lateStores }, { on := 9, ground := Ground.phase }], guard := none }) rfl (fun K hK => ?_) AllReadyH.nil
      rw [if_pos (by rfl)]
      have hS := Bk.sets VF 0 _ _ hA
      rw [puts_whole ([.int .i64 0, .int .i64 0, .int .i64 0, .int .i64 0, .int .i64 0] : List Value).toArray VF (by have := HL_VF.out; simp; omega)] at hS
      refine wp_store_mid 42 _ _ rfl (wA).heap.size 0 VF.toArray rfl rfl (hA.there _ (by have := HL_VF.out; simp; omega)) (by simpa using HI_VF.out) HO_VF.out ?_
      refine hK.out _ _ (HKR.out _ ((And.left hHeld).1.sets hne hnw 0 VF)) (fun hHeld => ?_)
      clear hK K
      (try simp only [Act.put])
      refine wpAnyH_take (i := 11) (oi := { dst := some 15, op := Op.assign (Operand.tmp 102), type := 4, pos := "ref.go:83", after := #[{ on := 8, ground := Ground.data }, { on := 10, ground := Ground.chain }, { on := 0, ground := Ground.phase }, { on := 1, ground := Ground.phase }, { on := 2, ground := Ground.phase }, { on := 3, ground := Ground.phase }, { on := 4, ground := Ground.phase }, { on := 5, ground := Ground.phase }, { on := 6, ground := Ground.phase }, { on := 7, ground := Ground.phase }, { on := 8, ground := Ground.phase }, { on := 9, ground := Ground.phase }, { on := 10, ground := Ground.phase }], guard := none }) (v := ?_) rfl (by kernel_rfl) (by kernel_rfl) (by kernel_rfl) (fun _ _ _ h => h) (Or.inl ⟨by rfl, ?_⟩) (by assumption) ?_
      rotate_left
      · (intro ww hSw; (try dsimp only at hSw); go_simp; try with_reducible rfl)
      (try simp only [Act.put, List.setIfInBounds_toArray, List.set_cons_zero, List.set_cons_succ])
      refine wpAnyH_done (by kernel_rfl) ?_ _
      refine NoPanic.normal ?_
      have HK7 := Lib.hid (And.left hHeld).1
      have HSS := Lib.hid hS
      clear hHeld hS hA HKR
      generalize wB.setCells (wA).heap.size 0 VF = w7 at *
      generalize (wA).heap.size = gl at *
      have hkc := HK7.out.hd
      have htf := hkc.there V0.toArray.size (Nat.le_refl _)
      go_wp2_with (((with_reducible (change wpList _ _ _ _ _ _)); (first | (refine Great.wpList_readTo rfl _ rfl (.agg V0.toArray) (run_execN (T := 24) (l := #[]) (m := #[]) rfl (by simp) (HB0.out _)) ?_) | (refine wpList_store_mid rfl 24 _ _ rfl (w.heap.size + 1) 0 V0.toArray rfl rfl htf (by simpa using HI_V0.out) HO_V0.out ?_))))
      have hk5 := Bk.sets V0 0 _ _ hkc
      rw [puts_whole V0.toArray V0 (by simp)] at hk5
      refine bodyPost_ret (v := .tuple #[.agg V0.toArray, .bool false]) ?_ rfl ?_
      · exact results_cell2 rfl rfl rfl (run_loadVar_mid _ (w.heap.size + 1) 0 24 V0 _ hk5.range Tryd.underlying24 rfl HI_V0.out)
      · rw [HS.out]
        exact ⟨by rw [HV0.out], below_sets _ (by omega) 0 _ HK7.out.2.1⟩
  · have hnw := (And.left hHeld).1.2.2
    have hne := fun x hx => (And.left hHeld).1.ne x hx
    go_simp
    refine hK.out _ _ (HKR.out _ ((And.left hHeld).1.alloc _)) (fun hHeld => ?_)
    clear hK K
    (try simp only [Act.put, List.setIfInBounds_toArray, List.set_cons_zero, List.set_cons_succ])
    have hA := bk_new (w1.drew) 42 ([.int .i64 0, .int .i64 0, .int .i64 0, .int .i64 0, .int .i64 0] : List Value).toArray
    refine wpAnyH_ready (rs := [3]) (by kernel_rfl) (by simp) ?_
    refine AllReadyH.cons (o := { dst := some 98, op := Op.call { callee := Callee.value (Operand.func 25), args := #[Operand.tmp 97], argTypes := #[3] }, type := 45, pos := "ref.go:83", after := #[{ on := 2, ground := Ground.data }], guard := none }) rfl (fun K hK => ?_) AllReadyH.nil
    go_simp
    ((with_reducible refine (rlines6_any _ _).mono ?_); rintro e wA ⟨vL, rfl, hLn, hb9⟩)
    refine hK.out _ _ (HKR.out _ ((And.left hHeld).1.below hb9 (Nat.le_refl _))) (fun hHeld => ?_)
    clear hK K
    (try simp only [Act.put, List.setIfInBounds_toArray, List.set_cons_zero, List.set_cons_succ])
    have hA := hA.below hb9 hA.lt
    refine wpAnyH_ready (rs := [5]) (by kernel_rfl) (by simp) ?_
    refine AllReadyH.cons (o := { dst := some 100, op := Op.call { callee := Callee.value (Operand.func 24), args := #[Operand.tmp 98, Operand.tmp 99], argTypes := #[45, 24] }, type := 43, pos := "ref.go:83", after := #[{ on := 3, ground := Ground.data }, { on := 4, ground := Ground.data }, { on := 3, ground := Ground.chain }], guard := none }) rfl (fun K hK => ?_) AllReadyH.nil
    go_simp
    ((with_reducible refine (CF.out _ _ hLn).mono ?_); rintro e wB ⟨rfl, hb9⟩)
    refine hK.out _ _ (HKR.out _ ((And.left hHeld).1.below hb9 (Nat.le_refl _))) (fun hHeld => ?_)
    clear hK K
    (try simp only [Act.put, List.setIfInBounds_toArray, List.set_cons_zero, List.set_cons_succ])
    have hA := hA.below hb9 hA.lt
    refine wpAnyH_take (i := 6) (oi := { dst := some 94, op := Op.move (Operand.tmp 100), type := 43, pos := "ref.go:83", after := #[{ on := 5, ground := Ground.data }], guard := none }) (v := ?_) rfl (by kernel_rfl) (by kernel_rfl) (by kernel_rfl) (fun _ _ _ h => h) (Or.inl ⟨by rfl, ?_⟩) (by assumption) ?_
    rotate_left
    · (intro ww hSw; (try dsimp only at hSw); go_simp; try with_reducible rfl)
    (try simp only [Act.put, List.setIfInBounds_toArray, List.set_cons_zero, List.set_cons_succ])
    refine wpAnyH_take (i := 7) (oi := { dst := some 101, op := Op.extract (Operand.tmp 94) 0, type := 42, pos := "ref.go:83", after := #[{ on := 6, ground := Ground.data }], guard := none }) (v := ?_) rfl (by kernel_rfl) (by kernel_rfl) (by kernel_rfl) (fun _ _ _ h => h) (Or.inl ⟨by rfl, ?_⟩) (by assumption) ?_
    rotate_left
    · (intro ww hSw; (try dsimp only at hSw); go_simp; try with_reducible rfl)
    (try simp only [Act.put, List.setIfInBounds_toArray, List.set_cons_zero, List.set_cons_succ])
    refine wpAnyH_take (i := 8) (oi := { dst := some 102, op := Op.extract (Operand.tmp 94) 1, type := 4, pos := "ref.go:83", after := #[{ on := 6, ground := Ground.data }, { on := 10, ground := Ground.gcOnly Departure.lateStores }], guard := none }) (v := ?_) rfl (by kernel_rfl) (by kernel_rfl) (by kernel_rfl) (fun _ _ _ h => h) (Or.inl ⟨by rfl, ?_⟩) (by assumption) ?_
    rotate_left
    · (intro ww hSw; (try dsimp only at hSw); go_simp; try with_reducible rfl)
    (try simp only [Act.put, List.setIfInBounds_toArray, List.set_cons_zero, List.set_cons_succ])
    refine wpAnyH_ready (rs := [10]) (by kernel_rfl) (by simp) ?_
    refine AllReadyH.cons (o := { dst := none, op := Op.store 42 (Operand.tmp 14) (Operand.tmp 101), type := 0, pos := "ref.go:83", after := #[{ on := 9, ground := Ground.data }, { on := 7, ground := Ground.data }, { on := 5, ground := Ground.chain }, { on := 0, ground := Ground.phase }, { on := 1, ground := Ground.phase }, { on := 2, ground := Ground.phase }, { on := 3, ground := Ground.phase }, { on := 4, ground := Ground.phase }, { on := 5, ground := Ground.phase }, { on := 6, ground := Ground.phase }, { on := 7, ground := Ground.phase }, { on := 8, ground := Ground.textOnly Departure.lateStores }, { on := 9, ground := Ground.phase }], guard := none }) rfl (fun K hK => ?_) AllReadyH.nil
    rw [if_pos (by rfl)]
    have hS := Bk.sets VF 0 _ _ hA
    rw [puts_whole ([.int .i64 0, .int .i64 0, .int .i64 0, .int .i64 0, .int .i64 0] : List Value).toArray VF (by have := HL_VF.out; simp; omega)] at hS
    refine wp_store_mid 42 _ _ rfl (w1.drew).heap.size 0 VF.toArray rfl rfl (hA.there _ (by have := HL_VF.out; simp; omega)) (by simpa using HI_VF.out) HO_VF.out ?_
    refine hK.out _ _ (HKR.out _ ((And.left hHeld).1.sets hne hnw 0 VF)) (fun hHeld => ?_)
    clear hK K
    (try simp only [Act.put])
    refine wpAnyH_take (i := 11) (oi := { dst := some 15, op := Op.assign (Operand.tmp 102), type := 4, pos := "ref.go:83", after := #[{ on := 8, ground := Ground.data }, { on := 10, ground := Ground.chain }, { on := 0, ground := Ground.phase }, { on := 1, ground := Ground.phase }, { on := 2, ground := Ground.phase }, { on := 3, ground := Ground.phase }, { on := 4, ground := Ground.phase }, { on := 5, ground := Ground.phase }, { on := 6, ground := Ground.phase }, { on := 7, ground := Ground.phase }, { on := 8, ground := Ground.phase }, { on := 9, ground := Ground.phase }, { on := 10, ground := Ground.phase }], guard := none }) (v := ?_) rfl (by kernel_rfl) (by kernel_rfl) (by kernel_rfl) (fun _ _ _ h => h) (Or.inl ⟨by rfl, ?_⟩) (by assumption) ?_
    rotate_left
    · (intro ww hSw; (try dsimp only at hSw); go_simp; try with_reducible rfl)
    (try simp only [Act.put, List.setIfInBounds_toArray, List.set_cons_zero, List.set_cons_succ])
    refine wpAnyH_done (by kernel_rfl) ?_ _
    refine NoPanic.normal ?_
    have HK7 := Lib.hid (And.left hHeld).1
    have HSS := Lib.hid hS
    clear hHeld hS hA HKR
    generalize wB.setCells (w1.drew).heap.size 0 VF = w7 at *
    rw [show (w1.drew).heap.size = w1.heap.size from rfl] at HSS
    generalize w1.heap.size = gl at *
    have hkc := HK7.out.hd
    have htf := hkc.there V0.toArray.size (Nat.le_refl _)
    go_wp2_with (((with_reducible (change wpList _ _ _ _ _ _)); (first | (refine Great.wpList_readTo rfl _ rfl (.agg V0.toArray) (run_execN (T := 24) (l := #[]) (m := #[]) rfl (by simp) (HB0.out _)) ?_) | (refine wpList_store_mid rfl 24 _ _ rfl (w.heap.size + 1) 0 V0.toArray rfl rfl htf (by simpa using HI_V0.out) HO_V0.out ?_))))
    have hk5 := Bk.sets V0 0 _ _ hkc
    rw [puts_whole V0.toArray V0 (by simp)] at hk5
    refine bodyPost_ret (v := .tuple #[.agg V0.toArray, .bool false]) ?_ rfl ?_
    · exact results_cell2 rfl rfl rfl (run_loadVar_mid _ (w.heap.size + 1) 0 24 V0 _ hk5.range Tryd.underlying24 rfl HI_V0.out)
    · rw [HS.out]
      exact ⟨by rw [HV0.out], below_sets _ (by omega) 0 _ HK7.out.2.1⟩
set_option maxRecDepth 100000 in
set_option maxHeartbeats 4000000 in
theorem rsix_tabA_some (m : Mg) (a b len : Int) (w : World) (hr : 0 ≤ m.rs ∧ m.rs < 4294967296) (hb : mtus a b = true) (x : Ln) (g1 : m.kd ≠ 3) (g2 : m.kd ≠ 12) (hf : findL (ln6 m.rs) m.kd m.cd = some x) : Calls Tryd.prog 15 #[.agg m.vals.toArray, .int .i64 a, .int .i64 b, .int .i64 len] w (fun e w' => e = .returned (.tuple #[.agg (six m a b len).1.vals.toArray, .bool (six m a b len).2]) ∧ Below w.heap.size w w') := by
  have HS : Hid (six m a b len = (⟨x.2.2.1, x.2.2.2.1, x.2.2.2.2, m.da⟩, true)) := Lib.hid (by unfold six; rw [hb, if_neg (by simp), if_neg (by omega), if_neg (by omega), hf]; rfl)
  have HBn : Hid (∀ W, Calls Tryd.prog 23 #[.int .i64 a, .int .i64 b] W fun e w' => e = .returned (.bool true) ∧ W = w') := Lib.hid (fun W => by rw [← hb]; exact rbounds_any a b W)
  clear hb
  have hrx := ln6_mem hf
  have kN : IntKind.u32.wrap x.2.2.2.2 = x.2.2.2.2 := by rw [IntKind.wrap_u32]; omega
  obtain ⟨VF, hVF⟩ : ∃ V, V = lnv x := ⟨_, rfl⟩
  have CF : Hid (∀ (W : World) (v : Value), Lns W v (ln6 m.rs) → Calls Tryd.prog 24 #[v, .agg m.vals.toArray] W fun e w' => e = .returned (.tuple #[.agg VF.toArray, .bool true]) ∧ Below W.heap.size W w') := Lib.hid (fun W v hx => by
    have h := rfind_any v (ln6 m.rs) m W hx (by show 18 ≤ 1000; omega)
    rw [hf] at h
    rw [hVF]
    exact h)
  have HI_VF : Hid ((Tryd.prog.info? 42).map (·.size) = some VF.length) := Lib.hid (by rw [hVF]; exact Tryd.sizeLn _)
  have HO_VF : Hid (VF.toArray.all (·.oneCell') = true) := Lib.hid (by rw [hVF]; exact lnv_one _)
  have HL_VF : Hid (VF.length = 5) := Lib.hid (by rw [hVF]; rfl)
  have HF2 : Hid (VF[2]? = some (.int .i64 x.2.2.1)) := Lib.hid (by rw [hVF]; rfl)
  have HF3 : Hid (VF[3]? = some (.int .i64 x.2.2.2.1)) := Lib.hid (by rw [hVF]; rfl)
  have HF4 : Hid (VF[4]? = some (.int .i64 x.2.2.2.2)) := Lib.hid (by rw [hVF]; rfl)
  clear hVF hf
  have k3 : (m.kd == 3) = false := by rw [beq_eq_false_iff_ne]; exact g1
  have k12 : (m.kd == 12) = false := by rw [beq_eq_false_iff_ne]; exact g2
  have kid : IntKind.i64.wrap m.rs = m.rs := IntWalk.i64_in _ (by omega)
  obtain ⟨V0, hV0⟩ : ∃ V, V = mg0.vals := ⟨_, rfl⟩
  have HB0 : Hid (∀ W, (Instr.build 24 #[]).run Tryd.prog W = .ok (.agg V0.toArray) W) := Lib.hid (fun W => by rw [hV0]; exact mgBuild W)
  have HI_V0 : Hid ((Tryd.prog.info? 24).map (·.size) = some V0.length) := Lib.hid (by rw [hV0]; exact Tryd.infoMg _)
  have HO_V0 : Hid (V0.toArray.all (·.oneCell') = true) := Lib.hid (by rw [hV0]; exact mg_one _)
  have HL_V0 : Hid (V0.length = 4) := Lib.hid (by rw [hV0]; rfl)
  have hz0 : V0.toArray = #[.int .i64 0, .int .i64 0, .int .u32 0, .string ⟨#[]⟩] := by rw [hV0]; rfl
  have HV0 := Lib.hid hV0
  clear hV0
  have HI_VM : Hid ((Tryd.prog.info? 24).map (·.size) = some m.vals.length) := Lib.hid (Tryd.infoMg _)
  have HM0 : Hid (m.vals[0]? = some (.int .i64 m.kd)) := Lib.hid (by exact rfl)
  have HM1 : Hid (m.vals[1]? = some (.int .i64 m.cd)) := Lib.hid (by exact rfl)
  have HM2 : Hid (m.vals[2]? = some (.int .u32 m.rs)) := Lib.hid (by exact rfl)
  have HM3 : Hid (m.vals[3]? = some (.string m.da)) := Lib.hid (by exact rfl)
  have HK1 : Hid (Kp w w.heap.size [(w.heap.size + 1, 24, V0), (w.heap.size, 24, m.vals)] ((w.alloc (.cells m.vals.toArray 24)).alloc (.cells V0.toArray 24))) := Lib.hid (by
    have h := (Kp.start w).new 24 m.vals
    have e1 : (w.alloc (.cells m.vals.toArray 24)).heap.size = w.heap.size + 1 := by simp
    have h2 := h.new 24 V0
    rwa [e1] at h2)
  generalize m.vals = VM at *
  generalize hw1 : (w.alloc (.cells VM.toArray 24)).alloc (.cells V0.toArray 24) = w1 at *
  rw [hz0] at hw1
  go_enter Tryd.func15, Tryd.ntmps15
  go_upto_region 1 with (fail)
  clear hw1 hz0
  go_wp2_with (fail)
  refine (HBn.out _).mono ?_
  rintro e w99 ⟨rfl, rfl⟩
  have c0 : w1.cell? ⟨w.heap.size, 0, none⟩ = some (.int .i64 m.kd) := HK1.out.tl.hd.at HM0.out
  have c1 : w1.cell? ⟨w.heap.size, 1, none⟩ = some (.int .i64 m.cd) := HK1.out.tl.hd.at HM1.out
  go_upto_region 21 with (fail)
  clear c0 c1
  have HKR : Hid (∀ W : World, Kp w w.heap.size [(w.heap.size + 1, 24, V0), (w.heap.size, 24, VM)] W → (fun w' => (Kp w w.heap.size [(w.heap.size + 1, 24, V0), (w.heap.size, 24, VM)] w' ∧ w'.rangeAt (w.heap.size) 0 VM) ∧ w'.cell? ⟨w.heap.size, 2, none⟩ = some (.int .u32 m.rs)) W) := Lib.hid (fun W h => ⟨⟨h, h.tl.hd.range⟩, h.tl.hd.at HM2.out⟩)
  refine wp_region_noPanic ?_
  refine wp_region_held_drew (S := fun w' => (Kp w w.heap.size [(w.heap.size + 1, 24, V0), (w.heap.size, 24, VM)] w' ∧ w'.rangeAt (w.heap.size) 0 VM) ∧ w'.cell? ⟨w.heap.size, 2, none⟩ = some (.int .u32 m.rs)) (by kernel_rfl) (HKR.out _ HK1.out.drew) (fun hHeld => ?_)
  refine wpAnyH_take (i := 0) (oi := { dst := some 95, op := Op.fieldAddr 24 (Operand.tmp 4) 2, type := 0, pos := "ref.go:83", after := #[], guard := none }) (v := ?_) rfl (by kernel_rfl) (by kernel_rfl) (by kernel_rfl) (fun _ _ _ h => h) (Or.inl ⟨by rfl, ?_⟩) (by assumption) ?_
  rotate_left
  · (intro ww hSw; (try dsimp only at hSw); go_simp; try with_reducible rfl)
  (try simp only [Act.put, List.setIfInBounds_toArray, List.set_cons_zero, List.set_cons_succ])
  refine wpAnyH_take (i := 1) (oi := { dst := some 96, op := Op.load 22 (Operand.tmp 95), type := 22, pos := "ref.go:83", after := #[{ on := 0, ground := Ground.data }], guard := none }) (v := ?_) rfl (by kernel_rfl) (by kernel_rfl) (by kernel_rfl) (fun _ _ _ h => h) (Or.inl ⟨by rfl, ?_⟩) (by assumption) ?_
  rotate_left
  · (intro ww hSw; (try dsimp only at hSw); go_simp; try with_reducible rfl)
  (try simp only [Act.put, List.setIfInBounds_toArray, List.set_cons_zero, List.set_cons_succ])
  refine wpAnyH_take (i := 2) (oi := { dst := some 97, op := Op.convert 22 3 (Operand.tmp 96), type := 3, pos := "ref.go:83", after := #[{ on := 1, ground := Ground.data }], guard := none }) (v := ?_) rfl (by kernel_rfl) (by kernel_rfl) (by kernel_rfl) (fun _ _ _ h => h) (Or.inl ⟨by rfl, ?_⟩) (by assumption) ?_
  rotate_left
  · (intro ww hSw; (try dsimp only at hSw); go_simp; try with_reducible rfl)
  (try simp only [Act.put, List.setIfInBounds_toArray, List.set_cons_zero, List.set_cons_succ])
  refine wpAnyH_take (i := 4) (oi := { dst := some 99, op := Op.load 24 (Operand.tmp 4), type := 24, pos := "ref.go:83", after := #[], guard := none }) (v := .agg (VM).toArray) rfl (by kernel_rfl) (by kernel_rfl) (by kernel_rfl) (fun _ _ _ h => h) (yieldsIf_load_mid (by rfl) _ _ rfl (w.heap.size) 0 rfl (VM) _ (fun ww hSw => (And.left hSw).2) Tryd.underlying24 rfl HI_VM.out) (by assumption) ?_
  (try simp only [Act.put, List.setIfInBounds_toArray, List.set_cons_zero, List.set_cons_succ])
  refine wpAnyH_ready (rs := [3, 9]) (by kernel_rfl) (by simp) ?_
  refine AllReadyH.cons (o := { dst := some 98, op := Op.call { callee := Callee.value (Operand.func 25), args := #[Operand.tmp 97], argTypes := #[3] }, type := 45, pos := "ref.go:83", after := #[{ on := 2, ground := Ground.data }], guard := none }) rfl (fun K hK => ?_) (AllReadyH.cons (o := { dst := some 14, op := Op.alloc 42, type := 0, pos := "ref.go:83", after := #[], guard := none }) rfl (fun K hK => ?_) AllReadyH.nil)
  · go_simp
    ((with_reducible refine (rlines6_any _ _).mono ?_); rintro e wA ⟨vL, rfl, hLn, hb9⟩)
    refine hK.out _ _ (HKR.out _ ((And.left hHeld).1.below hb9 (Nat.le_refl _))) (fun hHeld => ?_)
    clear hK K
    (try simp only [Act.put, List.setIfInBounds_toArray, List.set_cons_zero, List.set_cons_succ])
    refine wpAnyH_ready (rs := [5, 9]) (by kernel_rfl) (by simp) ?_
    refine AllReadyH.cons (o := { dst := some 100, op := Op.call { callee := Callee.value (Operand.func 24), args := #[Operand.tmp 98, Operand.tmp 99], argTypes := #[45, 24] }, type := 43, pos := "ref.go:83", after := #[{ on := 3, ground := Ground.data }, { on := 4, ground := Ground.data }, { on := 3, ground := Ground.chain }], guard := none }) rfl (fun K hK => ?_) (AllReadyH.cons (o := { dst := some 14, op := Op.alloc 42, type := 0, pos := "ref.go:83", after := #[], guard := none }) rfl (fun K hK => ?_) AllReadyH.nil)
    · go_simp
      ((with_reducible refine (CF.out _ _ hLn).mono ?_); rintro e wB ⟨rfl, hb9⟩)
      refine hK.out _ _ (HKR.out _ ((And.left hHeld).1.below hb9 (Nat.le_refl _))) (fun hHeld => ?_)
      clear hK K
      (try simp only [Act.put, List.setIfInBounds_toArray, List.set_cons_zero, List.set_cons_succ])
      refine wpAnyH_take (i := 6) (oi := { dst := some 94, op := Op.move (Operand.tmp 100), type := 43, pos := "ref.go:83", after := #[{ on := 5, ground := Ground.data }], guard := none }) (v := ?_) rfl (by kernel_rfl) (by kernel_rfl) (by kernel_rfl) (fun _ _ _ h => h) (Or.inl ⟨by rfl, ?_⟩) (by assumption) ?_
      rotate_left
      · (intro ww hSw; (try dsimp only at hSw); go_simp; try with_reducible rfl)
      (try simp only [Act.put, List.setIfInBounds_toArray, List.set_cons_zero, List.set_cons_succ])
      refine wpAnyH_take (i := 7) (oi := { dst := some 101, op := Op.extract (Operand.tmp 94) 0, type := 42, pos := "ref.go:83", after := #[{ on := 6, ground := Ground.data }], guard := none }) (v := ?_) rfl (by kernel_rfl) (by kernel_rfl) (by kernel_rfl) (fun _ _ _ h => h) (Or.inl ⟨by rfl, ?_⟩) (by assumption) ?_
      rotate_left
      · (intro ww hSw; (try dsimp only at hSw); go_simp; try with_reducible rfl)
      (try simp only [Act.put, List.setIfInBounds_toArray, List.set_cons_zero, List.set_cons_succ])
      refine wpAnyH_take (i := 8) (oi := { dst := some 102, op := Op.extract (Operand.tmp 94) 1, type := 4, pos := "ref.go:83", after := #[{ on := 6, ground := Ground.data }, { on := 10, ground := Ground.gcOnly Departure.lateStores }], guard := none }) (v := ?_) rfl (by kernel_rfl) (by kernel_rfl) (by kernel_rfl) (fun _ _ _ h => h) (Or.inl ⟨by rfl, ?_⟩) (by assumption) ?_
      rotate_left
      · (intro ww hSw; (try dsimp only at hSw); go_simp; try with_reducible rfl)
      (try simp only [Act.put, List.setIfInBounds_toArray, List.set_cons_zero, List.set_cons_succ])
      refine wpAnyH_ready (rs := [9]) (by kernel_rfl) (by simp) ?_
      refine AllReadyH.cons (o := { dst := some 14, op := Op.alloc 42, type := 0, pos := "ref.go:83", after := #[], guard := none }) rfl (fun K hK => ?_) AllReadyH.nil
      have hnw := (And.left hHeld).1.2.2
      have hne := fun x hx => (And.left hHeld).1.ne x hx
      go_simp
      refine hK.out _ _ (HKR.out _ ((And.left hHeld).1.alloc _)) (fun hHeld => ?_)
      clear hK K
      (try simp only [Act.put, List.setIfInBounds_toArray, List.set_cons_zero, List.set_cons_succ])
      have hA := bk_new (wB) 42 ([.int .i64 0, .int .i64 0, .int .i64 0, .int .i64 0, .int .i64 0] : List Value).toArray
      refine wpAnyH_ready (rs := [10]) (by kernel_rfl) (by simp) ?_
      refine AllReadyH.cons (o := { dst := none, op := Op.store 42 (Operand.tmp 14) (Operand.tmp 101), type := 0, pos := "ref.go:83", after := #[{ on := 9, ground := Ground.data }, { on := 7, ground := Ground.data }, { on := 5, ground := Ground.chain }, { on := 0, ground := Ground.phase }, { on := 1, ground := Ground.phase }, { on := 2, ground := Ground.phase }, { on := 3, ground := Ground.phase }, { on := 4, ground := Ground.phase }, { on := 5, ground := Ground.phase }, { on := 6, ground := Ground.phase }, { on := 7, ground := Ground.phase }, { on := 8, ground := Ground.textOnly Departure.lateStores }, { on := 9, ground := Ground.phase }], guard := none }) rfl (fun K hK => ?_) AllReadyH.nil
      rw [if_pos (by rfl)]
      have hS := Bk.sets VF 0 _ _ hA
      rw [puts_whole ([.int .i64 0, .int .i64 0, .int .i64 0, .int .i64 0, .int .i64 0] : List Value).toArray VF (by have := HL_VF.out; simp; omega)] at hS
      refine wp_store_mid 42 _ _ rfl (wB).heap.size 0 VF.toArray rfl rfl (hA.there _ (by have := HL_VF.out; simp; omega)) (by simpa using HI_VF.out) HO_VF.out ?_
      refine hK.out _ _ (HKR.out _ ((And.left hHeld).1.sets hne hnw 0 VF)) (fun hHeld => ?_)
      clear hK K
      (try simp only [Act.put])
      refine wpAnyH_take (i := 11) (oi := { dst := some 15, op := Op.assign (Operand.tmp 102), type := 4, pos := "ref.go:83", after := #[{ on := 8, ground := Ground.data }, { on := 10, ground := Ground.chain }, { on := 0, ground := Ground.phase }, { on := 1, ground := Ground.phase }, { on := 2, ground := Ground.phase }, { on := 3, ground := Ground.phase }, { on := 4, ground := Ground.phase }, { on := 5, ground := Ground.phase }, { on := 6, ground := Ground.phase }, { on := 7, ground := Ground.phase }, { on := 8, ground := Ground.phase }, { on := 9, ground := Ground.phase }, { on := 10, ground := Ground.phase }], guard := none }) (v := ?_) rfl (by kernel_rfl) (by kernel_rfl) (by kernel_rfl) (fun _ _ _ h => h) (Or.inl ⟨by rfl, ?_⟩) (by assumption) ?_
      rotate_left
      · (intro ww hSw; (try dsimp only at hSw); go_simp; try with_reducible rfl)
      (try simp only [Act.put, List.setIfInBounds_toArray, List.set_cons_zero, List.set_cons_succ])
      refine wpAnyH_done (by kernel_rfl) ?_ _
      refine NoPanic.normal ?_
      have HK7 := Lib.hid (And.left hHeld).1
      have HSS := Lib.hid hS
      clear hHeld hS hA HKR
      generalize (wB.alloc (.cells ([.int .i64 0, .int .i64 0, .int .i64 0, .int .i64 0, .int .i64 0] : List Value).toArray 42)).setCells (wB).heap.size 0 VF = w7 at *
      generalize (wB).heap.size = gl at *
      have e2 : w7.cell? ⟨gl, 2, none⟩ = some (.int .i64 x.2.2.1) := HSS.out.at HF2.out
      have e3 : w7.cell? ⟨gl, 3, none⟩ = some (.int .i64 x.2.2.2.1) := HSS.out.at HF3.out
      have e4 : w7.cell? ⟨gl, 4, none⟩ = some (.int .i64 x.2.2.2.2) := HSS.out.at HF4.out
      have c3 : w7.cell? ⟨w.heap.size, 3, none⟩ = some (.string m.da) := HK7.out.tl.hd.at HM3.out
      have hkc := HK7.out.hd
      have htf := hkc.there 4 (by have := HL_V0.out; simp; omega)
      have HIN : Hid ((Tryd.prog.info? 24).map (·.size) = some ([.int .i64 x.2.2.1, .int .i64 x.2.2.2.1, .int .u32 x.2.2.2.2, .string m.da] : List Value).length) := Lib.hid (Tryd.infoMg (⟨x.2.2.1, x.2.2.2.1, x.2.2.2.2, m.da⟩ : Mg))
      go_wp2_with (((with_reducible (change wpList _ _ _ _ _ _)); ((refine wpList_store_mid rfl 24 _ _ rfl (w.heap.size + 1) 0 ([.int .i64 x.2.2.1, .int .i64 x.2.2.2.1, .int .u32 x.2.2.2.2, .string m.da] : List Value).toArray rfl rfl htf (by simpa using HIN.out) (by simp [Value.oneCell']) ?_))))
      have hk5 := Bk.sets [.int .i64 x.2.2.1, .int .i64 x.2.2.2.1, .int .u32 x.2.2.2.2, .string m.da] 0 _ _ hkc
      rw [puts_whole V0.toArray [.int .i64 x.2.2.1, .int .i64 x.2.2.2.1, .int .u32 x.2.2.2.2, .string m.da] (by have := HL_V0.out; simp; omega)] at hk5
      refine bodyPost_ret (v := .tuple #[.agg ([.int .i64 x.2.2.1, .int .i64 x.2.2.2.1, .int .u32 x.2.2.2.2, .string m.da] : List Value).toArray, .bool true]) ?_ rfl ?_
      · exact results_cell2 rfl rfl rfl (run_loadVar_mid _ (w.heap.size + 1) 0 24 [.int .i64 x.2.2.1, .int .i64 x.2.2.2.1, .int .u32 x.2.2.2.2, .string m.da] _ hk5.range Tryd.underlying24 rfl HIN.out)
      · rw [HS.out]
        exact ⟨rfl, below_sets _ (by omega) 0 _ HK7.out.2.1⟩
    · have hnw := (And.left hHeld).1.2.2
      have hne := fun x hx => (And.left hHeld).1.ne x hx
      go_simp
      refine hK.out _ _ (HKR.out _ ((And.left hHeld).1.alloc _)) (fun hHeld => ?_)
      clear hK K
      (try simp only [Act.put, List.setIfInBounds_toArray, List.set_cons_zero, List.set_cons_succ])
      have hA := bk_new (wA) 42 ([.int .i64 0, .int .i64 0, .int .i64 0, .int .i64 0, .int .i64 0] : List Value).toArray
      have hLn := hLn.below ((Below.refl _ _).alloc (Nat.le_refl _) (.cells ([.int .i64 0, .int .i64 0, .int .i64 0, .int .i64 0, .int .i64 0] : List Value).toArray 42))
      refine wpAnyH_ready (rs := [5]) (by kernel_rfl) (by simp) ?_
      refine AllReadyH.cons (o := { dst := some 100, op := Op.call { callee := Callee.value (Operand.func 24), args := #[Operand.tmp 98, Operand.tmp 99], argTypes := #[45, 24] }, type := 43, pos := "ref.go:83", after := #[{ on := 3, ground := Ground.data }, { on := 4, ground := Ground.data }, { on := 3, ground := Ground.chain }], guard := none }) rfl (fun K hK => ?_) AllReadyH.nil
      go_simp
      ((with_reducible refine (CF.out _ _ hLn).mono ?_); rintro e wB ⟨rfl, hb9⟩)
      refine hK.out _ _ (HKR.out _ ((And.left hHeld).1.below hb9 (Nat.le_refl _))) (fun hHeld => ?_)
      clear hK K
      (try simp only [Act.put, List.setIfInBounds_toArray, List.set_cons_zero, List.set_cons_succ])
      have hA := hA.below hb9 hA.lt
      refine wpAnyH_take (i := 6) (oi := { dst := some 94, op := Op.move (Operand.tmp 100), type := 43, pos := "ref.go:83", after := #[{ on := 5, ground := Ground.data }], guard := none }) (v := ?_) rfl (by kernel_rfl) (by kernel_rfl) (by kernel_rfl) (fun _ _ _ h => h) (Or.inl ⟨by rfl, ?_⟩) (by assumption) ?_
      rotate_left
      · (intro ww hSw; (try dsimp only at hSw); go_simp; try with_reducible rfl)
      (try simp only [Act.put, List.setIfInBounds_toArray, List.set_cons_zero, List.set_cons_succ])
      refine wpAnyH_take (i := 7) (oi := { dst := some 101, op := Op.extract (Operand.tmp 94) 0, type := 42, pos := "ref.go:83", after := #[{ on := 6, ground := Ground.data }], guard := none }) (v := ?_) rfl (by kernel_rfl) (by kernel_rfl) (by kernel_rfl) (fun _ _ _ h => h) (Or.inl ⟨by rfl, ?_⟩) (by assumption) ?_
      rotate_left
      · (intro ww hSw; (try dsimp only at hSw); go_simp; try with_reducible rfl)
      (try simp only [Act.put, List.setIfInBounds_toArray, List.set_cons_zero, List.set_cons_succ])
      refine wpAnyH_take (i := 8) (oi := { dst := some 102, op := Op.extract (Operand.tmp 94) 1, type := 4, pos := "ref.go:83", after := #[{ on := 6, ground := Ground.data }, { on := 10, ground := Ground.gcOnly Departure.lateStores }], guard := none }) (v := ?_) rfl (by kernel_rfl) (by kernel_rfl) (by kernel_rfl) (fun _ _ _ h => h) (Or.inl ⟨by rfl, ?_⟩) (by assumption) ?_
      rotate_left
      · (intro ww hSw; (try dsimp only at hSw); go_simp; try with_reducible rfl)
      (try simp only [Act.put, List.setIfInBounds_toArray, List.set_cons_zero, List.set_cons_succ])
      refine wpAnyH_ready (rs := [10]) (by kernel_rfl) (by simp) ?_
      refine AllReadyH.cons (o := { dst := none, op := Op.store 42 (Operand.tmp 14) (Operand.tmp 101), type := 0, pos := "ref.go:83", after := #[{ on := 9, ground := Ground.data }, { on := 7, ground := Ground.data }, { on := 5, ground := Ground.chain }, { on := 0, ground := Ground.phase }, { on := 1, ground := Ground.phase }, { on := 2, ground := Ground.phase }, { on := 3, ground := Ground.phase }, { on := 4, ground := Ground.phase }, { on := 5, ground := Ground.phase }, { on := 6, ground := Ground.phase }, { on := 7, ground := Ground.phase }, { on := 8, ground := Ground.textOnly Departure.lateStores }, { on := 9, ground := Ground.phase }], guard := none }) rfl (fun K hK => ?_) AllReadyH.nil
      rw [if_pos (by rfl)]
      have hS := Bk.sets VF 0 _ _ hA
      rw [puts_whole ([.int .i64 0, .int .i64 0, .int .i64 0, .int .i64 0, .int .i64 0] : List Value).toArray VF (by have := HL_VF.out; simp; omega)] at hS
      refine wp_store_mid 42 _ _ rfl (wA).heap.size 0 VF.toArray rfl rfl (hA.there _ (by have := HL_VF.out; simp; omega)) (by simpa using HI_VF.out) HO_VF.out ?_
      refine hK.out _ _ (HKR.out _ ((And.left hHeld).1.sets hne hnw 0 VF)) (fun hHeld => ?_)
      clear hK K
      (try simp only [Act.put])
      refine wpAnyH_take (i := 11) (oi := { dst := some 15, op := Op.assign (Operand.tmp 102), type := 4, pos := "ref.go:83", after := #[{ on := 8, ground := Ground.data }, { on := 10, ground := Ground.chain }, { on := 0, ground := Ground.phase }, { on := 1, ground := Ground.phase }, { on := 2, ground := Ground.phase }, { on := 3, ground := Ground.phase }, { on := 4, ground := Ground.phase }, { on := 5, ground := Ground.phase }, { on := 6, ground := Ground.phase }, { on := 7, ground := Ground.phase }, { on := 8, ground := Ground.phase }, { on := 9, ground := Ground.phase }, { on := 10, ground := Ground.phase }], guard := none }) (v := ?_) rfl (by kernel_rfl) (by kernel_rfl) (by kernel_rfl) (fun _ _ _ h => h) (Or.inl ⟨by rfl, ?_⟩) (by assumption) ?_
      rotate_left
      · (intro ww hSw; (try dsimp only at hSw); go_simp; try with_reducible rfl)
      (try simp only [Act.put, List.setIfInBounds_toArray, List.set_cons_zero, List.set_cons_succ])
      refine wpAnyH_done (by kernel_rfl) ?_ _
      refine NoPanic.normal ?_
      have HK7 := Lib.hid (And.left hHeld).1
      have HSS := Lib.hid hS
      clear hHeld hS hA HKR
      generalize wB.setCells (wA).heap.size 0 VF = w7 at *
      generalize (wA).heap.size = gl at *
      have e2 : w7.cell? ⟨gl, 2, none⟩ = some (.int .i64 x.2.2.1) := HSS.out.at HF2.out
      have e3 : w7.cell? ⟨gl, 3, none⟩ = some (.int .i64 x.2.2.2.1) := HSS.out.at HF3.out
      have e4 : w7.cell? ⟨gl, 4, none⟩ = some (.int .i64 x.2.2.2.2) := HSS.out.at HF4.out
      have c3 : w7.cell? ⟨w.heap.size, 3, none⟩ = some (.string m.da) := HK7.out.tl.hd.at HM3.out
      have hkc := HK7.out.hd
      have htf := hkc.there 4 (by have := HL_V0.out; simp; omega)
      have HIN : Hid ((Tryd.prog.info? 24).map (·.size) = some ([.int .i64 x.2.2.1, .int .i64 x.2.2.2.1, .int .u32 x.2.2.2.2, .string m.da] : List Value).length) := Lib.hid (Tryd.infoMg (⟨x.2.2.1, x.2.2.2.1, x.2.2.2.2, m.da⟩ : Mg))
      go_wp2_with (((with_reducible (change wpList _ _ _ _ _ _)); ((refine wpList_store_mid rfl 24 _ _ rfl (w.heap.size + 1) 0 ([.int .i64 x.2.2.1, .int .i64 x.2.2.2.1, .int .u32 x.2.2.2.2, .string m.da] : List Value).toArray rfl rfl htf (by simpa using HIN.out) (by simp [Value.oneCell']) ?_))))
      have hk5 := Bk.sets [.int .i64 x.2.2.1, .int .i64 x.2.2.2.1, .int .u32 x.2.2.2.2, .string m.da] 0 _ _ hkc
      rw [puts_whole V0.toArray [.int .i64 x.2.2.1, .int .i64 x.2.2.2.1, .int .u32 x.2.2.2.2, .string m.da] (by have := HL_V0.out; simp; omega)] at hk5
      refine bodyPost_ret (v := .tuple #[.agg ([.int .i64 x.2.2.1, .int .i64 x.2.2.2.1, .int .u32 x.2.2.2.2, .string m.da] : List Value).toArray, .bool true]) ?_ rfl ?_
      · exact results_cell2 rfl rfl rfl (run_loadVar_mid _ (w.heap.size + 1) 0 24 [.int .i64 x.2.2.1, .int .i64 x.2.2.2.1, .int .u32 x.2.2.2.2, .string m.da] _ hk5.range Tryd.underlying24 rfl HIN.out)
      · rw [HS.out]
        exact ⟨rfl, below_sets _ (by omega) 0 _ HK7.out.2.1⟩
  · have hnw := (And.left hHeld).1.2.2
    have hne := fun x hx => (And.left hHeld).1.ne x hx
    go_simp
    refine hK.out _ _ (HKR.out _ ((And.left hHeld).1.alloc _)) (fun hHeld => ?_)
    clear hK K
    (try simp only [Act.put, List.setIfInBounds_toArray, List.set_cons_zero, List.set_cons_succ])
    have hA := bk_new (w1.drew) 42 ([.int .i64 0, .int .i64 0, .int .i64 0, .int .i64 0, .int .i64 0] : List Value).toArray
    refine wpAnyH_ready (rs := [3]) (by kernel_rfl) (by simp) ?_
    refine AllReadyH.cons (o := { dst := some 98, op := Op.call { callee := Callee.value (Operand.func 25), args := #[Operand.tmp 97], argTypes := #[3] }, type := 45, pos := "ref.go:83", after := #[{ on := 2, ground := Ground.data }], guard := none }) rfl (fun K hK => ?_) AllReadyH.nil
    go_simp
    ((with_reducible refine (rlines6_any _ _).mono ?_); rintro e wA ⟨vL, rfl, hLn, hb9⟩)
    refine hK.out _ _ (HKR.out _ ((And.left hHeld).1.below hb9 (Nat.le_refl _))) (fun hHeld => ?_)
    clear hK K
    (try simp only [Act.put, List.setIfInBounds_toArray, List.set_cons_zero, List.set_cons_succ])
    have hA := hA.below hb9 hA.lt
    refine wpAnyH_ready (rs := [5]) (by kernel_rfl) (by simp) ?_
    refine AllReadyH.cons (o := { dst := some 100, op := Op.call { callee := Callee.value (Operand.func 24), args := #[Operand.tmp 98, Operand.tmp 99], argTypes := #[45, 24] }, type := 43, pos := "ref.go:83", after := #[{ on := 3, ground := Ground.data }, { on := 4, ground := Ground.data }, { on := 3, ground := Ground.chain }], guard := none }) rfl (fun K hK => ?_) AllReadyH.nil
    go_simp
    ((with_reducible refine (CF.out _ _ hLn).mono ?_); rintro e wB ⟨rfl, hb9⟩)
    refine hK.out _ _ (HKR.out _ ((And.left hHeld).1.below hb9 (Nat.le_refl _))) (fun hHeld => ?_)
    clear hK K
    (try simp only [Act.put, List.setIfInBounds_toArray, List.set_cons_zero, List.set_cons_succ])
    have hA := hA.below hb9 hA.lt
    refine wpAnyH_take (i := 6) (oi := { dst := some 94, op := Op.move (Operand.tmp 100), type := 43, pos := "ref.go:83", after := #[{ on := 5, ground := Ground.data }], guard := none }) (v := ?_) rfl (by kernel_rfl) (by kernel_rfl) (by kernel_rfl) (fun _ _ _ h => h) (Or.inl ⟨by rfl, ?_⟩) (by assumption) ?_
    rotate_left
    · (intro ww hSw; (try dsimp only at hSw); go_simp; try with_reducible rfl)
    (try simp only [Act.put, List.setIfInBounds_toArray, List.set_cons_zero, List.set_cons_succ])
    refine wpAnyH_take (i := 7) (oi := { dst := some 101, op := Op.extract (Operand.tmp 94) 0, type := 42, pos := "ref.go:83", after := #[{ on := 6, ground := Ground.data }], guard := none }) (v := ?_) rfl (by kernel_rfl) (by kernel_rfl) (by kernel_rfl) (fun _ _ _ h => h) (Or.inl ⟨by rfl, ?_⟩) (by assumption) ?_
    rotate_left
    · (intro ww hSw; (try dsimp only at hSw); go_simp; try with_reducible rfl)
    (try simp only [Act.put, List.setIfInBounds_toArray, List.set_cons_zero, List.set_cons_succ])
    refine wpAnyH_take (i := 8) (oi := { dst := some 102, op := Op.extract (Operand.tmp 94) 1, type := 4, pos := "ref.go:83", after := #[{ on := 6, ground := Ground.data }, { on := 10, ground := Ground.gcOnly Departure.lateStores }], guard := none }) (v := ?_) rfl (by kernel_rfl) (by kernel_rfl) (by kernel_rfl) (fun _ _ _ h => h) (Or.inl ⟨by rfl, ?_⟩) (by assumption) ?_
    rotate_left
    · (intro ww hSw; (try dsimp only at hSw); go_simp; try with_reducible rfl)
    (try simp only [Act.put, List.setIfInBounds_toArray, List.set_cons_zero, List.set_cons_succ])
    refine wpAnyH_ready (rs := [10]) (by kernel_rfl) (by simp) ?_
    refine AllReadyH.cons (o := { dst := none, op := Op.store 42 (Operand.tmp 14) (Operand.tmp 101), type := 0, pos := "ref.go:83", after := #[{ on := 9, ground := Ground.data }, { on := 7, ground := Ground.data }, { on := 5, ground := Ground.chain }, { on := 0, ground := Ground.phase }, { on := 1, ground := Ground.phase }, { on := 2, ground := Ground.phase }, { on := 3, ground := Ground.phase }, { on := 4, ground := Ground.phase }, { on := 5, ground := Ground.phase }, { on := 6, ground := Ground.phase }, { on := 7, ground := Ground.phase }, { on := 8, ground := Ground.textOnly Departure.lateStores }, { on := 9, ground := Ground.phase }], guard := none }) rfl (fun K hK => ?_) AllReadyH.nil
    rw [if_pos (by rfl)]
    have hS := Bk.sets VF 0 _ _ hA
    rw [puts_whole ([.int .i64 0, .int .i64 0, .int .i64 0, .int .i64 0, .int .i64 0] : List Value).toArray VF (by have := HL_VF.out; simp; omega)] at hS
    refine wp_store_mid 42 _ _ rfl (w1.drew).heap.size 0 VF.toArray rfl rfl (hA.there _ (by have := HL_VF.out; simp; omega)) (by simpa using HI_VF.out) HO_VF.out ?_
    refine hK.out _ _ (HKR.out _ ((And.left hHeld).1.sets hne hnw 0 VF)) (fun hHeld => ?_)
    clear hK K
    (try simp only [Act.put])
    refine wpAnyH_take (i := 11) (oi := { dst := some 15, op := Op.assign (Operand.tmp 102), type := 4, pos := "ref.go:83", after := #[{ on := 8, ground := Ground.data }, { on := 10, ground := Ground.chain }, { on := 0, ground := Ground.phase }, { on := 1, ground := Ground.phase }, { on := 2, ground := Ground.phase }, { on := 3, ground := Ground.phase }, { on := 4, ground := Ground.phase }, { on := 5, ground := Ground.phase }, { on := 6, ground := Ground.phase }, { on := 7, ground := Ground.phase }, { on := 8, ground := Ground.phase }, { on := 9, ground := Ground.phase }, { on := 10, ground := Ground.phase }], guard := none }) (v := ?_) rfl (by kernel_rfl) (by kernel_rfl) (by kernel_rfl) (fun _ _ _ h => h) (Or.inl ⟨by rfl, ?_⟩) (by assumption) ?_
    rotate_left
    · (intro ww hSw; (try dsimp only at hSw); go_simp; try with_reducible rfl)
    (try simp only [Act.put, List.setIfInBounds_toArray, List.set_cons_zero, List.set_cons_succ])
    refine wpAnyH_done (by kernel_rfl) ?_ _
    refine NoPanic.normal ?_
    have HK7 := Lib.hid (And.left hHeld).1
    have HSS := Lib.hid hS
    clear hHeld hS hA HKR
    generalize wB.setCells (w1.drew).heap.size 0 VF = w7 at *
    rw [show (w1.drew).heap.size = w1.heap.size from rfl] at HSS
    generalize w1.heap.size = gl at *
    have e2 : w7.cell? ⟨gl, 2, none⟩ = some (.int .i64 x.2.2.1) := HSS.out.at HF2.out
    have e3 : w7.cell? ⟨gl, 3, none⟩ = some (.int .i64 x.2.2.2.1) := HSS.out.at HF3.out
    have e4 : w7.cell? ⟨gl, 4, none⟩ = some (.int .i64 x.2.2.2.2) := HSS.out.at HF4.out
    have c3 : w7.cell? ⟨w.heap.size, 3, none⟩ = some (.string m.da) := HK7.out.tl.hd.at HM3.out
    have hkc := HK7.out.hd
    have htf := hkc.there 4 (by have := HL_V0.out; simp; omega)
    have HIN : Hid ((Tryd.prog.info? 24).map (·.size) = some ([.int .i64 x.2.2.1, .int .i64 x.2.2.2.1, .int .u32 x.2.2.2.2, .string m.da] : List Value).length) := Lib.hid (Tryd.infoMg (⟨x.2.2.1, x.2.2.2.1, x.2.2.2.2, m.da⟩ : Mg))
    go_wp2_with (((with_reducible (change wpList _ _ _ _ _ _)); ((refine wpList_store_mid rfl 24 _ _ rfl (w.heap.size + 1) 0 ([.int .i64 x.2.2.1, .int .i64 x.2.2.2.1, .int .u32 x.2.2.2.2, .string m.da] : List Value).toArray rfl rfl htf (by simpa using HIN.out) (by simp [Value.oneCell']) ?_))))
    have hk5 := Bk.sets [.int .i64 x.2.2.1, .int .i64 x.2.2.2.1, .int .u32 x.2.2.2.2, .string m.da] 0 _ _ hkc
    rw [puts_whole V0.toArray [.int .i64 x.2.2.1, .int .i64 x.2.2.2.1, .int .u32 x.2.2.2.2, .string m.da] (by have := HL_V0.out; simp; omega)] at hk5
    refine bodyPost_ret (v := .tuple #[.agg ([.int .i64 x.2.2.1, .int .i64 x.2.2.2.1, .int .u32 x.2.2.2.2, .string m.da] : List Value).toArray, .bool true]) ?_ rfl ?_
    · exact results_cell2 rfl rfl rfl (run_loadVar_mid _ (w.heap.size + 1) 0 24 [.int .i64 x.2.2.1, .int .i64 x.2.2.2.1, .int .u32 x.2.2.2.2, .string m.da] _ hk5.range Tryd.underlying24 rfl HIN.out)
    · rw [HS.out]
      exact ⟨rfl, below_sets _ (by omega) 0 _ HK7.out.2.1⟩
set_option maxRecDepth 100000 in
set_option maxHeartbeats 4000000 in
theorem rsix_tabB_none (m : Mg) (a b len : Int) (w : World) (hr : 0 ≤ m.rs ∧ m.rs < 4294967296) (hb : mtus a b = true) (g1 : m.kd = 3) (g2 : m.cd ≠ 4) (hf : findL (ln6 m.rs) m.kd m.cd = none) : Calls Tryd.prog 15 #[.agg m.vals.toArray, .int .i64 a, .int .i64 b, .int .i64 len] w (fun e w' => e = .returned (.tuple #[.agg (six m a b len).1.vals.toArray, .bool (six m a b len).2]) ∧ Below w.heap.size w w') := by
  have HS : Hid (six m a b len = (mg0, false)) := Lib.hid (by unfold six; rw [hb, if_neg (by simp), if_neg (by omega), if_neg (by omega), hf]; rfl)
  have HBn : Hid (∀ W, Calls Tryd.prog 23 #[.int .i64 a, .int .i64 b] W fun e w' => e = .returned (.bool true) ∧ W = w') := Lib.hid (fun W => by rw [← hb]; exact rbounds_any a b W)
  clear hb
  obtain ⟨VF, hVF⟩ : ∃ V, V = lnv ln0 := ⟨_, rfl⟩
  have CF : Hid (∀ (W : World) (v : Value), Lns W v (ln6 m.rs) → Calls Tryd.prog 24 #[v, .agg m.vals.toArray] W fun e w' => e = .returned (.tuple #[.agg VF.toArray, .bool false]) ∧ Below W.heap.size W w') := Lib.hid (fun W v hx => by
    have h := rfind_any v (ln6 m.rs) m W hx (by show 18 ≤ 1000; omega)
    rw [hf] at h
    rw [hVF]
    exact h)
  have HI_VF : Hid ((Tryd.prog.info? 42).map (·.size) = some VF.length) := Lib.hid (by rw [hVF]; exact Tryd.sizeLn _)
  have HO_VF : Hid (VF.toArray.all (·.oneCell') = true) := Lib.hid (by rw [hVF]; exact lnv_one _)
  have HL_VF : Hid (VF.length = 5) := Lib.hid (by rw [hVF]; rfl)
  clear hVF hf
  have k4 : (m.cd == 4) = false := by rw [beq_eq_false_iff_ne]; exact g2
  have kid : IntKind.i64.wrap m.rs = m.rs := IntWalk.i64_in _ (by omega)
  obtain ⟨V0, hV0⟩ : ∃ V, V = mg0.vals := ⟨_, rfl⟩
  have HB0 : Hid (∀ W, (Instr.build 24 #[]).run Tryd.prog W = .ok (.agg V0.toArray) W) := Lib.hid (fun W => by rw [hV0]; exact mgBuild W)
  have HI_V0 : Hid ((Tryd.prog.info? 24).map (·.size) = some V0.length) := Lib.hid (by rw [hV0]; exact Tryd.infoMg _)
  have HO_V0 : Hid (V0.toArray.all (·.oneCell') = true) := Lib.hid (by rw [hV0]; exact mg_one _)
  have HL_V0 : Hid (V0.length = 4) := Lib.hid (by rw [hV0]; rfl)
  have hz0 : V0.toArray = #[.int .i64 0, .int .i64 0, .int .u32 0, .string ⟨#[]⟩] := by rw [hV0]; rfl
  have HV0 := Lib.hid hV0
  clear hV0
  have HI_VM : Hid ((Tryd.prog.info? 24).map (·.size) = some m.vals.length) := Lib.hid (Tryd.infoMg _)
  have HM0 : Hid (m.vals[0]? = some (.int .i64 3)) := Lib.hid (by rw [← g1]; rfl)
  have HM1 : Hid (m.vals[1]? = some (.int .i64 m.cd)) := Lib.hid (by exact rfl)
  have HM2 : Hid (m.vals[2]? = some (.int .u32 m.rs)) := Lib.hid (by exact rfl)
  have HM3 : Hid (m.vals[3]? = some (.string m.da)) := Lib.hid (by exact rfl)
  have HK1 : Hid (Kp w w.heap.size [(w.heap.size + 1, 24, V0), (w.heap.size, 24, m.vals)] ((w.alloc (.cells m.vals.toArray 24)).alloc (.cells V0.toArray 24))) := Lib.hid (by
    have h := (Kp.start w).new 24 m.vals
    have e1 : (w.alloc (.cells m.vals.toArray 24)).heap.size = w.heap.size + 1 := by simp
    have h2 := h.new 24 V0
    rwa [e1] at h2)
  generalize m.vals = VM at *
  generalize hw1 : (w.alloc (.cells VM.toArray 24)).alloc (.cells V0.toArray 24) = w1 at *
  rw [hz0] at hw1
  go_enter Tryd.func15, Tryd.ntmps15
  go_upto_region 1 with (fail)
  clear hw1 hz0
  go_wp2_with (fail)
  refine (HBn.out _).mono ?_
  rintro e w99 ⟨rfl, rfl⟩
  have c0 : w1.cell? ⟨w.heap.size, 0, none⟩ = some (.int .i64 3) := HK1.out.tl.hd.at HM0.out
  have c1 : w1.cell? ⟨w.heap.size, 1, none⟩ = some (.int .i64 m.cd) := HK1.out.tl.hd.at HM1.out
  go_upto_region 21 with (fail)
  clear c0 c1
  have HKR : Hid (∀ W : World, Kp w w.heap.size [(w.heap.size + 1, 24, V0), (w.heap.size, 24, VM)] W → (fun w' => (Kp w w.heap.size [(w.heap.size + 1, 24, V0), (w.heap.size, 24, VM)] w' ∧ w'.rangeAt (w.heap.size) 0 VM) ∧ w'.cell? ⟨w.heap.size, 2, none⟩ = some (.int .u32 m.rs)) W) := Lib.hid (fun W h => ⟨⟨h, h.tl.hd.range⟩, h.tl.hd.at HM2.out⟩)
  refine wp_region_noPanic ?_
  refine wp_region_held_drew (S := fun w' => (Kp w w.heap.size [(w.heap.size + 1, 24, V0), (w.heap.size, 24, VM)] w' ∧ w'.rangeAt (w.heap.size) 0 VM) ∧ w'.cell? ⟨w.heap.size, 2, none⟩ = some (.int .u32 m.rs)) (by kernel_rfl) (HKR.out _ HK1.out.drew) (fun hHeld => ?_)
  refine wpAnyH_take (i := 0) (oi := { dst := some 95, op := Op.fieldAddr 24 (Operand.tmp 4) 2, type := 0, pos := "ref.go:83", after := #[], guard := none }) (v := ?_) rfl (by kernel_rfl) (by kernel_rfl) (by kernel_rfl) (fun _ _ _ h => h) (Or.inl ⟨by rfl, ?_⟩) (by assumption) ?_
  rotate_left
  · (intro ww hSw; (try dsimp only at hSw); go_simp; try with_reducible rfl)
  (try simp only [Act.put, List.setIfInBounds_toArray, List.set_cons_zero, List.set_cons_succ])
  refine wpAnyH_take (i := 1) (oi := { dst := some 96, op := Op.load 22 (Operand.tmp 95), type := 22, pos := "ref.go:83", after := #[{ on := 0, ground := Ground.data }], guard := none }) (v := ?_) rfl (by kernel_rfl) (by kernel_rfl) (by kernel_rfl) (fun _ _ _ h => h) (Or.inl ⟨by rfl, ?_⟩) (by assumption) ?_
  rotate_left
  · (intro ww hSw; (try dsimp only at hSw); go_simp; try with_reducible rfl)
  (try simp only [Act.put, List.setIfInBounds_toArray, List.set_cons_zero, List.set_cons_succ])
  refine wpAnyH_take (i := 2) (oi := { dst := some 97, op := Op.convert 22 3 (Operand.tmp 96), type := 3, pos := "ref.go:83", after := #[{ on := 1, ground := Ground.data }], guard := none }) (v := ?_) rfl (by kernel_rfl) (by kernel_rfl) (by kernel_rfl) (fun _ _ _ h => h) (Or.inl ⟨by rfl, ?_⟩) (by assumption) ?_
  rotate_left
  · (intro ww hSw; (try dsimp only at hSw); go_simp; try with_reducible rfl)
  (try simp only [Act.put, List.setIfInBounds_toArray, List.set_cons_zero, List.set_cons_succ])
  refine wpAnyH_take (i := 4) (oi := { dst := some 99, op := Op.load 24 (Operand.tmp 4), type := 24, pos := "ref.go:83", after := #[], guard := none }) (v := .agg (VM).toArray) rfl (by kernel_rfl) (by kernel_rfl) (by kernel_rfl) (fun _ _ _ h => h) (yieldsIf_load_mid (by rfl) _ _ rfl (w.heap.size) 0 rfl (VM) _ (fun ww hSw => (And.left hSw).2) Tryd.underlying24 rfl HI_VM.out) (by assumption) ?_
  (try simp only [Act.put, List.setIfInBounds_toArray, List.set_cons_zero, List.set_cons_succ])
  refine wpAnyH_ready (rs := [3, 9]) (by kernel_rfl) (by simp) ?_
  refine AllReadyH.cons (o := { dst := some 98, op := Op.call { callee := Callee.value (Operand.func 25), args := #[Operand.tmp 97], argTypes := #[3] }, type := 45, pos := "ref.go:83", after := #[{ on := 2, ground := Ground.data }], guard := none }) rfl (fun K hK => ?_) (AllReadyH.cons (o := { dst := some 14, op := Op.alloc 42, type := 0, pos := "ref.go:83", after := #[], guard := none }) rfl (fun K hK => ?_) AllReadyH.nil)
  · go_simp
    ((with_reducible refine (rlines6_any _ _).mono ?_); rintro e wA ⟨vL, rfl, hLn, hb9⟩)
    refine hK.out _ _ (HKR.out _ ((And.left hHeld).1.below hb9 (Nat.le_refl _))) (fun hHeld => ?_)
    clear hK K
    (try simp only [Act.put, List.setIfInBounds_toArray, List.set_cons_zero, List.set_cons_succ])
    refine wpAnyH_ready (rs := [5, 9]) (by kernel_rfl) (by simp) ?_
    refine AllReadyH.cons (o := { dst := some 100, op := Op.call { callee := Callee.value (Operand.func 24), args := #[Operand.tmp 98, Operand.tmp 99], argTypes := #[45, 24] }, type := 43, pos := "ref.go:83", after := #[{ on := 3, ground := Ground.data }, { on := 4, ground := Ground.data }, { on := 3, ground := Ground.chain }], guard := none }) rfl (fun K hK => ?_) (AllReadyH.cons (o := { dst := some 14, op := Op.alloc 42, type := 0, pos := "ref.go:83", after := #[], guard := none }) rfl (fun K hK => ?_) AllReadyH.nil)
    · go_simp
      ((with_reducible refine (CF.out _ _ hLn).mono ?_); rintro e wB ⟨rfl, hb9⟩)
      refine hK.out _ _ (HKR.out _ ((And.left hHeld).1.below hb9 (Nat.le_refl _))) (fun hHeld => ?_)
      clear hK K
      (try simp only [Act.put, List.setIfInBounds_toArray, List.set_cons_zero, List.set_cons_succ])
      refine wpAnyH_take (i := 6) (oi := { dst := some 94, op := Op.move (Operand.tmp 100), type := 43, pos := "ref.go:83", after := #[{ on := 5, ground := Ground.data }], guard := none }) (v := ?_) rfl (by kernel_rfl) (by kernel_rfl) (by kernel_rfl) (fun _ _ _ h => h) (Or.inl ⟨by rfl, ?_⟩) (by assumption) ?_
      rotate_left
      · (intro ww hSw; (try dsimp only at hSw); go_simp; try with_reducible rfl)
      (try simp only [Act.put, List.setIfInBounds_toArray, List.set_cons_zero, List.set_cons_succ])
      refine wpAnyH_take (i := 7) (oi := { dst := some 101, op := Op.extract (Operand.tmp 94) 0, type := 42, pos := "ref.go:83", after := #[{ on := 6, ground := Ground.data }], guard := none }) (v := ?_) rfl (by kernel_rfl) (by kernel_rfl) (by kernel_rfl) (fun _ _ _ h => h) (Or.inl ⟨by rfl, ?_⟩) (by assumption) ?_
      rotate_left
      · (intro ww hSw; (try dsimp only at hSw); go_simp; try with_reducible rfl)
      (try simp only [Act.put, List.setIfInBounds_toArray, List.set_cons_zero, List.set_cons_succ])
      refine wpAnyH_take (i := 8) (oi := { dst := some 102, op := Op.extract (Operand.tmp 94) 1, type := 4, pos := "ref.go:83", after := #[{ on := 6, ground := Ground.data }, { on := 10, ground := Ground.gcOnly Departure.lateStores }], guard := none }) (v := ?_) rfl (by kernel_rfl) (by kernel_rfl) (by kernel_rfl) (fun _ _ _ h => h) (Or.inl ⟨by rfl, ?_⟩) (by assumption) ?_
      rotate_left
      · (intro ww hSw; (try dsimp only at hSw); go_simp; try with_reducible rfl)
      (try simp only [Act.put, List.setIfInBounds_toArray, List.set_cons_zero, List.set_cons_succ])
      refine wpAnyH_ready (rs := [9]) (by kernel_rfl) (by simp) ?_
      refine AllReadyH.cons (o := { dst := some 14, op := Op.alloc 42, type := 0, pos := "ref.go:83", after := #[], guard := none }) rfl (fun K hK => ?_) AllReadyH.nil
      have hnw := (And.left hHeld).1.2.2
      have hne := fun x hx => (And.left hHeld).1.ne x hx
      go_simp
      refine hK.out _ _ (HKR.out _ ((And.left hHeld).1.alloc _)) (fun hHeld => ?_)
      clear hK K
      (try simp only [Act.put, List.setIfInBounds_toArray, List.set_cons_zero, List.set_cons_succ])
      have hA := bk_new (wB) 42 ([.int .i64 0, .int .i64 0, .int .i64 0, .int .i64 0, .int .i64 0] : List Value).toArray
      refine wpAnyH_ready (rs := [10]) (by kernel_rfl) (by simp) ?_
      refine AllReadyH.cons (o := { dst := none, op := Op.store 42 (Operand.tmp 14) (Operand.tmp 101), type := 0, pos := "ref.go:83", after := #[{ on := 9, ground := Ground.data }, { on := 7, ground := Ground.data }, { on := 5, ground := Ground.chain }, { on := 0, ground := Ground.phase }, { on := 1, ground := Ground.phase }, { on := 2, ground := Ground.phase }, { on := 3, ground := Ground.phase }, { on := 4, ground := Ground.phase }, { on := 5, ground := Ground.phase }, { on := 6, ground := Ground.phase }, { on := 7, ground := Ground.phase }, { on := 8, ground := Ground.textOnly Departure.lateStores }, { on := 9, ground := Ground.phase }], guard := none }) rfl (fun K hK => ?_) AllReadyH.nil
      rw [if_pos (by rfl)]
      have hS := Bk.sets VF 0 _ _ hA
      rw [puts_whole ([.int .i64 0, .int .i64 0, .int .i64 0, .int .i64 0, .int .i64 0] : List Value).toArray VF (by have := HL_VF.out; simp; omega)] at hS
      refine wp_store_mid 42 _ _ rfl (wB).heap.size 0 VF.toArray rfl rfl (hA.there _ (by have := HL_VF.out; simp; omega)) (by simpa using HI_VF.out) HO_VF.out ?_
      refine hK.out _ _ (HKR.out _ ((And.left hHeld).1.sets hne hnw 0 VF)) (fun hHeld => ?_)
      clear hK K
      (try simp only [Act.put])
      refine wpAnyH_take (i := 11) (oi := { dst := some 15, op := Op.assign (Operand.tmp 102), type := 4, pos := "ref.go:83", after := #[{ on := 8, ground := Ground.data }, { on := 10, ground := Ground.chain }, { on := 0, ground := Ground.phase }, { on := 1, ground := Ground.phase }, { on := 2, ground := Ground.phase }, { on := 3, ground := Ground.phase }, { on := 4, ground := Ground.phase }, { on := 5, ground := Ground.phase }, { on := 6, ground := Ground.phase }, { on := 7, ground := Ground.phase }, { on := 8, ground := Ground.phase }, { on := 9, ground := Ground.phase }, { on := 10, ground := Ground.phase }], guard := none }) (v := ?_) rfl (by kernel_rfl) (by kernel_rfl) (by kernel_rfl) (fun _ _ _ h => h) (Or.inl ⟨by rfl, ?_⟩) (by assumption) ?_
      rotate_left
      · (intro ww hSw; (try dsimp only at hSw); go_simp; try with_reducible rfl)
      (try simp only [Act.put, List.setIfInBounds_toArray, List.set_cons_zero, List.set_cons_succ])
      refine wpAnyH_done (by kernel_rfl) ?_ _
      refine NoPanic.normal ?_
      have HK7 := Lib.hid (And.left hHeld).1
      have HSS := Lib.hid hS
      clear hHeld hS hA HKR
      generalize (wB.alloc (.cells ([.int .i64 0, .int .i64 0, .int .i64 0, .int .i64 0, .int .i64 0] : List Value).toArray 42)).setCells (wB).heap.size 0 VF = w7 at *
      generalize (wB).heap.size = gl at *
      have hkc := HK7.out.hd
      have htf := hkc.there V0.toArray.size (Nat.le_refl _)
      go_wp2_with (((with_reducible (change wpList _ _ _ _ _ _)); (first | (refine Great.wpList_readTo rfl _ rfl (.agg V0.toArray) (run_execN (T := 24) (l := #[]) (m := #[]) rfl (by simp) (HB0.out _)) ?_) | (refine wpList_store_mid rfl 24 _ _ rfl (w.heap.size + 1) 0 V0.toArray rfl rfl htf (by simpa using HI_V0.out) HO_V0.out ?_))))
      have hk5 := Bk.sets V0 0 _ _ hkc
      rw [puts_whole V0.toArray V0 (by simp)] at hk5
      refine bodyPost_ret (v := .tuple #[.agg V0.toArray, .bool false]) ?_ rfl ?_
      · exact results_cell2 rfl rfl rfl (run_loadVar_mid _ (w.heap.size + 1) 0 24 V0 _ hk5.range Tryd.underlying24 rfl HI_V0.out)
      · rw [HS.out]
        exact ⟨by rw [HV0.out], below_sets _ (by omega) 0 _ HK7.out.2.1⟩
    · have hnw := (And.left hHeld).1.2.2
      have hne := fun x hx => (And.left hHeld).1.ne x hx
      go_simp
      refine hK.out _ _ (HKR.out _ ((And.left hHeld).1.alloc _)) (fun hHeld => ?_)
      clear hK K
      (try simp only [Act.put, List.setIfInBounds_toArray, List.set_cons_zero, List.set_cons_succ])
      have hA := bk_new (wA) 42 ([.int .i64 0, .int .i64 0, .int .i64 0, .int .i64 0, .int .i64 0] : List Value).toArray
      have hLn := hLn.below ((Below.refl _ _).alloc (Nat.le_refl _) (.cells ([.int .i64 0, .int .i64 0, .int .i64 0, .int .i64 0, .int .i64 0] : List Value).toArray 42))
      refine wpAnyH_ready (rs := [5]) (by kernel_rfl) (by simp) ?_
      refine AllReadyH.cons (o := { dst := some 100, op := Op.call { callee := Callee.value (Operand.func 24), args := #[Operand.tmp 98, Operand.tmp 99], argTypes := #[45, 24] }, type := 43, pos := "ref.go:83", after := #[{ on := 3, ground := Ground.data }, { on := 4, ground := Ground.data }, { on := 3, ground := Ground.chain }], guard := none }) rfl (fun K hK => ?_) AllReadyH.nil
      go_simp
      ((with_reducible refine (CF.out _ _ hLn).mono ?_); rintro e wB ⟨rfl, hb9⟩)
      refine hK.out _ _ (HKR.out _ ((And.left hHeld).1.below hb9 (Nat.le_refl _))) (fun hHeld => ?_)
      clear hK K
      (try simp only [Act.put, List.setIfInBounds_toArray, List.set_cons_zero, List.set_cons_succ])
      have hA := hA.below hb9 hA.lt
      refine wpAnyH_take (i := 6) (oi := { dst := some 94, op := Op.move (Operand.tmp 100), type := 43, pos := "ref.go:83", after := #[{ on := 5, ground := Ground.data }], guard := none }) (v := ?_) rfl (by kernel_rfl) (by kernel_rfl) (by kernel_rfl) (fun _ _ _ h => h) (Or.inl ⟨by rfl, ?_⟩) (by assumption) ?_
      rotate_left
      · (intro ww hSw; (try dsimp only at hSw); go_simp; try with_reducible rfl)
      (try simp only [Act.put, List.setIfInBounds_toArray, List.set_cons_zero, List.set_cons_succ])
      refine wpAnyH_take (i := 7) (oi := { dst := some 101, op := Op.extract (Operand.tmp 94) 0, type := 42, pos := "ref.go:83", after := #[{ on := 6, ground := Ground.data }], guard := none }) (v := ?_) rfl (by kernel_rfl) (by kernel_rfl) (by kernel_rfl) (fun _ _ _ h => h) (Or.inl ⟨by rfl, ?_⟩) (by assumption) ?_
      rotate_left
      · (intro ww hSw; (try dsimp only at hSw); go_simp; try with_reducible rfl)
      (try simp only [Act.put, List.setIfInBounds_toArray, List.set_cons_zero, List.set_cons_succ])
      refine wpAnyH_take (i := 8) (oi := { dst := some 102, op := Op.extract (Operand.tmp 94) 1, type := 4, pos := "ref.go:83", after := #[{ on := 6, ground := Ground.data }, { on := 10, ground := Ground.gcOnly Departure.lateStores }], guard := none }) (v := ?_) rfl (by kernel_rfl) (by kernel_rfl) (by kernel_rfl) (fun _ _ _ h => h) (Or.inl ⟨by rfl, ?_⟩) (by assumption) ?_
      rotate_left
      · (intro ww hSw; (try dsimp only at hSw); go_simp; try with_reducible rfl)
      (try simp only [Act.put, List.setIfInBounds_toArray, List.set_cons_zero, List.set_cons_succ])
      refine wpAnyH_ready (rs := [10]) (by kernel_rfl) (by simp) ?_
      refine AllReadyH.cons (o := { dst := none, op := Op.store 42 (Operand.tmp 14) (Operand.tmp 101), type := 0, pos := "ref.go:83", after := #[{ on := 9, ground := Ground.data }, { on := 7, ground := Ground.data }, { on := 5, ground := Ground.chain }, { on := 0, ground := Ground.phase }, { on := 1, ground := Ground.phase }, { on := 2, ground := Ground.phase }, { on := 3, ground := Ground.phase }, { on := 4, ground := Ground.phase }, { on := 5, ground := Ground.phase }, { on := 6, ground := Ground.phase }, { on := 7, ground := Ground.phase }, { on := 8, ground := Ground.textOnly Departure.lateStores }, { on := 9, ground := Ground.phase }], guard := none }) rfl (fun K hK => ?_) AllReadyH.nil
      rw [if_pos (by rfl)]
      have hS := Bk.sets VF 0 _ _ hA
      rw [puts_whole ([.int .i64 0, .int .i64 0, .int .i64 0, .int .i64 0, .int .i64 0] : List Value).toArray VF (by have := HL_VF.out; simp; omega)] at hS
      refine wp_store_mid 42 _ _ rfl (wA).heap.size 0 VF.toArray rfl rfl (hA.there _ (by have := HL_VF.out; simp; omega)) (by simpa using HI_VF.out) HO_VF.out ?_
      refine hK.out _ _ (HKR.out _ ((And.left hHeld).1.sets hne hnw 0 VF)) (fun hHeld => ?_)
      clear hK K
      (try simp only [Act.put])
      refine wpAnyH_take (i := 11) (oi := { dst := some 15, op := Op.assign (Operand.tmp 102), type := 4, pos := "ref.go:83", after := #[{ on := 8, ground := Ground.data }, { on := 10, ground := Ground.chain }, { on := 0, ground := Ground.phase }, { on := 1, ground := Ground.phase }, { on := 2, ground := Ground.phase }, { on := 3, ground := Ground.phase }, { on := 4, ground := Ground.phase }, { on := 5, ground := Ground.phase }, { on := 6, ground := Ground.phase }, { on := 7, ground := Ground.phase }, { on := 8, ground := Ground.phase }, { on := 9, ground := Ground.phase }, { on := 10, ground := Ground.phase }], guard := none }) (v := ?_) rfl (by kernel_rfl) (by kernel_rfl) (by kernel_rfl) (fun _ _ _ h => h) (Or.inl ⟨by rfl, ?_⟩) (by assumption) ?_
      rotate_left
      · (intro ww hSw; (try dsimp only at hSw); go_simp; try with_reducible rfl)
      (try simp only [Act.put, List.setIfInBounds_toArray, List.set_cons_zero, List.set_cons_succ])
      refine wpAnyH_done (by kernel_rfl) ?_ _
      refine NoPanic.normal ?_
      have HK7 := Lib.hid (And.left hHeld).1
      have HSS := Lib.hid hS
      clear hHeld hS hA HKR
      generalize wB.setCells (wA).heap.size 0 VF = w7 at *
      generalize (wA).heap.size = gl at *
      have hkc := HK7.out.hd
      have htf := hkc.there V0.toArray.size (Nat.le_refl _)
      go_wp2_with (((with_reducible (change wpList _ _ _ _ _ _)); (first | (refine Great.wpList_readTo rfl _ rfl (.agg V0.toArray) (run_execN (T := 24) (l := #[]) (m := #[]) rfl (by simp) (HB0.out _)) ?_) | (refine wpList_store_mid rfl 24 _ _ rfl (w.heap.size + 1) 0 V0.toArray rfl rfl htf (by simpa using HI_V0.out) HO_V0.out ?_))))
      have hk5 := Bk.sets V0 0 _ _ hkc
      rw [puts_whole V0.toArray V0 (by simp)] at hk5
      refine bodyPost_ret (v := .tuple #[.agg V0.toArray, .bool false]) ?_ rfl ?_
      · exact results_cell2 rfl rfl rfl (run_loadVar_mid _ (w.heap.size + 1) 0 24 V0 _ hk5.range Tryd.underlying24 rfl HI_V0.out)
      · rw [HS.out]
        exact ⟨by rw [HV0.out], below_sets _ (by omega) 0 _ HK7.out.2.1⟩
  · have hnw := (And.left hHeld).1.2.2
    have hne := fun x hx => (And.left hHeld).1.ne x hx
    go_simp
    refine hK.out _ _ (HKR.out _ ((And.left hHeld).1.alloc _)) (fun hHeld => ?_)
    clear hK K
    (try simp only [Act.put, List.setIfInBounds_toArray, List.set_cons_zero, List.set_cons_succ])
    have hA := bk_new (w1.drew) 42 ([.int .i64 0, .int .i64 0, .int .i64 0, .int .i64 0, .int .i64 0] : List Value).toArray
    refine wpAnyH_ready (rs := [3]) (by kernel_rfl) (by simp) ?_
    refine AllReadyH.cons (o := { dst := some 98, op := Op.call { callee := Callee.value (Operand.func 25), args := #[Operand.tmp 97], argTypes := #[3] }, type := 45, pos := "ref.go:83", after := #[{ on := 2, ground := Ground.data }], guard := none }) rfl (fun K hK => ?_) AllReadyH.nil
    go_simp
    ((with_reducible refine (rlines6_any _ _).mono ?_); rintro e wA ⟨vL, rfl, hLn, hb9⟩)
    refine hK.out _ _ (HKR.out _ ((And.left hHeld).1.below hb9 (Nat.le_refl _))) (fun hHeld => ?_)
    clear hK K
    (try simp only [Act.put, List.setIfInBounds_toArray, List.set_cons_zero, List.set_cons_succ])
    have hA := hA.below hb9 hA.lt
    refine wpAnyH_ready (rs := [5]) (by kernel_rfl) (by simp) ?_
    refine AllReadyH.cons (o := { dst := some 100, op := Op.call { callee := Callee.value (Operand.func 24), args := #[Operand.tmp 98, Operand.tmp 99], argTypes := #[45, 24] }, type := 43, pos := "ref.go:83", after := #[{ on := 3, ground := Ground.data }, { on := 4, ground := Ground.data }, { on := 3, ground := Ground.chain }], guard := none }) rfl (fun K hK => ?_) AllReadyH.nil
    go_simp
    ((with_reducible refine (CF.out _ _ hLn).mono ?_); rintro e wB ⟨rfl, hb9⟩)
    refine hK.out _ _ (HKR.out _ ((And.left hHeld).1.below hb9 (Nat.le_refl _))) (fun hHeld => ?_)
    clear hK K
    (try simp only [Act.put, List.setIfInBounds_toArray, List.set_cons_zero, List.set_cons_succ])
    have hA := hA.below hb9 hA.lt
    refine wpAnyH_take (i := 6) (oi := { dst := some 94, op := Op.move (Operand.tmp 100), type := 43, pos := "ref.go:83", after := #[{ on := 5, ground := Ground.data }], guard := none }) (v := ?_) rfl (by kernel_rfl) (by kernel_rfl) (by kernel_rfl) (fun _ _ _ h => h) (Or.inl ⟨by rfl, ?_⟩) (by assumption) ?_
    rotate_left
    · (intro ww hSw; (try dsimp only at hSw); go_simp; try with_reducible rfl)
    (try simp only [Act.put, List.setIfInBounds_toArray, List.set_cons_zero, List.set_cons_succ])
    refine wpAnyH_take (i := 7) (oi := { dst := some 101, op := Op.extract (Operand.tmp 94) 0, type := 42, pos := "ref.go:83", after := #[{ on := 6, ground := Ground.data }], guard := none }) (v := ?_) rfl (by kernel_rfl) (by kernel_rfl) (by kernel_rfl) (fun _ _ _ h => h) (Or.inl ⟨by rfl, ?_⟩) (by assumption) ?_
    rotate_left
    · (intro ww hSw; (try dsimp only at hSw); go_simp; try with_reducible rfl)
    (try simp only [Act.put, List.setIfInBounds_toArray, List.set_cons_zero, List.set_cons_succ])
    refine wpAnyH_take (i := 8) (oi := { dst := some 102, op := Op.extract (Operand.tmp 94) 1, type := 4, pos := "ref.go:83", after := #[{ on := 6, ground := Ground.data }, { on := 10, ground := Ground.gcOnly Departure.lateStores }], guard := none }) (v := ?_) rfl (by kernel_rfl) (by kernel_rfl) (by kernel_rfl) (fun _ _ _ h => h) (Or.inl ⟨by rfl, ?_⟩) (by assumption) ?_
    rotate_left
    · (intro ww hSw; (try dsimp only at hSw); go_simp; try with_reducible rfl)
    (try simp only [Act.put, List.setIfInBounds_toArray, List.set_cons_zero, List.set_cons_succ])
    refine wpAnyH_ready (rs := [10]) (by kernel_rfl) (by simp) ?_
    refine AllReadyH.cons (o := { dst := none, op := Op.store 42 (Operand.tmp 14) (Operand.tmp 101), type := 0, pos := "ref.go:83", after := #[{ on := 9, ground := Ground.data }, { on := 7, ground := Ground.data }, { on := 5, ground := Ground.chain }, { on := 0, ground := Ground.phase }, { on := 1, ground := Ground.phase }, { on := 2, ground := Ground.phase }, { on := 3, ground := Ground.phase }, { on := 4, ground := Ground.phase }, { on := 5, ground := Ground.phase }, { on := 6, ground := Ground.phase }, { on := 7, ground := Ground.phase }, { on := 8, ground := Ground.textOnly Departure.lateStores }, { on := 9, ground := Ground.phase }], guard := none }) rfl (fun K hK => ?_) AllReadyH.nil
    rw [if_pos (by rfl)]
    have hS := Bk.sets VF 0 _ _ hA
    rw [puts_whole ([.int .i64 0, .int .i64 0, .int .i64 0, .int .i64 0, .int .i64 0] : List Value).toArray VF (by have := HL_VF.out; simp; omega)] at hS
    refine wp_store_mid 42 _ _ rfl (w1.drew).heap.size 0 VF.toArray rfl rfl (hA.there _ (by have := HL_VF.out; simp; omega)) (by simpa using HI_VF.out) HO_VF.out ?_
    refine hK.out _ _ (HKR.out _ ((And.left hHeld).1.sets hne hnw 0 VF)) (fun hHeld => ?_)
    clear hK K
    (try simp only [Act.put])
    refine wpAnyH_take (i := 11) (oi := { dst := some 15, op := Op.assign (Operand.tmp 102), type := 4, pos := "ref.go:83", after := #[{ on := 8, ground := Ground.data }, { on := 10, ground := Ground.chain }, { on := 0, ground := Ground.phase }, { on := 1, ground := Ground.phase }, { on := 2, ground := Ground.phase }, { on := 3, ground := Ground.phase }, { on := 4, ground := Ground.phase }, { on := 5, ground := Ground.phase }, { on := 6, ground := Ground.phase }, { on := 7, ground := Ground.phase }, { on := 8, ground := Ground.phase }, { on := 9, ground := Ground.phase }, { on := 10, ground := Ground.phase }], guard := none }) (v := ?_) rfl (by kernel_rfl) (by kernel_rfl) (by kernel_rfl) (fun _ _ _ h => h) (Or.inl ⟨by rfl, ?_⟩) (by assumption) ?_
    rotate_left
    · (intro ww hSw; (try dsimp only at hSw); go_simp; try with_reducible rfl)
    (try simp only [Act.put, List.setIfInBounds_toArray, List.set_cons_zero, List.set_cons_succ])
    refine wpAnyH_done (by kernel_rfl) ?_ _
    refine NoPanic.normal ?_
    have HK7 := Lib.hid (And.left hHeld).1
    have HSS := Lib.hid hS
    clear hHeld hS hA HKR
    generalize wB.setCells (w1.drew).heap.size 0 VF = w7 at *
    rw [show (w1.drew).heap.size = w1.heap.size from rfl] at HSS
    generalize w1.heap.size = gl at *
    have hkc := HK7.out.hd
    have htf := hkc.there V0.toArray.size (Nat.le_refl _)
    go_wp2_with (((with_reducible (change wpList _ _ _ _ _ _)); (first | (refine Great.wpList_readTo rfl _ rfl (.agg V0.toArray) (run_execN (T := 24) (l := #[]) (m := #[]) rfl (by simp) (HB0.out _)) ?_) | (refine wpList_store_mid rfl 24 _ _ rfl (w.heap.size + 1) 0 V0.toArray rfl rfl htf (by simpa using HI_V0.out) HO_V0.out ?_))))
    have hk5 := Bk.sets V0 0 _ _ hkc
    rw [puts_whole V0.toArray V0 (by simp)] at hk5
    refine bodyPost_ret (v := .tuple #[.agg V0.toArray, .bool false]) ?_ rfl ?_
    · exact results_cell2 rfl rfl rfl (run_loadVar_mid _ (w.heap.size + 1) 0 24 V0 _ hk5.range Tryd.underlying24 rfl HI_V0.out)
    · rw [HS.out]
      exact ⟨by rw [HV0.out], below_sets _ (by omega) 0 _ HK7.out.2.1⟩
set_option maxRecDepth 100000 in
set_option maxHeartbeats 4000000 in
theorem rsix_tabB_some (m : Mg) (a b len : Int) (w : World) (hr : 0 ≤ m.rs ∧ m.rs < 4294967296) (hb : mtus a b = true) (x : Ln) (g1 : m.kd = 3) (g2 : m.cd ≠ 4) (hf : findL (ln6 m.rs) m.kd m.cd = some x) : Calls Tryd.prog 15 #[.agg m.vals.toArray, .int .i64 a, .int .i64 b, .int .i64 len] w (fun e w' => e = .returned (.tuple #[.agg (six m a b len).1.vals.toArray, .bool (six m a b len).2]) ∧ Below w.heap.size w w') := by
  have HS : Hid (six m a b len = (⟨x.2.2.1, x.2.2.2.1, x.2.2.2.2, m.da⟩, true)) := Lib.hid (by unfold six; rw [hb, if_neg (by simp), if_neg (by omega), if_neg (by omega), hf]; rfl)
  have HBn : Hid (∀ W, Calls Tryd.prog 23 #[.int .i64 a, .int .i64 b] W fun e w' => e = .returned (.bool true) ∧ W = w') := Lib.hid (fun W => by rw [← hb]; exact rbounds_any a b W)
  clear hb
  have hrx := ln6_mem hf
  have kN : IntKind.u32.wrap x.2.2.2.2 = x.2.2.2.2 := by rw [IntKind.wrap_u32]; omega
  obtain ⟨VF, hVF⟩ : ∃ V, V = lnv x := ⟨_, rfl⟩
  have CF : Hid (∀ (W : World) (v : Value), Lns W v (ln6 m.rs) → Calls Tryd.prog 24 #[v, .agg m.vals.toArray] W fun e w' => e = .returned (.tuple #[.agg VF.toArray, .bool true]) ∧ Below W.heap.size W w') := Lib.hid (fun W v hx => by
    have h := rfind_any v (ln6 m.rs) m W hx (by show 18 ≤ 1000; omega)
    rw [hf] at h
    rw [hVF]
    exact h)
  have HI_VF : Hid ((Tryd.prog.info? 42).map (·.size) = some VF.length) := Lib.hid (by rw [hVF]; exact Tryd.sizeLn _)
  have HO_VF : Hid (VF.toArray.all (·.oneCell') = true) := Lib.hid (by rw [hVF]; exact lnv_one _)
  have HL_VF : Hid (VF.length = 5) := Lib.hid (by rw [hVF]; rfl)
  have HF2 : Hid (VF[2]? = some (.int .i64 x.2.2.1)) := Lib.hid (by rw [hVF]; rfl)
  have HF3 : Hid (VF[3]? = some (.int .i64 x.2.2.2.1)) := Lib.hid (by rw [hVF]; rfl)
  have HF4 : Hid (VF[4]? = some (.int .i64 x.2.2.2.2)) := Lib.hid (by rw [hVF]; rfl)
  clear hVF hf
  have k4 : (m.cd == 4) = false := by rw [beq_eq_false_iff_ne]; exact g2
  have kid : IntKind.i64.wrap m.rs = m.rs := IntWalk.i64_in _ (by omega)
  obtain ⟨V0, hV0⟩ : ∃ V, V = mg0.vals := ⟨_, rfl⟩
  have HB0 : Hid (∀ W, (Instr.build 24 #[]).run Tryd.prog W = .ok (.agg V0.toArray) W) := Lib.hid (fun W => by rw [hV0]; exact mgBuild W)
  have HI_V0 : Hid ((Tryd.prog.info? 24).map (·.size) = some V0.length) := Lib.hid (by rw [hV0]; exact Tryd.infoMg _)
  have HO_V0 : Hid (V0.toArray.all (·.oneCell') = true) := Lib.hid (by rw [hV0]; exact mg_one _)
  have HL_V0 : Hid (V0.length = 4) := Lib.hid (by rw [hV0]; rfl)
  have hz0 : V0.toArray = #[.int .i64 0, .int .i64 0, .int .u32 0, .string ⟨#[]⟩] := by rw [hV0]; rfl
  have HV0 := Lib.hid hV0
  clear hV0
  have HI_VM : Hid ((Tryd.prog.info? 24).map (·.size) = some m.vals.length) := Lib.hid (Tryd.infoMg _)
  have HM0 : Hid (m.vals[0]? = some (.int .i64 3)) := Lib.hid (by rw [← g1]; rfl)
  have HM1 : Hid (m.vals[1]? = some (.int .i64 m.cd)) := Lib.hid (by exact rfl)
  have HM2 : Hid (m.vals[2]? = some (.int .u32 m.rs)) := Lib.hid (by exact rfl)
  have HM3 : Hid (m.vals[3]? = some (.string m.da)) := Lib.hid (by exact rfl)
  have HK1 : Hid (Kp w w.heap.size [(w.heap.size + 1, 24, V0), (w.heap.size, 24, m.vals)] ((w.alloc (.cells m.vals.toArray 24)).alloc (.cells V0.toArray 24))) := Lib.hid (by
    have h := (Kp.start w).new 24 m.vals
    have e1 : (w.alloc (.cells m.vals.toArray 24)).heap.size = w.heap.size + 1 := by simp
    have h2 := h.new 24 V0
    rwa [e1] at h2)
  generalize m.vals = VM at *
  generalize hw1 : (w.alloc (.cells VM.toArray 24)).alloc (.cells V0.toArray 24) = w1 at *
  rw [hz0] at hw1
  go_enter Tryd.func15, Tryd.ntmps15
  go_upto_region 1 with (fail)
  clear hw1 hz0
  go_wp2_with (fail)
  refine (HBn.out _).mono ?_
  rintro e w99 ⟨rfl, rfl⟩
  have c0 : w1.cell? ⟨w.heap.size, 0, none⟩ = some (.int .i64 3) := HK1.out.tl.hd.at HM0.out
  have c1 : w1.cell? ⟨w.heap.size, 1, none⟩ = some (.int .i64 m.cd) := HK1.out.tl.hd.at HM1.out
  go_upto_region 21 with (fail)
  clear c0 c1
  have HKR : Hid (∀ W : World, Kp w w.heap.size [(w.heap.size + 1, 24, V0), (w.heap.size, 24, VM)] W → (fun w' => (Kp w w.heap.size [(w.heap.size + 1, 24, V0), (w.heap.size, 24, VM)] w' ∧ w'.rangeAt (w.heap.size) 0 VM) ∧ w'.cell? ⟨w.heap.size, 2, none⟩ = some (.int .u32 m.rs)) W) := Lib.hid (fun W h => ⟨⟨h, h.tl.hd.range⟩, h.tl.hd.at HM2.out⟩)
  refine wp_region_noPanic ?_
  refine wp_region_held_drew (S := fun w' => (Kp w w.heap.size [(w.heap.size + 1, 24, V0), (w.heap.size, 24, VM)] w' ∧ w'.rangeAt (w.heap.size) 0 VM) ∧ w'.cell? ⟨w.heap.size, 2, none⟩ = some (.int .u32 m.rs)) (by kernel_rfl) (HKR.out _ HK1.out.drew) (fun hHeld => ?_)
  refine wpAnyH_take (i := 0) (oi := { dst := some 95, op := Op.fieldAddr 24 (Operand.tmp 4) 2, type := 0, pos := "ref.go:83", after := #[], guard := none }) (v := ?_) rfl (by kernel_rfl) (by kernel_rfl) (by kernel_rfl) (fun _ _ _ h => h) (Or.inl ⟨by rfl, ?_⟩) (by assumption) ?_
  rotate_left
  · (intro ww hSw; (try dsimp only at hSw); go_simp; try with_reducible rfl)
  (try simp only [Act.put, List.setIfInBounds_toArray, List.set_cons_zero, List.set_cons_succ])
  refine wpAnyH_take (i := 1) (oi := { dst := some 96, op := Op.load 22 (Operand.tmp 95), type := 22, pos := "ref.go:83", after := #[{ on := 0, ground := Ground.data }], guard := none }) (v := ?_) rfl (by kernel_rfl) (by kernel_rfl) (by kernel_rfl) (fun _ _ _ h => h) (Or.inl ⟨by rfl, ?_⟩) (by assumption) ?_
  rotate_left
  · (intro ww hSw; (try dsimp only at hSw); go_simp; try with_reducible rfl)
  (try simp only [Act.put, List.setIfInBounds_toArray, List.set_cons_zero, List.set_cons_succ])
  refine wpAnyH_take (i := 2) (oi := { dst := some 97, op := Op.convert 22 3 (Operand.tmp 96), type := 3, pos := "ref.go:83", after := #[{ on := 1, ground := Ground.data }], guard := none }) (v := ?_) rfl (by kernel_rfl) (by kernel_rfl) (by kernel_rfl) (fun _ _ _ h => h) (Or.inl ⟨by rfl, ?_⟩) (by assumption) ?_
  rotate_left
  · (intro ww hSw; (try dsimp only at hSw); go_simp; try with_reducible rfl)
  (try simp only [Act.put, List.setIfInBounds_toArray, List.set_cons_zero, List.set_cons_succ])
  refine wpAnyH_take (i := 4) (oi := { dst := some 99, op := Op.load 24 (Operand.tmp 4), type := 24, pos := "ref.go:83", after := #[], guard := none }) (v := .agg (VM).toArray) rfl (by kernel_rfl) (by kernel_rfl) (by kernel_rfl) (fun _ _ _ h => h) (yieldsIf_load_mid (by rfl) _ _ rfl (w.heap.size) 0 rfl (VM) _ (fun ww hSw => (And.left hSw).2) Tryd.underlying24 rfl HI_VM.out) (by assumption) ?_
  (try simp only [Act.put, List.setIfInBounds_toArray, List.set_cons_zero, List.set_cons_succ])
  refine wpAnyH_ready (rs := [3, 9]) (by kernel_rfl) (by simp) ?_
  refine AllReadyH.cons (o := { dst := some 98, op := Op.call { callee := Callee.value (Operand.func 25), args := #[Operand.tmp 97], argTypes := #[3] }, type := 45, pos := "ref.go:83", after := #[{ on := 2, ground := Ground.data }], guard := none }) rfl (fun K hK => ?_) (AllReadyH.cons (o := { dst := some 14, op := Op.alloc 42, type := 0, pos := "ref.go:83", after := #[], guard := none }) rfl (fun K hK => ?_) AllReadyH.nil)
  · go_simp
    ((with_reducible refine (rlines6_any _ _).mono ?_); rintro e wA ⟨vL, rfl, hLn, hb9⟩)
    refine hK.out _ _ (HKR.out _ ((And.left hHeld).1.below hb9 (Nat.le_refl _))) (fun hHeld => ?_)
    clear hK K
    (try simp only [Act.put, List.setIfInBounds_toArray, List.set_cons_zero, List.set_cons_succ])
    refine wpAnyH_ready (rs := [5, 9]) (by kernel_rfl) (by simp) ?_
    refine AllReadyH.cons (o := { dst := some 100, op := Op.call { callee := Callee.value (Operand.func 24), args := #[Operand.tmp 98, Operand.tmp 99], argTypes := #[45, 24] }, type := 43, pos := "ref.go:83", after := #[{ on := 3, ground := Ground.data }, { on := 4, ground := Ground.data }, { on := 3, ground := Ground.chain }], guard := none }) rfl (fun K hK => ?_) (AllReadyH.cons (o := { dst := some 14, op := Op.alloc 42, type := 0, pos := "ref.go:83", after := #[], guard := none }) rfl (fun K hK => ?_) AllReadyH.nil)
    · go_simp
      ((with_reducible refine (CF.out _ _ hLn).mono ?_); rintro e wB ⟨rfl, hb9⟩)
      refine hK.out _ _ (HKR.out _ ((And.left hHeld).1.below hb9 (Nat.le_refl _))) (fun hHeld => ?_)
      clear hK K
      (try simp only [Act.put, List.setIfInBounds_toArray, List.set_cons_zero, List.set_cons_succ])
      refine wpAnyH_take (i := 6) (oi := { dst := some 94, op := Op.move (Operand.tmp 100), type := 43, pos := "ref.go:83", after := #[{ on := 5, ground := Ground.data }], guard := none }) (v := ?_) rfl (by kernel_rfl) (by kernel_rfl) (by kernel_rfl) (fun _ _ _ h => h) (Or.inl ⟨by rfl, ?_⟩) (by assumption) ?_
      rotate_left
      · (intro ww hSw; (try dsimp only at hSw); go_simp; try with_reducible rfl)
      (try simp only [Act.put, List.setIfInBounds_toArray, List.set_cons_zero, List.set_cons_succ])
      refine wpAnyH_take (i := 7) (oi := { dst := some 101, op := Op.extract (Operand.tmp 94) 0, type := 42, pos := "ref.go:83", after := #[{ on := 6, ground := Ground.data }], guard := none }) (v := ?_) rfl (by kernel_rfl) (by kernel_rfl) (by kernel_rfl) (fun _ _ _ h => h) (Or.inl ⟨by rfl, ?_⟩) (by assumption) ?_
      rotate_left
      · (intro ww hSw; (try dsimp only at hSw); go_simp; try with_reducible rfl)
      (try simp only [Act.put, List.setIfInBounds_toArray, List.set_cons_zero, List.set_cons_succ])
      refine wpAnyH_take (i := 8) (oi := { dst := some 102, op := Op.extract (Operand.tmp 94) 1, type := 4, pos := "ref.go:83", after := #[{ on := 6, ground := Ground.data }, { on := 10, ground := Ground.gcOnly Departure.lateStores }], guard := none }) (v := ?_) rfl (by kernel_rfl) (by kernel_rfl) (by kernel_rfl) (fun _ _ _ h => h) (Or.inl ⟨by rfl, ?_⟩) (by assumption) ?_
      rotate_left
      · (intro ww hSw; (try dsimp only at hSw); go_simp; try with_reducible rfl)
      (try simp only [Act.put, List.setIfInBounds_toArray, List.set_cons_zero, List.set_cons_succ])
      refine wpAnyH_ready (rs := [9]) (by kernel_rfl) (by simp) ?_
      refine AllReadyH.cons (o := { dst := some 14, op := Op.alloc 42, type := 0, pos := "ref.go:83", after := #[], guard := none }) rfl (fun K hK => ?_) AllReadyH.nil
      have hnw := (And.left hHeld).1.2.2
      have hne := fun x hx => (And.left hHeld).1.ne x hx
      go_simp
      refine hK.out _ _ (HKR.out _ ((And.left hHeld).1.alloc _)) (fun hHeld => ?_)
      clear hK K
      (try simp only [Act.put, List.setIfInBounds_toArray, List.set_cons_zero, List.set_cons_succ])
      have hA := bk_new (wB) 42 ([.int .i64 0, .int .i64 0, .int .i64 0, .int .i64 0, .int .i64 0] : List Value).toArray
      refine wpAnyH_ready (rs := [10]) (by kernel_rfl) (by simp) ?_
      refine AllReadyH.cons (o := { dst := none, op := Op.store 42 (Operand.tmp 14) (Operand.tmp 101), type := 0, pos := "ref.go:83", after := #[{ on := 9, ground := Ground.data }, { on := 7, ground := Ground.data }, { on := 5, ground := Ground.chain }, { on := 0, ground := Ground.phase }, { on := 1, ground := Ground.phase }, { on := 2, ground := Ground.phase }, { on := 3, ground := Ground.phase }, { on := 4, ground := Ground.phase }, { on := 5, ground := Ground.phase }, { on := 6, ground := Ground.phase }, { on := 7, ground := Ground.phase }, { on := 8, ground := Ground.textOnly Departure.lateStores }, { on := 9, ground := Ground.phase }], guard := none }) rfl (fun K hK => ?_) AllReadyH.nil
      rw [if_pos (by rfl)]
      have hS := Bk.sets VF 0 _ _ hA
      rw [puts_whole ([.int .i64 0, .int .i64 0, .int .i64 0, .int .i64 0, .int .i64 0] : List Value).toArray VF (by have := HL_VF.out; simp; omega)] at hS
      refine wp_store_mid 42 _ _ rfl (wB).heap.size 0 VF.toArray rfl rfl (hA.there _ (by have := HL_VF.out; simp; omega)) (by simpa using HI_VF.out) HO_VF.out ?_
      refine hK.out _ _ (HKR.out _ ((And.left hHeld).1.sets hne hnw 0 VF)) (fun hHeld => ?_)
      clear hK K
      (try simp only [Act.put])
      refine wpAnyH_take (i := 11) (oi := { dst := some 15, op := Op.assign (Operand.tmp 102), type := 4, pos := "ref.go:83", after := #[{ on := 8, ground := Ground.data }, { on := 10, ground := Ground.chain }, { on := 0, ground := Ground.phase }, { on := 1, ground := Ground.phase }, { on := 2, ground := Ground.phase }, { on := 3, ground := Ground.phase }, { on := 4, ground := Ground.phase }, { on := 5, ground := Ground.phase }, { on := 6, ground := Ground.phase }, { on := 7, ground := Ground.phase }, { on := 8, ground := Ground.phase }, { on := 9, ground := Ground.phase }, { on := 10, ground := Ground.phase }], guard := none }) (v := ?_) rfl (by kernel_rfl) (by kernel_rfl) (by kernel_rfl) (fun _ _ _ h => h) (Or.inl ⟨by rfl, ?_⟩) (by assumption) ?_
      rotate_left
      · (intro ww hSw; (try dsimp only at hSw); go_simp; try with_reducible rfl)
      (try simp only [Act.put, List.setIfInBounds_toArray, List.set_cons_zero, List.set_cons_succ])
      refine wpAnyH_done (by kernel_rfl) ?_ _
      refine NoPanic.normal ?_
      have HK7 := Lib.hid (And.left hHeld).1
      have HSS := Lib.hid hS
      clear hHeld hS hA HKR
      generalize (wB.alloc (.cells ([.int .i64 0, .int .i64 0, .int .i64 0, .int .i64 0, .int .i64 0] : List Value).toArray 42)).setCells (wB).heap.size 0 VF = w7 at *
      generalize (wB).heap.size = gl at *
      have e2 : w7.cell? ⟨gl, 2, none⟩ = some (.int .i64 x.2.2.1) := HSS.out.at HF2.out
      have e3 : w7.cell? ⟨gl, 3, none⟩ = some (.int .i64 x.2.2.2.1) := HSS.out.at HF3.out
      have e4 : w7.cell? ⟨gl, 4, none⟩ = some (.int .i64 x.2.2.2.2) := HSS.out.at HF4.out
      have c3 : w7.cell? ⟨w.heap.size, 3, none⟩ = some (.string m.da) := HK7.out.tl.hd.at HM3.out
      have hkc := HK7.out.hd
      have htf := hkc.there 4 (by have := HL_V0.out; simp; omega)
      have HIN : Hid ((Tryd.prog.info? 24).map (·.size) = some ([.int .i64 x.2.2.1, .int .i64 x.2.2.2.1, .int .u32 x.2.2.2.2, .string m.da] : List Value).length) := Lib.hid (Tryd.infoMg (⟨x.2.2.1, x.2.2.2.1, x.2.2.2.2, m.da⟩ : Mg))
      go_wp2_with (((with_reducible (change wpList _ _ _ _ _ _)); ((refine wpList_store_mid rfl 24 _ _ rfl (w.heap.size + 1) 0 ([.int .i64 x.2.2.1, .int .i64 x.2.2.2.1, .int .u32 x.2.2.2.2, .string m.da] : List Value).toArray rfl rfl htf (by simpa using HIN.out) (by simp [Value.oneCell']) ?_))))
      have hk5 := Bk.sets [.int .i64 x.2.2.1, .int .i64 x.2.2.2.1, .int .u32 x.2.2.2.2, .string m.da] 0 _ _ hkc
      rw [puts_whole V0.toArray [.int .i64 x.2.2.1, .int .i64 x.2.2.2.1, .int .u32 x.2.2.2.2, .string m.da] (by have := HL_V0.out; simp; omega)] at hk5
      refine bodyPost_ret (v := .tuple #[.agg ([.int .i64 x.2.2.1, .int .i64 x.2.2.2.1, .int .u32 x.2.2.2.2, .string m.da] : List Value).toArray, .bool true]) ?_ rfl ?_
      · exact results_cell2 rfl rfl rfl (run_loadVar_mid _ (w.heap.size + 1) 0 24 [.int .i64 x.2.2.1, .int .i64 x.2.2.2.1, .int .u32 x.2.2.2.2, .string m.da] _ hk5.range Tryd.underlying24 rfl HIN.out)
      · rw [HS.out]
        exact ⟨rfl, below_sets _ (by omega) 0 _ HK7.out.2.1⟩
    · have hnw := (And.left hHeld).1.2.2
      have hne := fun x hx => (And.left hHeld).1.ne x hx
      go_simp
      refine hK.out _ _ (HKR.out _ ((And.left hHeld).1.alloc _)) (fun hHeld => ?_)
      clear hK K
      (try simp only [Act.put, List.setIfInBounds_toArray, List.set_cons_zero, List.set_cons_succ])
      have hA := bk_new (wA) 42 ([.int .i64 0, .int .i64 0, .int .i64 0, .int .i64 0, .int .i64 0] : List Value).toArray
      have hLn := hLn.below ((Below.refl _ _).alloc (Nat.le_refl _) (.cells ([.int .i64 0, .int .i64 0, .int .i64 0, .int .i64 0, .int .i64 0] : List Value).toArray 42))
      refine wpAnyH_ready (rs := [5]) (by kernel_rfl) (by simp) ?_
      refine AllReadyH.cons (o := { dst := some 100, op := Op.call { callee := Callee.value (Operand.func 24), args := #[Operand.tmp 98, Operand.tmp 99], argTypes := #[45, 24] }, type := 43, pos := "ref.go:83", after := #[{ on := 3, ground := Ground.data }, { on := 4, ground := Ground.data }, { on := 3, ground := Ground.chain }], guard := none }) rfl (fun K hK => ?_) AllReadyH.nil
      go_simp
      ((with_reducible refine (CF.out _ _ hLn).mono ?_); rintro e wB ⟨rfl, hb9⟩)
      refine hK.out _ _ (HKR.out _ ((And.left hHeld).1.below hb9 (Nat.le_refl _))) (fun hHeld => ?_)
      clear hK K
      (try simp only [Act.put, List.setIfInBounds_toArray, List.set_cons_zero, List.set_cons_succ])
      have hA := hA.below hb9 hA.lt
      refine wpAnyH_take (i := 6) (oi := { dst := some 94, op := Op.move (Operand.tmp 100), type := 43, pos := "ref.go:83", after := #[{ on := 5, ground := Ground.data }], guard := none }) (v := ?_) rfl (by kernel_rfl) (by kernel_rfl) (by kernel_rfl) (fun _ _ _ h => h) (Or.inl ⟨by rfl, ?_⟩) (by assumption) ?_
      rotate_left
      · (intro ww hSw; (try dsimp only at hSw); go_simp; try with_reducible rfl)
      (try simp only [Act.put, List.setIfInBounds_toArray, List.set_cons_zero, List.set_cons_succ])
      refine wpAnyH_take (i := 7) (oi := { dst := some 101, op := Op.extract (Operand.tmp 94) 0, type := 42, pos := "ref.go:83", after := #[{ on := 6, ground := Ground.data }], guard := none }) (v := ?_) rfl (by kernel_rfl) (by kernel_rfl) (by kernel_rfl) (fun _ _ _ h => h) (Or.inl ⟨by rfl, ?_⟩) (by assumption) ?_
      rotate_left
      · (intro ww hSw; (try dsimp only at hSw); go_simp; try with_reducible rfl)
      (try simp only [Act.put, List.setIfInBounds_toArray, List.set_cons_zero, List.set_cons_succ])
      refine wpAnyH_take (i := 8) (oi := { dst := some 102, op := Op.extract (Operand.tmp 94) 1, type := 4, pos := "ref.go:83", after := #[{ on := 6, ground := Ground.data }, { on := 10, ground := Ground.gcOnly Departure.lateStores }], guard := none }) (v := ?_) rfl (by kernel_rfl) (by kernel_rfl) (by kernel_rfl) (fun _ _ _ h => h) (Or.inl ⟨by rfl, ?_⟩) (by assumption) ?_
      rotate_left
      · (intro ww hSw; (try dsimp only at hSw); go_simp; try with_reducible rfl)
      (try simp only [Act.put, List.setIfInBounds_toArray, List.set_cons_zero, List.set_cons_succ])
      refine wpAnyH_ready (rs := [10]) (by kernel_rfl) (by simp) ?_
      refine AllReadyH.cons (o := { dst := none, op := Op.store 42 (Operand.tmp 14) (Operand.tmp 101), type := 0, pos := "ref.go:83", after := #[{ on := 9, ground := Ground.data }, { on := 7, ground := Ground.data }, { on := 5, ground := Ground.chain }, { on := 0, ground := Ground.phase }, { on := 1, ground := Ground.phase }, { on := 2, ground := Ground.phase }, { on := 3, ground := Ground.phase }, { on := 4, ground := Ground.phase }, { on := 5, ground := Ground.phase }, { on := 6, ground := Ground.phase }, { on := 7, ground := Ground.phase }, { on := 8, ground := Ground.textOnly Departure.lateStores }, { on := 9, ground := Ground.phase }], guard := none }) rfl (fun K hK => ?_) AllReadyH.nil
      rw [if_pos (by rfl)]
      have hS := Bk.sets VF 0 _ _ hA
      rw [puts_whole ([.int .i64 0, .int .i64 0, .int .i64 0, .int .i64 0, .int .i64 0] : List Value).toArray VF (by have := HL_VF.out; simp; omega)] at hS
      refine wp_store_mid 42 _ _ rfl (wA).heap.size 0 VF.toArray rfl rfl (hA.there _ (by have := HL_VF.out; simp; omega)) (by simpa using HI_VF.out) HO_VF.out ?_
      refine hK.out _ _ (HKR.out _ ((And.left hHeld).1.sets hne hnw 0 VF)) (fun hHeld => ?_)
      clear hK K
      (try simp only [Act.put])
      refine wpAnyH_take (i := 11) (oi := { dst := some 15, op := Op.assign (Operand.tmp 102), type := 4, pos := "ref.go:83", after := #[{ on := 8, ground := Ground.data }, { on := 10, ground := Ground.chain }, { on := 0, ground := Ground.phase }, { on := 1, ground := Ground.phase }, { on := 2, ground := Ground.phase }, { on := 3, ground := Ground.phase }, { on := 4, ground := Ground.phase }, { on := 5, ground := Ground.phase }, { on := 6, ground := Ground.phase }, { on := 7, ground := Ground.phase }, { on := 8, ground := Ground.phase }, { on := 9, ground := Ground.phase }, { on := 10, ground := Ground.phase }], guard := none }) (v := ?_) rfl (by kernel_rfl) (by kernel_rfl) (by kernel_rfl) (fun _ _ _ h => h) (Or.inl ⟨by rfl, ?_⟩) (by assumption) ?_
      rotate_left
      · (intro ww hSw; (try dsimp only at hSw); go_simp; try with_reducible rfl)
      (try simp only [Act.put, List.setIfInBounds_toArray, List.set_cons_zero, List.set_cons_succ])
      refine wpAnyH_done (by kernel_rfl) ?_ _
      refine NoPanic.normal ?_
      have HK7 := Lib.hid (And.left hHeld).1
      have HSS := Lib.hid hS
      clear hHeld hS hA HKR
      generalize wB.setCells (wA).heap.size 0 VF = w7 at *
      generalize (wA).heap.size = gl at *
      have e2 : w7.cell? ⟨gl, 2, none⟩ = some (.int .i64 x.2.2.1) := HSS.out.at HF2.out
      have e3 : w7.cell? ⟨gl, 3, none⟩ = some (.int .i64 x.2.2.2.1) := HSS.out.at HF3.out
      have e4 : w7.cell? ⟨gl, 4, none⟩ = some (.int .i64 x.2.2.2.2) := HSS.out.at HF4.out
      have c3 : w7.cell? ⟨w.heap.size, 3, none⟩ = some (.string m.da) := HK7.out.tl.hd.at HM3.out
      have hkc := HK7.out.hd
      have htf := hkc.there 4 (by have := HL_V0.out; simp; omega)
      have HIN : Hid ((Tryd.prog.info? 24).map (·.size) = some ([.int .i64 x.2.2.1, .int .i64 x.2.2.2.1, .int .u32 x.2.2.2.2, .string m.da] : List Value).length) := Lib.hid (Tryd.infoMg (⟨x.2.2.1, x.2.2.2.1, x.2.2.2.2, m.da⟩ : Mg))
      go_wp2_with (((with_reducible (change wpList _ _ _ _ _ _)); ((refine wpList_store_mid rfl 24 _ _ rfl (w.heap.size + 1) 0 ([.int .i64 x.2.2.1, .int .i64 x.2.2.2.1, .int .u32 x.2.2.2.2, .string m.da] : List Value).toArray rfl rfl htf (by simpa using HIN.out) (by simp [Value.oneCell']) ?_))))
      have hk5 := Bk.sets [.int .i64 x.2.2.1, .int .i64 x.2.2.2.1, .int .u32 x.2.2.2.2, .string m.da] 0 _ _ hkc
      rw [puts_whole V0.toArray [.int .i64 x.2.2.1, .int .i64 x.2.2.2.1, .int .u32 x.2.2.2.2, .string m.da] (by have := HL_V0.out; simp; omega)] at hk5
      refine bodyPost_ret (v := .tuple #[.agg ([.int .i64 x.2.2.1, .int .i64 x.2.2.2.1, .int .u32 x.2.2.2.2, .string m.da] : List Value).toArray, .bool true]) ?_ rfl ?_
      · exact results_cell2 rfl rfl rfl (run_loadVar_mid _ (w.heap.size + 1) 0 24 [.int .i64 x.2.2.1, .int .i64 x.2.2.2.1, .int .u32 x.2.2.2.2, .string m.da] _ hk5.range Tryd.underlying24 rfl HIN.out)
      · rw [HS.out]
        exact ⟨rfl, below_sets _ (by omega) 0 _ HK7.out.2.1⟩
  · have hnw := (And.left hHeld).1.2.2
    have hne := fun x hx => (And.left hHeld).1.ne x hx
    go_simp
    refine hK.out _ _ (HKR.out _ ((And.left hHeld).1.alloc _)) (fun hHeld => ?_)
    clear hK K
    (try simp only [Act.put, List.setIfInBounds_toArray, List.set_cons_zero, List.set_cons_succ])
    have hA := bk_new (w1.drew) 42 ([.int .i64 0, .int .i64 0, .int .i64 0, .int .i64 0, .int .i64 0] : List Value).toArray
    refine wpAnyH_ready (rs := [3]) (by kernel_rfl) (by simp) ?_
    refine AllReadyH.cons (o := { dst := some 98, op := Op.call { callee := Callee.value (Operand.func 25), args := #[Operand.tmp 97], argTypes := #[3] }, type := 45, pos := "ref.go:83", after := #[{ on := 2, ground := Ground.data }], guard := none }) rfl (fun K hK => ?_) AllReadyH.nil
    go_simp
    ((with_reducible refine (rlines6_any _ _).mono ?_); rintro e wA ⟨vL, rfl, hLn, hb9⟩)
    refine hK.out _ _ (HKR.out _ ((And.left hHeld).1.below hb9 (Nat.le_refl _))) (fun hHeld => ?_)
    clear hK K
    (try simp only [Act.put, List.setIfInBounds_toArray, List.set_cons_zero, List.set_cons_succ])
    have hA := hA.below hb9 hA.lt
    refine wpAnyH_ready (rs := [5]) (by kernel_rfl) (by simp) ?_
    refine AllReadyH.cons (o := { dst := some 100, op := Op.call { callee := Callee.value (Operand.func 24), args := #[Operand.tmp 98, Operand.tmp 99], argTypes := #[45, 24] }, type := 43, pos := "ref.go:83", after := #[{ on := 3, ground := Ground.data }, { on := 4, ground := Ground.data }, { on := 3, ground := Ground.chain }], guard := none }) rfl (fun K hK => ?_) AllReadyH.nil
    go_simp
    ((with_reducible refine (CF.out _ _ hLn).mono ?_); rintro e wB ⟨rfl, hb9⟩)
    refine hK.out _ _ (HKR.out _ ((And.left hHeld).1.below hb9 (Nat.le_refl _))) (fun hHeld => ?_)
    clear hK K
    (try simp only [Act.put, List.setIfInBounds_toArray, List.set_cons_zero, List.set_cons_succ])
    have hA := hA.below hb9 hA.lt
    refine wpAnyH_take (i := 6) (oi := { dst := some 94, op := Op.move (Operand.tmp 100), type := 43, pos := "ref.go:83", after := #[{ on := 5, ground := Ground.data }], guard := none }) (v := ?_) rfl (by kernel_rfl) (by kernel_rfl) (by kernel_rfl) (fun _ _ _ h => h) (Or.inl ⟨by rfl, ?_⟩) (by assumption) ?_
    rotate_left
    · (intro ww hSw; (try dsimp only at hSw); go_simp; try with_reducible rfl)
    (try simp only [Act.put, List.setIfInBounds_toArray, List.set_cons_zero, List.set_cons_succ])
    refine wpAnyH_take (i := 7) (oi := { dst := some 101, op := Op.extract (Operand.tmp 94) 0, type := 42, pos := "ref.go:83", after := #[{ on := 6, ground := Ground.data }], guard := none }) (v := ?_) rfl (by kernel_rfl) (by kernel_rfl) (by kernel_rfl) (fun _ _ _ h => h) (Or.inl ⟨by rfl, ?_⟩) (by assumption) ?_
    rotate_left
    · (intro ww hSw; (try dsimp only at hSw); go_simp; try with_reducible rfl)
    (try simp only [Act.put, List.setIfInBounds_toArray, List.set_cons_zero, List.set_cons_succ])
    refine wpAnyH_take (i := 8) (oi := { dst := some 102, op := Op.extract (Operand.tmp 94) 1, type := 4, pos := "ref.go:83", after := #[{ on := 6, ground := Ground.data }, { on := 10, ground := Ground.gcOnly Departure.lateStores }], guard := none }) (v := ?_) rfl (by kernel_rfl) (by kernel_rfl) (by kernel_rfl) (fun _ _ _ h => h) (Or.inl ⟨by rfl, ?_⟩) (by assumption) ?_
    rotate_left
    · (intro ww hSw; (try dsimp only at hSw); go_simp; try with_reducible rfl)
    (try simp only [Act.put, List.setIfInBounds_toArray, List.set_cons_zero, List.set_cons_succ])
    refine wpAnyH_ready (rs := [10]) (by kernel_rfl) (by simp) ?_
    refine AllReadyH.cons (o := { dst := none, op := Op.store 42 (Operand.tmp 14) (Operand.tmp 101), type := 0, pos := "ref.go:83", after := #[{ on := 9, ground := Ground.data }, { on := 7, ground := Ground.data }, { on := 5, ground := Ground.chain }, { on := 0, ground := Ground.phase }, { on := 1, ground := Ground.phase }, { on := 2, ground := Ground.phase }, { on := 3, ground := Ground.phase }, { on := 4, ground := Ground.phase }, { on := 5, ground := Ground.phase }, { on := 6, ground := Ground.phase }, { on := 7, ground := Ground.phase }, { on := 8, ground := Ground.textOnly Departure.lateStores }, { on := 9, ground := Ground.phase }], guard := none }) rfl (fun K hK => ?_) AllReadyH.nil
    rw [if_pos (by rfl)]
    have hS := Bk.sets VF 0 _ _ hA
    rw [puts_whole ([.int .i64 0, .int .i64 0, .int .i64 0, .int .i64 0, .int .i64 0] : List Value).toArray VF (by have := HL_VF.out; simp; omega)] at hS
    refine wp_store_mid 42 _ _ rfl (w1.drew).heap.size 0 VF.toArray rfl rfl (hA.there _ (by have := HL_VF.out; simp; omega)) (by simpa using HI_VF.out) HO_VF.out ?_
    refine hK.out _ _ (HKR.out _ ((And.left hHeld).1.sets hne hnw 0 VF)) (fun hHeld => ?_)
    clear hK K
    (try simp only [Act.put])
    refine wpAnyH_take (i := 11) (oi := { dst := some 15, op := Op.assign (Operand.tmp 102), type := 4, pos := "ref.go:83", after := #[{ on := 8, ground := Ground.data }, { on := 10, ground := Ground.chain }, { on := 0, ground := Ground.phase }, { on := 1, ground := Ground.phase }, { on := 2, ground := Ground.phase }, { on := 3, ground := Ground.phase }, { on := 4, ground := Ground.phase }, { on := 5, ground := Ground.phase }, { on := 6, ground := Ground.phase }, { on := 7, ground := Ground.phase }, { on := 8, ground := Ground.phase }, { on := 9, ground := Ground.phase }, { on := 10, ground := Ground.phase }], guard := none }) (v := ?_) rfl (by kernel_rfl) (by kernel_rfl) (by kernel_rfl) (fun _ _ _ h => h) (Or.inl ⟨by rfl, ?_⟩) (by assumption) ?_
    rotate_left
    · (intro ww hSw; (try dsimp only at hSw); go_simp; try with_reducible rfl)
    (try simp only [Act.put, List.setIfInBounds_toArray, List.set_cons_zero, List.set_cons_succ])
    refine wpAnyH_done (by kernel_rfl) ?_ _
    refine NoPanic.normal ?_
    have HK7 := Lib.hid (And.left hHeld).1
    have HSS := Lib.hid hS
    clear hHeld hS hA HKR
    generalize wB.setCells (w1.drew).heap.size 0 VF = w7 at *
    rw [show (w1.drew).heap.size = w1.heap.size from rfl] at HSS
    generalize w1.heap.size = gl at *
    have e2 : w7.cell? ⟨gl, 2, none⟩ = some (.int .i64 x.2.2.1) := HSS.out.at HF2.out
    have e3 : w7.cell? ⟨gl, 3, none⟩ = some (.int .i64 x.2.2.2.1) := HSS.out.at HF3.out
    have e4 : w7.cell? ⟨gl, 4, none⟩ = some (.int .i64 x.2.2.2.2) := HSS.out.at HF4.out
    have c3 : w7.cell? ⟨w.heap.size, 3, none⟩ = some (.string m.da) := HK7.out.tl.hd.at HM3.out
    have hkc := HK7.out.hd
    have htf := hkc.there 4 (by have := HL_V0.out; simp; omega)
    have HIN : Hid ((Tryd.prog.info? 24).map (·.size) = some ([.int .i64 x.2.2.1, .int .i64 x.2.2.2.1, .int .u32 x.2.2.2.2, .string m.da] : List Value).length) := Lib.hid (Tryd.infoMg (⟨x.2.2.1, x.2.2.2.1, x.2.2.2.2, m.da⟩ : Mg))
    go_wp2_with (((with_reducible (change wpList _ _ _ _ _ _)); ((refine wpList_store_mid rfl 24 _ _ rfl (w.heap.size + 1) 0 ([.int .i64 x.2.2.1, .int .i64 x.2.2.2.1, .int .u32 x.2.2.2.2, .string m.da] : List Value).toArray rfl rfl htf (by simpa using HIN.out) (by simp [Value.oneCell']) ?_))))
    have hk5 := Bk.sets [.int .i64 x.2.2.1, .int .i64 x.2.2.2.1, .int .u32 x.2.2.2.2, .string m.da] 0 _ _ hkc
    rw [puts_whole V0.toArray [.int .i64 x.2.2.1, .int .i64 x.2.2.2.1, .int .u32 x.2.2.2.2, .string m.da] (by have := HL_V0.out; simp; omega)] at hk5
    refine bodyPost_ret (v := .tuple #[.agg ([.int .i64 x.2.2.1, .int .i64 x.2.2.2.1, .int .u32 x.2.2.2.2, .string m.da] : List Value).toArray, .bool true]) ?_ rfl ?_
    · exact results_cell2 rfl rfl rfl (run_loadVar_mid _ (w.heap.size + 1) 0 24 [.int .i64 x.2.2.1, .int .i64 x.2.2.2.1, .int .u32 x.2.2.2.2, .string m.da] _ hk5.range Tryd.underlying24 rfl HIN.out)
    · rw [HS.out]
      exact ⟨rfl, below_sets _ (by omega) 0 _ HK7.out.2.1⟩
set_option maxRecDepth 100000 in
set_option maxHeartbeats 4000000 in
theorem rsix_tabC_none (m : Mg) (a b len : Int) (w : World) (hr : 0 ≤ m.rs ∧ m.rs < 4294967296) (hb : mtus a b = true) (g1 : m.kd = 12) (g2 : m.cd ≠ 0) (g3 : m.cd ≠ 2) (hf : findL (ln6 m.rs) m.kd m.cd = none) : Calls Tryd.prog 15 #[.agg m.vals.toArray, .int .i64 a, .int .i64 b, .int .i64 len] w (fun e w' => e = .returned (.tuple #[.agg (six m a b len).1.vals.toArray, .bool (six m a b len).2]) ∧ Below w.heap.size w w') := by
  have HS : Hid (six m a b len = (mg0, false)) := Lib.hid (by unfold six; rw [hb, if_neg (by simp), if_neg (by omega), if_neg (by omega), hf]; rfl)
  have HBn : Hid (∀ W, Calls Tryd.prog 23 #[.int .i64 a, .int .i64 b] W fun e w' => e = .returned (.bool true) ∧ W = w') := Lib.hid (fun W => by rw [← hb]; exact rbounds_any a b W)
  clear hb
  obtain ⟨VF, hVF⟩ : ∃ V, V = lnv ln0 := ⟨_, rfl⟩
  have CF : Hid (∀ (W : World) (v : Value), Lns W v (ln6 m.rs) → Calls Tryd.prog 24 #[v, .agg m.vals.toArray] W fun e w' => e = .returned (.tuple #[.agg VF.toArray, .bool false]) ∧ Below W.heap.size W w') := Lib.hid (fun W v hx => by
    have h := rfind_any v (ln6 m.rs) m W hx (by show 18 ≤ 1000; omega)
    rw [hf] at h
    rw [hVF]
    exact h)
  have HI_VF : Hid ((Tryd.prog.info? 42).map (·.size) = some VF.length) := Lib.hid (by rw [hVF]; exact Tryd.sizeLn _)
  have HO_VF : Hid (VF.toArray.all (·.oneCell') = true) := Lib.hid (by rw [hVF]; exact lnv_one _)
  have HL_VF : Hid (VF.length = 5) := Lib.hid (by rw [hVF]; rfl)
  clear hVF hf
  have k0 : (m.cd == 0) = false := by rw [beq_eq_false_iff_ne]; exact g2
  have k2 : (m.cd == 2) = false := by rw [beq_eq_false_iff_ne]; exact g3
  have kid : IntKind.i64.wrap m.rs = m.rs := IntWalk.i64_in _ (by omega)
  obtain ⟨V0, hV0⟩ : ∃ V, V = mg0.vals := ⟨_, rfl⟩
  have HB0 : Hid (∀ W, (Instr.build 24 #[]).run Tryd.prog W = .ok (.agg V0.toArray) W) := Lib.hid (fun W => by rw [hV0]; exact mgBuild W)
  have HI_V0 : Hid ((Tryd.prog.info? 24).map (·.size) = some V0.length) := Lib.hid (by rw [hV0]; exact Tryd.infoMg _)
  have HO_V0 : Hid (V0.toArray.all (·.oneCell') = true) := Lib.hid (by rw [hV0]; exact mg_one _)
  have HL_V0 : Hid (V0.length = 4) := Lib.hid (by rw [hV0]; rfl)
  have hz0 : V0.toArray = #[.int .i64 0, .int .i64 0, .int .u32 0, .string ⟨#[]⟩] := by rw [hV0]; rfl
  have HV0 := Lib.hid hV0
  clear hV0
  have HI_VM : Hid ((Tryd.prog.info? 24).map (·.size) = some m.vals.length) := Lib.hid (Tryd.infoMg _)
  have HM0 : Hid (m.vals[0]? = some (.int .i64 12)) := Lib.hid (by rw [← g1]; rfl)
  have HM1 : Hid (m.vals[1]? = some (.int .i64 m.cd)) := Lib.hid (by exact rfl)
  have HM2 : Hid (m.vals[2]? = some (.int .u32 m.rs)) := Lib.hid (by exact rfl)
  have HM3 : Hid (m.vals[3]? = some (.string m.da)) := Lib.hid (by exact rfl)
  have HK1 : Hid (Kp w w.heap.size [(w.heap.size + 1, 24, V0), (w.heap.size, 24, m.vals)] ((w.alloc (.cells m.vals.toArray 24)).alloc (.cells V0.toArray 24))) := Lib.hid (by
    have h := (Kp.start w).new 24 m.vals
    have e1 : (w.alloc (.cells m.vals.toArray 24)).heap.size = w.heap.size + 1 := by simp
    have h2 := h.new 24 V0
    rwa [e1] at h2)
  generalize m.vals = VM at *
  generalize hw1 : (w.alloc (.cells VM.toArray 24)).alloc (.cells V0.toArray 24) = w1 at *
  rw [hz0] at hw1
  go_enter Tryd.func15, Tryd.ntmps15
  go_upto_region 1 with (fail)
  clear hw1 hz0
  go_wp2_with (fail)
  refine (HBn.out _).mono ?_
  rintro e w99 ⟨rfl, rfl⟩
  have c0 : w1.cell? ⟨w.heap.size, 0, none⟩ = some (.int .i64 12) := HK1.out.tl.hd.at HM0.out
  have c1 : w1.cell? ⟨w.heap.size, 1, none⟩ = some (.int .i64 m.cd) := HK1.out.tl.hd.at HM1.out
  go_upto_region 21 with (fail)
  clear c0 c1
  have HKR : Hid (∀ W : World, Kp w w.heap.size [(w.heap.size + 1, 24, V0), (w.heap.size, 24, VM)] W → (fun w' => (Kp w w.heap.size [(w.heap.size + 1, 24, V0), (w.heap.size, 24, VM)] w' ∧ w'.rangeAt (w.heap.size) 0 VM) ∧ w'.cell? ⟨w.heap.size, 2, none⟩ = some (.int .u32 m.rs)) W) := Lib.hid (fun W h => ⟨⟨h, h.tl.hd.range⟩, h.tl.hd.at HM2.out⟩)
  refine wp_region_noPanic ?_
  refine wp_region_held_drew (S := fun w' => (Kp w w.heap.size [(w.heap.size + 1, 24, V0), (w.heap.size, 24, VM)] w' ∧ w'.rangeAt (w.heap.size) 0 VM) ∧ w'.cell? ⟨w.heap.size, 2, none⟩ = some (.int .u32 m.rs)) (by kernel_rfl) (HKR.out _ HK1.out.drew) (fun hHeld => ?_)
  refine wpAnyH_take (i := 0) (oi := { dst := some 95, op := Op.fieldAddr 24 (Operand.tmp 4) 2, type := 0, pos := "ref.go:83", after := #[], guard := none }) (v := ?_) rfl (by kernel_rfl) (by kernel_rfl) (by kernel_rfl) (fun _ _ _ h => h) (Or.inl ⟨by rfl, ?_⟩) (by assumption) ?_
  rotate_left
  · (intro ww hSw; (try dsimp only at hSw); go_simp; try with_reducible rfl)
  (try simp only [Act.put, List.setIfInBounds_toArray, List.set_cons_zero, List.set_cons_succ])
  refine wpAnyH_take (i := 1) (oi := { dst := some 96, op := Op.load 22 (Operand.tmp 95), type := 22, pos := "ref.go:83", after := #[{ on := 0, ground := Ground.data }], guard := none }) (v := ?_) rfl (by kernel_rfl) (by kernel_rfl) (by kernel_rfl) (fun _ _ _ h => h) (Or.inl ⟨by rfl, ?_⟩) (by assumption) ?_
  rotate_left
  · (intro ww hSw; (try dsimp only at hSw); go_simp; try with_reducible rfl)
  (try simp only [Act.put, List.setIfInBounds_toArray, List.set_cons_zero, List.set_cons_succ])
  refine wpAnyH_take (i := 2) (oi := { dst := some 97, op := Op.convert 22 3 (Operand.tmp 96), type := 3, pos := "ref.go:83", after := #[{ on := 1, ground := Ground.data }], guard := none }) (v := ?_) rfl (by kernel_rfl) (by kernel_rfl) (by kernel_rfl) (fun _ _ _ h => h) (Or.inl ⟨by rfl, ?_⟩) (by assumption) ?_
  rotate_left
  · (intro ww hSw; (try dsimp only at hSw); go_simp; try with_reducible rfl)
  (try simp only [Act.put, List.setIfInBounds_toArray, List.set_cons_zero, List.set_cons_succ])
  refine wpAnyH_take (i := 4) (oi := { dst := some 99, op := Op.load 24 (Operand.tmp 4), type := 24, pos := "ref.go:83", after := #[], guard := none }) (v := .agg (VM).toArray) rfl (by kernel_rfl) (by kernel_rfl) (by kernel_rfl) (fun _ _ _ h => h) (yieldsIf_load_mid (by rfl) _ _ rfl (w.heap.size) 0 rfl (VM) _ (fun ww hSw => (And.left hSw).2) Tryd.underlying24 rfl HI_VM.out) (by assumption) ?_
  (try simp only [Act.put, List.setIfInBounds_toArray, List.set_cons_zero, List.set_cons_succ])
  refine wpAnyH_ready (rs := [3, 9]) (by kernel_rfl) (by simp) ?_
  refine AllReadyH.cons (o := { dst := some 98, op := Op.call { callee := Callee.value (Operand.func 25), args := #[Operand.tmp 97], argTypes := #[3] }, type := 45, pos := "ref.go:83", after := #[{ on := 2, ground := Ground.data }], guard := none }) rfl (fun K hK => ?_) (AllReadyH.cons (o := { dst := some 14, op := Op.alloc 42, type := 0, pos := "ref.go:83", after := #[], guard := none }) rfl (fun K hK => ?_) AllReadyH.nil)
  · go_simp
    ((with_reducible refine (rlines6_any _ _).mono ?_); rintro e wA ⟨vL, rfl, hLn, hb9⟩)
    refine hK.out _ _ (HKR.out _ ((And.left hHeld).1.below hb9 (Nat.le_refl _))) (fun hHeld => ?_)
    clear hK K
    (try simp only [Act.put, List.setIfInBounds_toArray, List.set_cons_zero, List.set_cons_succ])
    refine wpAnyH_ready (rs := [5, 9]) (by kernel_rfl) (by simp) ?_
    refine AllReadyH.cons (o := { dst := some 100, op := Op.call { callee := Callee.value (Operand.func 24), args := #[Operand.tmp 98, Operand.tmp 99], argTypes := #[45, 24] }, type := 43, pos := "ref.go:83", after := #[{ on := 3, ground := Ground.data }, { on := 4, ground := Ground.data }, { on := 3, ground := Ground.chain }], guard := none }) rfl (fun K hK => ?_) (AllReadyH.cons (o := { dst := some 14, op := Op.alloc 42, type := 0, pos := "ref.go:83", after := #[], guard := none }) rfl (fun K hK => ?_) AllReadyH.nil)
    · go_simp
      ((with_reducible refine (CF.out _ _ hLn).mono ?_); rintro e wB ⟨rfl, hb9⟩)
      refine hK.out _ _ (HKR.out _ ((And.left hHeld).1.below hb9 (Nat.le_refl _))) (fun hHeld => ?_)
      clear hK K
      (try simp only [Act.put, List.setIfInBounds_toArray, List.set_cons_zero, List.set_cons_succ])
      refine wpAnyH_take (i := 6) (oi := { dst := some 94, op := Op.move (Operand.tmp 100), type := 43, pos := "ref.go:83", after := #[{ on := 5, ground := Ground.data }], guard := none }) (v := ?_) rfl (by kernel_rfl) (by kernel_rfl) (by kernel_rfl) (fun _ _ _ h => h) (Or.inl ⟨by rfl, ?_⟩) (by assumption) ?_
      rotate_left
      · (intro ww hSw; (try dsimp only at hSw); go_simp; try with_reducible rfl)
      (try simp only [Act.put, List.setIfInBounds_toArray, List.set_cons_zero, List.set_cons_succ])
      refine wpAnyH_take (i := 7) (oi := { dst := some 101, op := Op.extract (Operand.tmp 94) 0, type := 42, pos := "ref.go:83", after := #[{ on := 6, ground := Ground.data }], guard := none }) (v := ?_) rfl (by kernel_rfl) (by kernel_rfl) (by kernel_rfl) (fun _ _ _ h => h) (Or.inl ⟨by rfl, ?_⟩) (by assumption) ?_
      rotate_left
      · (intro ww hSw; (try dsimp only at hSw); go_simp; try with_reducible rfl)
      (try simp only [Act.put, List.setIfInBounds_toArray, List.set_cons_zero, List.set_cons_succ])
      refine wpAnyH_take (i := 8) (oi := { dst := some 102, op := Op.extract (Operand.tmp 94) 1, type := 4, pos := "ref.go:83", after := #[{ on := 6, ground := Ground.data }, { on := 10, ground := Ground.gcOnly Departure.lateStores }], guard := none }) (v := ?_) rfl (by kernel_rfl) (by kernel_rfl) (by kernel_rfl) (fun _ _ _ h => h) (Or.inl ⟨by rfl, ?_⟩) (by assumption) ?_
      rotate_left
      · (intro ww hSw; (try dsimp only at hSw); go_simp; try with_reducible rfl)
      (try simp only [Act.put, List.setIfInBounds_toArray, List.set_cons_zero, List.set_cons_succ])
      refine wpAnyH_ready (rs := [9]) (by kernel_rfl) (by simp) ?_
      refine AllReadyH.cons (o := { dst := some 14, op := Op.alloc 42, type := 0, pos := "ref.go:83", after := #[], guard := none }) rfl (fun K hK => ?_) AllReadyH.nil
      have hnw := (And.left hHeld).1.2.2
      have hne := fun x hx => (And.left hHeld).1.ne x hx
      go_simp
      refine hK.out _ _ (HKR.out _ ((And.left hHeld).1.alloc _)) (fun hHeld => ?_)
      clear hK K
      (try simp only [Act.put, List.setIfInBounds_toArray, List.set_cons_zero, List.set_cons_succ])
      have hA := bk_new (wB) 42 ([.int .i64 0, .int .i64 0, .int .i64 0, .int .i64 0, .int .i64 0] : List Value).toArray
      refine wpAnyH_ready (rs := [10]) (by kernel_rfl) (by simp) ?_
      refine AllReadyH.cons (o := { dst := none, op := Op.store 42 (Operand.tmp 14) (Operand.tmp 101), type := 0, pos := "ref.go:83", after := #[{ on := 9, ground := Ground.data }, { on := 7, ground := Ground.data }, { on := 5, ground := Ground.chain }, { on := 0, ground := Ground.phase }, { on := 1, ground := Ground.phase }, { on := 2, ground := Ground.phase }, { on := 3, ground := Ground.phase }, { on := 4, ground := Ground.phase }, { on := 5, ground := Ground.phase }, { on := 6, ground := Ground.phase }, { on := 7, ground := Ground.phase }, { on := 8, ground := Ground.textOnly Departure.lateStores }, { on := 9, ground := Ground.phase }], guard := none }) rfl (fun K hK => ?_) AllReadyH.nil
      rw [if_pos (by rfl)]
      have hS := Bk.sets VF 0 _ _ hA
      rw [puts_whole ([.int .i64 0, .int .i64 0, .int .i64 0, .int .i64 0, .int .i64 0] : List Value).toArray VF (by have := HL_VF.out; simp; omega)] at hS
      refine wp_store_mid 42 _ _ rfl (wB).heap.size 0 VF.toArray rfl rfl (hA.there _ (by have := HL_VF.out; simp; omega)) (by simpa using HI_VF.out) HO_VF.out ?_
      refine hK.out _ _ (HKR.out _ ((And.left hHeld).1.sets hne hnw 0 VF)) (fun hHeld => ?_)
      clear hK K
      (try simp only [Act.put])
      refine wpAnyH_take (i := 11) (oi := { dst := some 15, op := Op.assign (Operand.tmp 102), type := 4, pos := "ref.go:83", after := #[{ on := 8, ground := Ground.data }, { on := 10, ground := Ground.chain }, { on := 0, ground := Ground.phase }, { on := 1, ground := Ground.phase }, { on := 2, ground := Ground.phase }, { on := 3, ground := Ground.phase }, { on := 4, ground := Ground.phase }, { on := 5, ground := Ground.phase }, { on := 6, ground := Ground.phase }, { on := 7, ground := Ground.phase }, { on := 8, ground := Ground.phase }, { on := 9, ground := Ground.phase }, { on := 10, ground := Ground.phase }], guard := none }) (v := ?_) rfl (by kernel_rfl) (by kernel_rfl) (by kernel_rfl) (fun _ _ _ h => h) (Or.inl ⟨by rfl, ?_⟩) (by assumption) ?_
      rotate_left
      · (intro ww hSw; (try dsimp only at hSw); go_simp; try with_reducible rfl)
      (try simp only [Act.put, List.setIfInBounds_toArray, List.set_cons_zero, List.set_cons_succ])
      refine wpAnyH_done (by kernel_rfl) ?_ _
      refine NoPanic.normal ?_
      have HK7 := Lib.hid (And.left hHeld).1
      have HSS := Lib.hid hS
      clear hHeld hS hA HKR
      generalize (wB.alloc (.cells ([.int .i64 0, .int .i64 0, .int .i64 0, .int .i64 0, .int .i64 0] : List Value).toArray 42)).setCells (wB).heap.size 0 VF = w7 at *
      generalize (wB).heap.size = gl at *
      have hkc := HK7.out.hd
      have htf := hkc.there V0.toArray.size (Nat.le_refl _)
      go_wp2_with (((with_reducible (change wpList _ _ _ _ _ _)); (first | (refine Great.wpList_readTo rfl _ rfl (.agg V0.toArray) (run_execN (T := 24) (l := #[]) (m := #[]) rfl (by simp) (HB0.out _)) ?_) | (refine wpList_store_mid rfl 24 _ _ rfl (w.heap.size + 1) 0 V0.toArray rfl rfl htf (by simpa using HI_V0.out) HO_V0.out ?_))))
      have hk5 := Bk.sets V0 0 _ _ hkc
      rw [puts_whole V0.toArray V0 (by simp)] at hk5
      refine bodyPost_ret (v := .tuple #[.agg V0.toArray, .bool false]) ?_ rfl ?_
      · exact results_cell2 rfl rfl rfl (run_loadVar_mid _ (w.heap.size + 1) 0 24 V0 _ hk5.range Tryd.underlying24 rfl HI_V0.out)
      · rw [HS.out]
        exact ⟨by rw [HV0.out], below_sets _ (by omega) 0 _ HK7.out.2.1⟩
    · have hnw := (And.left hHeld).1.2.2
      have hne := fun x hx => (And.left hHeld).1.ne x hx
      go_simp
      refine hK.out _ _ (HKR.out _ ((And.left hHeld).1.alloc _)) (fun hHeld => ?_)
      clear hK K
      (try simp only [Act.put, List.setIfInBounds_toArray, List.set_cons_zero, List.set_cons_succ])
      have hA := bk_new (wA) 42 ([.int .i64 0, .int .i64 0, .int .i64 0, .int .i64 0, .int .i64 0] : List Value).toArray
      have hLn := hLn.below ((Below.refl _ _).alloc (Nat.le_refl _) (.cells ([.int .i64 0, .int .i64 0, .int .i64 0, .int .i64 0, .int .i64 0] : List Value).toArray 42))
      refine wpAnyH_ready (rs := [5]) (by kernel_rfl) (by simp) ?_
      refine AllReadyH.cons (o := { dst := some 100, op := Op.call { callee := Callee.value (Operand.func 24), args := #[Operand.tmp 98, Operand.tmp 99], argTypes := #[45, 24] }, type := 43, pos := "ref.go:83", after := #[{ on := 3, ground := Ground.data }, { on := 4, ground := Ground.data }, { on := 3, ground := Ground.chain }], guard := none }) rfl (fun K hK => ?_) AllReadyH.nil
      go_simp
      ((with_reducible refine (CF.out _ _ hLn).mono ?_); rintro e wB ⟨rfl, hb9⟩)
      refine hK.out _ _ (HKR.out _ ((And.left hHeld).1.below hb9 (Nat.le_refl _))) (fun hHeld => ?_)
      clear hK K
      (try simp only [Act.put, List.setIfInBounds_toArray, List.set_cons_zero, List.set_cons_succ])
      have hA := hA.below hb9 hA.lt
      refine wpAnyH_take (i := 6) (oi := { dst := some 94, op := Op.move (Operand.tmp 100), type := 43, pos := "ref.go:83", after := #[{ on := 5, ground := Ground.data }], guard := none }) (v := ?_) rfl (by kernel_rfl) (by kernel_rfl) (by kernel_rfl) (fun _ _ _ h => h) (Or.inl ⟨by rfl, ?_⟩) (by assumption) ?_
      rotate_left
      · (intro ww hSw; (try dsimp only at hSw); go_simp; try with_reducible rfl)
      (try simp only [Act.put, List.setIfInBounds_toArray, List.set_cons_zero, List.set_cons_succ])
      refine wpAnyH_take (i := 7) (oi := { dst := some 101, op := Op.extract (Operand.tmp 94) 0, type := 42, pos := "ref.go:83", after := #[{ on := 6, ground := Ground.data }], guard := none }) (v := ?_) rfl (by kernel_rfl) (by kernel_rfl) (by kernel_rfl) (fun _ _ _ h => h) (Or.inl ⟨by rfl, ?_⟩) (by assumption) ?_
      rotate_left
      · (intro ww hSw; (try dsimp only at hSw); go_simp; try with_reducible rfl)
      (try simp only [Act.put, List.setIfInBounds_toArray, List.set_cons_zero, List.set_cons_succ])
      refine wpAnyH_take (i := 8) (oi := { dst := some 102, op := Op.extract (Operand.tmp 94) 1, type := 4, pos := "ref.go:83", after := #[{ on := 6, ground := Ground.data }, { on := 10, ground := Ground.gcOnly Departure.lateStores }], guard := none }) (v := ?_) rfl (by kernel_rfl) (by kernel_rfl) (by kernel_rfl) (fun _ _ _ h => h) (Or.inl ⟨by rfl, ?_⟩) (by assumption) ?_
      rotate_left
      · (intro ww hSw; (try dsimp only at hSw); go_simp; try with_reducible rfl)
      (try simp only [Act.put, List.setIfInBounds_toArray, List.set_cons_zero, List.set_cons_succ])
      refine wpAnyH_ready (rs := [10]) (by kernel_rfl) (by simp) ?_
      refine AllReadyH.cons (o := { dst := none, op := Op.store 42 (Operand.tmp 14) (Operand.tmp 101), type := 0, pos := "ref.go:83", after := #[{ on := 9, ground := Ground.data }, { on := 7, ground := Ground.data }, { on := 5, ground := Ground.chain }, { on := 0, ground := Ground.phase }, { on := 1, ground := Ground.phase }, { on := 2, ground := Ground.phase }, { on := 3, ground := Ground.phase }, { on := 4, ground := Ground.phase }, { on := 5, ground := Ground.phase }, { on := 6, ground := Ground.phase }, { on := 7, ground := Ground.phase }, { on := 8, ground := Ground.textOnly Departure.lateStores }, { on := 9, ground := Ground.phase }], guard := none }) rfl (fun K hK => ?_) AllReadyH.nil
      rw [if_pos (by rfl)]
      have hS := Bk.sets VF 0 _ _ hA
      rw [puts_whole ([.int .i64 0, .int .i64 0, .int .i64 0, .int .i64 0, .int .i64 0] : List Value).toArray VF (by have := HL_VF.out; simp; omega)] at hS
      refine wp_store_mid 42 _ _ rfl (wA).heap.size 0 VF.toArray rfl rfl (hA.there _ (by have := HL_VF.out; simp; omega)) (by simpa using HI_VF.out) HO_VF.out ?_
      refine hK.out _ _ (HKR.out _ ((And.left hHeld).1.sets hne hnw 0 VF)) (fun hHeld => ?_)
      clear hK K
      (try simp only [Act.put])
      refine wpAnyH_take (i := 11) (oi := { dst := some 15, op := Op.assign (Operand.tmp 102), type := 4, pos := "ref.go:83", after := #[{ on := 8, ground := Ground.data }, { on := 10, ground := Ground.chain }, { on := 0, ground := Ground.phase }, { on := 1, ground := Ground.phase }, { on := 2, ground := Ground.phase }, { on := 3, ground := Ground.phase }, { on := 4, ground := Ground.phase }, { on := 5, ground := Ground.phase }, { on := 6, ground := Ground.phase }, { on := 7, ground := Ground.phase }, { on := 8, ground := Ground.phase }, { on := 9, ground := Ground.phase }, { on := 10, ground := Ground.phase }], guard := none }) (v := ?_) rfl (by kernel_rfl) (by kernel_rfl) (by kernel_rfl) (fun _ _ _ h => h) (Or.inl ⟨by rfl, ?_⟩) (by assumption) ?_
      rotate_left
      · (intro ww hSw; (try dsimp only at hSw); go_simp; try with_reducible rfl)
      (try simp only [Act.put, List.setIfInBounds_toArray, List.set_cons_zero, List.set_cons_succ])
      refine wpAnyH_done (by kernel_rfl) ?_ _
      refine NoPanic.normal ?_
      have HK7 := Lib.hid (And.left hHeld).1
      have HSS := Lib.hid hS
      clear hHeld hS hA HKR
      generalize wB.setCells (wA).heap.size 0 VF = w7 at *
      generalize (wA).heap.size = gl at *
      have hkc := HK7.out.hd
      have htf := hkc.there V0.toArray.size (Nat.le_refl _)
      go_wp2_with (((with_reducible (change wpList _ _ _ _ _ _)); (first | (refine Great.wpList_readTo rfl _ rfl (.agg V0.toArray) (run_execN (T := 24) (l := #[]) (m := #[]) rfl (by simp) (HB0.out _)) ?_) | (refine wpList_store_mid rfl 24 _ _ rfl (w.heap.size + 1) 0 V0.toArray rfl rfl htf (by simpa using HI_V0.out) HO_V0.out ?_))))
      have hk5 := Bk.sets V0 0 _ _ hkc
      rw [puts_whole V0.toArray V0 (by simp)] at hk5
      refine bodyPost_ret (v := .tuple #[.agg V0.toArray, .bool false]) ?_ rfl ?_
      · exact results_cell2 rfl rfl rfl (run_loadVar_mid _ (w.heap.size + 1) 0 24 V0 _ hk5.range Tryd.underlying24 rfl HI_V0.out)
      · rw [HS.out]
        exact ⟨by rw [HV0.out], below_sets _ (by omega) 0 _ HK7.out.2.1⟩
  · have hnw := (And.left hHeld).1.2.2
    have hne := fun x hx => (And.left hHeld).1.ne x hx
    go_simp
    refine hK.out _ _ (HKR.out _ ((And.left hHeld).1.alloc _)) (fun hHeld => ?_)
    clear hK K
    (try simp only [Act.put, List.setIfInBounds_toArray, List.set_cons_zero, List.set_cons_succ])
    have hA := bk_new (w1.drew) 42 ([.int .i64 0, .int .i64 0, .int .i64 0, .int .i64 0, .int .i64 0] : List Value).toArray
    refine wpAnyH_ready (rs := [3]) (by kernel_rfl) (by simp) ?_
    refine AllReadyH.cons (o := { dst := some 98, op := Op.call { callee := Callee.value (Operand.func 25), args := #[Operand.tmp 97], argTypes := #[3] }, type := 45, pos := "ref.go:83", after := #[{ on := 2, ground := Ground.data }], guard := none }) rfl (fun K hK => ?_) AllReadyH.nil
    go_simp
    ((with_reducible refine (rlines6_any _ _).mono ?_); rintro e wA ⟨vL, rfl, hLn, hb9⟩)
    refine hK.out _ _ (HKR.out _ ((And.left hHeld).1.below hb9 (Nat.le_refl _))) (fun hHeld => ?_)
    clear hK K
    (try simp only [Act.put, List.setIfInBounds_toArray, List.set_cons_zero, List.set_cons_succ])
    have hA := hA.below hb9 hA.lt
    refine wpAnyH_ready (rs := [5]) (by kernel_rfl) (by simp) ?_
    refine AllReadyH.cons (o := { dst := some 100, op := Op.call { callee := Callee.value (Operand.func 24), args := #[Operand.tmp 98, Operand.tmp 99], argTypes := #[45, 24] }, type := 43, pos := "ref.go:83", after := #[{ on := 3, ground := Ground.data }, { on := 4, ground := Ground.data }, { on := 3, ground := Ground.chain }], guard := none }) rfl (fun K hK => ?_) AllReadyH.nil
    go_simp
    ((with_reducible refine (CF.out _ _ hLn).mono ?_); rintro e wB ⟨rfl, hb9⟩)
    refine hK.out _ _ (HKR.out _ ((And.left hHeld).1.below hb9 (Nat.le_refl _))) (fun hHeld => ?_)
    clear hK K
    (try simp only [Act.put, List.setIfInBounds_toArray, List.set_cons_zero, List.set_cons_succ])
    have hA := hA.below hb9 hA.lt
    refine wpAnyH_take (i := 6) (oi := { dst := some 94, op := Op.move (Operand.tmp 100), type := 43, pos := "ref.go:83", after := #[{ on := 5, ground := Ground.data }], guard := none }) (v := ?_) rfl (by kernel_rfl) (by kernel_rfl) (by kernel_rfl) (fun _ _ _ h => h) (Or.inl ⟨by rfl, ?_⟩) (by assumption) ?_
    rotate_left
    · (intro ww hSw; (try dsimp only at hSw); go_simp; try with_reducible rfl)
    (try simp only [Act.put, List.setIfInBounds_toArray, List.set_cons_zero, List.set_cons_succ])
    refine wpAnyH_take (i := 7) (oi := { dst := some 101, op := Op.extract (Operand.tmp 94) 0, type := 42, pos := "ref.go:83", after := #[{ on := 6, ground := Ground.data }], guard := none }) (v := ?_) rfl (by kernel_rfl) (by kernel_rfl) (by kernel_rfl) (fun _ _ _ h => h) (Or.inl ⟨by rfl, ?_⟩) (by assumption) ?_
    rotate_left
    · (intro ww hSw; (try dsimp only at hSw); go_simp; try with_reducible rfl)
    (try simp only [Act.put, List.setIfInBounds_toArray, List.set_cons_zero, List.set_cons_succ])
    refine wpAnyH_take (i := 8) (oi := { dst := some 102, op := Op.extract (Operand.tmp 94) 1, type := 4, pos := "ref.go:83", after := #[{ on := 6, ground := Ground.data }, { on := 10, ground := Ground.gcOnly Departure.lateStores }], guard := none }) (v := ?_) rfl (by kernel_rfl) (by kernel_rfl) (by kernel_rfl) (fun _ _ _ h => h) (Or.inl ⟨by rfl, ?_⟩) (by assumption) ?_
    rotate_left
    · (intro ww hSw; (try dsimp only at hSw); go_simp; try with_reducible rfl)
    (try simp only [Act.put, List.setIfInBounds_toArray, List.set_cons_zero, List.set_cons_succ])
    refine wpAnyH_ready (rs := [10]) (by kernel_rfl) (by simp) ?_
    refine AllReadyH.cons (o := { dst := none, op := Op.store 42 (Operand.tmp 14) (Operand.tmp 101), type := 0, pos := "ref.go:83", after := #[{ on := 9, ground := Ground.data }, { on := 7, ground := Ground.data }, { on := 5, ground := Ground.chain }, { on := 0, ground := Ground.phase }, { on := 1, ground := Ground.phase }, { on := 2, ground := Ground.phase }, { on := 3, ground := Ground.phase }, { on := 4, ground := Ground.phase }, { on := 5, ground := Ground.phase }, { on := 6, ground := Ground.phase }, { on := 7, ground := Ground.phase }, { on := 8, ground := Ground.textOnly Departure.lateStores }, { on := 9, ground := Ground.phase }], guard := none }) rfl (fun K hK => ?_) AllReadyH.nil
    rw [if_pos (by rfl)]
    have hS := Bk.sets VF 0 _ _ hA
    rw [puts_whole ([.int .i64 0, .int .i64 0, .int .i64 0, .int .i64 0, .int .i64 0] : List Value).toArray VF (by have := HL_VF.out; simp; omega)] at hS
    refine wp_store_mid 42 _ _ rfl (w1.drew).heap.size 0 VF.toArray rfl rfl (hA.there _ (by have := HL_VF.out; simp; omega)) (by simpa using HI_VF.out) HO_VF.out ?_
    refine hK.out _ _ (HKR.out _ ((And.left hHeld).1.sets hne hnw 0 VF)) (fun hHeld => ?_)
    clear hK K
    (try simp only [Act.put])
    refine wpAnyH_take (i := 11) (oi := { dst := some 15, op := Op.assign (Operand.tmp 102), type := 4, pos := "ref.go:83", after := #[{ on := 8, ground := Ground.data }, { on := 10, ground := Ground.chain }, { on := 0, ground := Ground.phase }, { on := 1, ground := Ground.phase }, { on := 2, ground := Ground.phase }, { on := 3, ground := Ground.phase }, { on := 4, ground := Ground.phase }, { on := 5, ground := Ground.phase }, { on := 6, ground := Ground.phase }, { on := 7, ground := Ground.phase }, { on := 8, ground := Ground.phase }, { on := 9, ground := Ground.phase }, { on := 10, ground := Ground.phase }], guard := none }) (v := ?_) rfl (by kernel_rfl) (by kernel_rfl) (by kernel_rfl) (fun _ _ _ h => h) (Or.inl ⟨by rfl, ?_⟩) (by assumption) ?_
    rotate_left
    · (intro ww hSw; (try dsimp only at hSw); go_simp; try with_reducible rfl)
    (try simp only [Act.put, List.setIfInBounds_toArray, List.set_cons_zero, List.set_cons_succ])
    refine wpAnyH_done (by kernel_rfl) ?_ _
    refine NoPanic.normal ?_
    have HK7 := Lib.hid (And.left hHeld).1
    have HSS := Lib.hid hS
    clear hHeld hS hA HKR
    generalize wB.setCells (w1.drew).heap.size 0 VF = w7 at *
    rw [show (w1.drew).heap.size = w1.heap.size from rfl] at HSS
    generalize w1.heap.size = gl at *
    have hkc := HK7.out.hd
    have htf := hkc.there V0.toArray.size (Nat.le_refl _)
    go_wp2_with (((with_reducible (change wpList _ _ _ _ _ _)); (first | (refine Great.wpList_readTo rfl _ rfl (.agg V0.toArray) (run_execN (T := 24) (l := #[]) (m := #[]) rfl (by simp) (HB0.out _)) ?_) | (refine wpList_store_mid rfl 24 _ _ rfl (w.heap.size + 1) 0 V0.toArray rfl rfl htf (by simpa using HI_V0.out) HO_V0.out ?_))))
    have hk5 := Bk.sets V0 0 _ _ hkc
    rw [puts_whole V0.toArray V0 (by simp)] at hk5
    refine bodyPost_ret (v := .tuple #[.agg V0.toArray, .bool false]) ?_ rfl ?_
    · exact results_cell2 rfl rfl rfl (run_loadVar_mid _ (w.heap.size + 1) 0 24 V0 _ hk5.range Tryd.underlying24 rfl HI_V0.out)
    · rw [HS.out]
      exact ⟨by rw [HV0.out], below_sets _ (by omega) 0 _ HK7.out.2.1⟩
set_option maxRecDepth 100000 in
set_option maxHeartbeats 4000000 in
theorem rsix_tabC_some (m : Mg) (a b len : Int) (w : World) (hr : 0 ≤ m.rs ∧ m.rs < 4294967296) (hb : mtus a b = true) (x : Ln) (g1 : m.kd = 12) (g2 : m.cd ≠ 0) (g3 : m.cd ≠ 2) (hf : findL (ln6 m.rs) m.kd m.cd = some x) : Calls Tryd.prog 15 #[.agg m.vals.toArray, .int .i64 a, .int .i64 b, .int .i64 len] w (fun e w' => e = .returned (.tuple #[.agg (six m a b len).1.vals.toArray, .bool (six m a b len).2]) ∧ Below w.heap.size w w') := by
  have HS : Hid (six m a b len = (⟨x.2.2.1, x.2.2.2.1, x.2.2.2.2, m.da⟩, true)) := Lib.hid (by unfold six; rw [hb, if_neg (by simp), if_neg (by omega), if_neg (by omega), hf]; rfl)
  have HBn : Hid (∀ W, Calls Tryd.prog 23 #[.int .i64 a, .int .i64 b] W fun e w' => e = .returned (.bool true) ∧ W = w') := Lib.hid (fun W => by rw [← hb]; exact rbounds_any a b W)
  clear hb
  have hrx := ln6_mem hf
  have kN : IntKind.u32.wrap x.2.2.2.2 = x.2.2.2.2 := by rw [IntKind.wrap_u32]; omega
  obtain ⟨VF, hVF⟩ : ∃ V, V = lnv x := ⟨_, rfl⟩
  have CF : Hid (∀ (W : World) (v : Value), Lns W v (ln6 m.rs) → Calls Tryd.prog 24 #[v, .agg m.vals.toArray] W fun e w' => e = .returned (.tuple #[.agg VF.toArray, .bool true]) ∧ Below W.heap.size W w') := Lib.hid (fun W v hx => by
    have h := rfind_any v (ln6 m.rs) m W hx (by show 18 ≤ 1000; omega)
    rw [hf] at h
    rw [hVF]
    exact h)
  have HI_VF : Hid ((Tryd.prog.info? 42).map (·.size) = some VF.length) := Lib.hid (by rw [hVF]; exact Tryd.sizeLn _)
  have HO_VF : Hid (VF.toArray.all (·.oneCell') = true) := Lib.hid (by rw [hVF]; exact lnv_one _)
  have HL_VF : Hid (VF.length = 5) := Lib.hid (by rw [hVF]; rfl)
  have HF2 : Hid (VF[2]? = some (.int .i64 x.2.2.1)) := Lib.hid (by rw [hVF]; rfl)
  have HF3 : Hid (VF[3]? = some (.int .i64 x.2.2.2.1)) := Lib.hid (by rw [hVF]; rfl)
  have HF4 : Hid (VF[4]? = some (.int .i64 x.2.2.2.2)) := Lib.hid (by rw [hVF]; rfl)
  clear hVF hf
  have k0 : (m.cd == 0) = false := by rw [beq_eq_false_iff_ne]; exact g2
  have k2 : (m.cd == 2) = false := by rw [beq_eq_false_iff_ne]; exact g3
  have kid : IntKind.i64.wrap m.rs = m.rs := IntWalk.i64_in _ (by omega)
  obtain ⟨V0, hV0⟩ : ∃ V, V = mg0.vals := ⟨_, rfl⟩
  have HB0 : Hid (∀ W, (Instr.build 24 #[]).run Tryd.prog W = .ok (.agg V0.toArray) W) := Lib.hid (fun W => by rw [hV0]; exact mgBuild W)
  have HI_V0 : Hid ((Tryd.prog.info? 24).map (·.size) = some V0.length) := Lib.hid (by rw [hV0]; exact Tryd.infoMg _)
  have HO_V0 : Hid (V0.toArray.all (·.oneCell') = true) := Lib.hid (by rw [hV0]; exact mg_one _)
  have HL_V0 : Hid (V0.length = 4) := Lib.hid (by rw [hV0]; rfl)
  have hz0 : V0.toArray = #[.int .i64 0, .int .i64 0, .int .u32 0, .string ⟨#[]⟩] := by rw [hV0]; rfl
  have HV0 := Lib.hid hV0
  clear hV0
  have HI_VM : Hid ((Tryd.prog.info? 24).map (·.size) = some m.vals.length) := Lib.hid (Tryd.infoMg _)
  have HM0 : Hid (m.vals[0]? = some (.int .i64 12)) := Lib.hid (by rw [← g1]; rfl)
  have HM1 : Hid (m.vals[1]? = some (.int .i64 m.cd)) := Lib.hid (by exact rfl)
  have HM2 : Hid (m.vals[2]? = some (.int .u32 m.rs)) := Lib.hid (by exact rfl)
  have HM3 : Hid (m.vals[3]? = some (.string m.da)) := Lib.hid (by exact rfl)
  have HK1 : Hid (Kp w w.heap.size [(w.heap.size + 1, 24, V0), (w.heap.size, 24, m.vals)] ((w.alloc (.cells m.vals.toArray 24)).alloc (.cells V0.toArray 24))) := Lib.hid (by
    have h := (Kp.start w).new 24 m.vals
    have e1 : (w.alloc (.cells m.vals.toArray 24)).heap.size = w.heap.size + 1 := by simp
    have h2 := h.new 24 V0
    rwa [e1] at h2)
  generalize m.vals = VM at *
  generalize hw1 : (w.alloc (.cells VM.toArray 24)).alloc (.cells V0.toArray 24) = w1 at *
  rw [hz0] at hw1
  go_enter Tryd.func15, Tryd.ntmps15
  go_upto_region 1 with (fail)
  clear hw1 hz0
  go_wp2_with (fail)
  refine (HBn.out _).mono ?_
  rintro e w99 ⟨rfl, rfl⟩
  have c0 : w1.cell? ⟨w.heap.size, 0, none⟩ = some (.int .i64 12) := HK1.out.tl.hd.at HM0.out
  have c1 : w1.cell? ⟨w.heap.size, 1, none⟩ = some (.int .i64 m.cd) := HK1.out.tl.hd.at HM1.out
  go_upto_region 21 with (fail)
  clear c0 c1
  have HKR : Hid (∀ W : World, Kp w w.heap.size [(w.heap.size + 1, 24, V0), (w.heap.size, 24, VM)] W → (fun w' => (Kp w w.heap.size [(w.heap.size + 1, 24, V0), (w.heap.size, 24, VM)] w' ∧ w'.rangeAt (w.heap.size) 0 VM) ∧ w'.cell? ⟨w.heap.size, 2, none⟩ = some (.int .u32 m.rs)) W) := Lib.hid (fun W h => ⟨⟨h, h.tl.hd.range⟩, h.tl.hd.at HM2.out⟩)
  refine wp_region_noPanic ?_
  refine wp_region_held_drew (S := fun w' => (Kp w w.heap.size [(w.heap.size + 1, 24, V0), (w.heap.size, 24, VM)] w' ∧ w'.rangeAt (w.heap.size) 0 VM) ∧ w'.cell? ⟨w.heap.size, 2, none⟩ = some (.int .u32 m.rs)) (by kernel_rfl) (HKR.out _ HK1.out.drew) (fun hHeld => ?_)
  refine wpAnyH_take (i := 0) (oi := { dst := some 95, op := Op.fieldAddr 24 (Operand.tmp 4) 2, type := 0, pos := "ref.go:83", after := #[], guard := none }) (v := ?_) rfl (by kernel_rfl) (by kernel_rfl) (by kernel_rfl) (fun _ _ _ h => h) (Or.inl ⟨by rfl, ?_⟩) (by assumption) ?_
  rotate_left
  · (intro ww hSw; (try dsimp only at hSw); go_simp; try with_reducible rfl)
  (try simp only [Act.put, List.setIfInBounds_toArray, List.set_cons_zero, List.set_cons_succ])
  refine wpAnyH_take (i := 1) (oi := { dst := some 96, op := Op.load 22 (Operand.tmp 95), type := 22, pos := "ref.go:83", after := #[{ on := 0, ground := Ground.data }], guard := none }) (v := ?_) rfl (by kernel_rfl) (by kernel_rfl) (by kernel_rfl) (fun _ _ _ h => h) (Or.inl ⟨by rfl, ?_⟩) (by assumption) ?_
  rotate_left
  · (intro ww hSw; (try dsimp only at hSw); go_simp; try with_reducible rfl)
  (try simp only [Act.put, List.setIfInBounds_toArray, List.set_cons_zero, List.set_cons_succ])
  refine wpAnyH_take (i := 2) (oi := { dst := some 97, op := Op.convert 22 3 (Operand.tmp 96), type := 3, pos := "ref.go:83", after := #[{ on := 1, ground := Ground.data }], guard := none }) (v := ?_) rfl (by kernel_rfl) (by kernel_rfl) (by kernel_rfl) (fun _ _ _ h => h) (Or.inl ⟨by rfl, ?_⟩) (by assumption) ?_
  rotate_left
  · (intro ww hSw; (try dsimp only at hSw); go_simp; try with_reducible rfl)
  (try simp only [Act.put, List.setIfInBounds_toArray, List.set_cons_zero, List.set_cons_succ])
  refine wpAnyH_take (i := 4) (oi := { dst := some 99, op := Op.load 24 (Operand.tmp 4), type := 24, pos := "ref.go:83", after := #[], guard := none }) (v := .agg (VM).toArray) rfl (by kernel_rfl) (by kernel_rfl) (by kernel_rfl) (fun _ _ _ h => h) (yieldsIf_load_mid (by rfl) _ _ rfl (w.heap.size) 0 rfl (VM) _ (fun ww hSw => (And.left hSw).2) Tryd.underlying24 rfl HI_VM.out) (by assumption) ?_
  (try simp only [Act.put, List.setIfInBounds_toArray, List.set_cons_zero, List.set_cons_succ])
  refine wpAnyH_ready (rs := [3, 9]) (by kernel_rfl) (by simp) ?_
  refine AllReadyH.cons (o := { dst := some 98, op := Op.call { callee := Callee.value (Operand.func 25), args := #[Operand.tmp 97], argTypes := #[3] }, type := 45, pos := "ref.go:83", after := #[{ on := 2, ground := Ground.data }], guard := none }) rfl (fun K hK => ?_) (AllReadyH.cons (o := { dst := some 14, op := Op.alloc 42, type := 0, pos := "ref.go:83", after := #[], guard := none }) rfl (fun K hK => ?_) AllReadyH.nil)
  · go_simp
    ((with_reducible refine (rlines6_any _ _).mono ?_); rintro e wA ⟨vL, rfl, hLn, hb9⟩)
    refine hK.out _ _ (HKR.out _ ((And.left hHeld).1.below hb9 (Nat.le_refl _))) (fun hHeld => ?_)
    clear hK K
    (try simp only [Act.put, List.setIfInBounds_toArray, List.set_cons_zero, List.set_cons_succ])
    refine wpAnyH_ready (rs := [5, 9]) (by kernel_rfl) (by simp) ?_
    refine AllReadyH.cons (o := { dst := some 100, op := Op.call { callee := Callee.value (Operand.func 24), args := #[Operand.tmp 98, Operand.tmp 99], argTypes := #[45, 24] }, type := 43, pos := "ref.go:83", after := #[{ on := 3, ground := Ground.data }, { on := 4, ground := Ground.data }, { on := 3, ground := Ground.chain }], guard := none }) rfl (fun K hK => ?_) (AllReadyH.cons (o := { dst := some 14, op := Op.alloc 42, type := 0, pos := "ref.go:83", after := #[], guard := none }) rfl (fun K hK => ?_) AllReadyH.nil)
    · go_simp
      ((with_reducible refine (CF.out _ _ hLn).mono ?_); rintro e wB ⟨rfl, hb9⟩)
      refine hK.out _ _ (HKR.out _ ((And.left hHeld).1.below hb9 (Nat.le_refl _))) (fun hHeld => ?_)
      clear hK K
      (try simp only [Act.put, List.setIfInBounds_toArray, List.set_cons_zero, List.set_cons_succ])
      refine wpAnyH_take (i := 6) (oi := { dst := some 94, op := Op.move (Operand.tmp 100), type := 43, pos := "ref.go:83", after := #[{ on := 5, ground := Ground.data }], guard := none }) (v := ?_) rfl (by kernel_rfl) (by kernel_rfl) (by kernel_rfl) (fun _ _ _ h => h) (Or.inl ⟨by rfl, ?_⟩) (by assumption) ?_
      rotate_left
      · (intro ww hSw; (try dsimp only at hSw); go_simp; try with_reducible rfl)
      (try simp only [Act.put, List.setIfInBounds_toArray, List.set_cons_zero, List.set_cons_succ])
      refine wpAnyH_take (i := 7) (oi := { dst := some 101, op := Op.extract (Operand.tmp 94) 0, type := 42, pos := "ref.go:83", after := #[{ on := 6, ground := Ground.data }], guard := none }) (v := ?_) rfl (by kernel_rfl) (by kernel_rfl) (by kernel_rfl) (fun _ _ _ h => h) (Or.inl ⟨by rfl, ?_⟩) (by assumption) ?_
      rotate_left
      · (intro ww hSw; (try dsimp only at hSw); go_simp; try with_reducible rfl)
      (try simp only [Act.put, List.setIfInBounds_toArray, List.set_cons_zero, List.set_cons_succ])
      refine wpAnyH_take (i := 8) (oi := { dst := some 102, op := Op.extract (Operand.tmp 94) 1, type := 4, pos := "ref.go:83", after := #[{ on := 6, ground := Ground.data }, { on := 10, ground := Ground.gcOnly Departure.lateStores }], guard := none }) (v := ?_) rfl (by kernel_rfl) (by kernel_rfl) (by kernel_rfl) (fun _ _ _ h => h) (Or.inl ⟨by rfl, ?_⟩) (by assumption) ?_
      rotate_left
      · (intro ww hSw; (try dsimp only at hSw); go_simp; try with_reducible rfl)
      (try simp only [Act.put, List.setIfInBounds_toArray, List.set_cons_zero, List.set_cons_succ])
      refine wpAnyH_ready (rs := [9]) (by kernel_rfl) (by simp) ?_
      refine AllReadyH.cons (o := { dst := some 14, op := Op.alloc 42, type := 0, pos := "ref.go:83", after := #[], guard := none }) rfl (fun K hK => ?_) AllReadyH.nil
      have hnw := (And.left hHeld).1.2.2
      have hne := fun x hx => (And.left hHeld).1.ne x hx
      go_simp
      refine hK.out _ _ (HKR.out _ ((And.left hHeld).1.alloc _)) (fun hHeld => ?_)
      clear hK K
      (try simp only [Act.put, List.setIfInBounds_toArray, List.set_cons_zero, List.set_cons_succ])
      have hA := bk_new (wB) 42 ([.int .i64 0, .int .i64 0, .int .i64 0, .int .i64 0, .int .i64 0] : List Value).toArray
      refine wpAnyH_ready (rs := [10]) (by kernel_rfl) (by simp) ?_
      refine AllReadyH.cons (o := { dst := none, op := Op.store 42 (Operand.tmp 14) (Operand.tmp 101), type := 0, pos := "ref.go:83", after := #[{ on := 9, ground := Ground.data }, { on := 7, ground := Ground.data }, { on := 5, ground := Ground.chain }, { on := 0, ground := Ground.phase }, { on := 1, ground := Ground.phase }, { on := 2, ground := Ground.phase }, { on := 3, ground := Ground.phase }, { on := 4, ground := Ground.phase }, { on := 5, ground := Ground.phase }, { on := 6, ground := Ground.phase }, { on := 7, ground := Ground.phase }, { on := 8, ground := Ground.textOnly Departure.lateStores }, { on := 9, ground := Ground.phase }], guard := none }) rfl (fun K hK => ?_) AllReadyH.nil
      rw [if_pos (by rfl)]
      have hS := Bk.sets VF 0 _ _ hA
      rw [puts_whole ([.int .i64 0, .int .i64 0, .int .i64 0, .int .i64 0, .int .i64 0] : List Value).toArray VF (by have := HL_VF.out; simp; omega)] at hS
      refine wp_store_mid 42 _ _ rfl (wB).heap.size 0 VF.toArray rfl rfl (hA.there _ (by have := HL_VF.out; simp; omega)) (by simpa using HI_VF.out) HO_VF.out ?_
      refine hK.out _ _ (HKR.out _ ((And.left hHeld).1.sets hne hnw 0 VF)) (fun hHeld => ?_)
      clear hK K
      (try simp only [Act.put])
      refine wpAnyH_take (i := 11) (oi := { dst := some 15, op := Op.assign (Operand.tmp 102), type := 4, pos := "ref.go:83", after := #[{ on := 8, ground := Ground.data }, { on := 10, ground := Ground.chain }, { on := 0, ground := Ground.phase }, { on := 1, ground := Ground.phase }, { on := 2, ground := Ground.phase }, { on := 3, ground := Ground.phase }, { on := 4, ground := Ground.phase }, { on := 5, ground := Ground.phase }, { on := 6, ground := Ground.phase }, { on := 7, ground := Ground.phase }, { on := 8, ground := Ground.phase }, { on := 9, ground := Ground.phase }, { on := 10, ground := Ground.phase }], guard := none }) (v := ?_) rfl (by kernel_rfl) (by kernel_rfl) (by kernel_rfl) (fun _ _ _ h => h) (Or.inl ⟨by rfl, ?_⟩) (by assumption) ?_
      rotate_left
      · (intro ww hSw; (try dsimp only at hSw); go_simp; try with_reducible rfl)
      (try simp only [Act.put, List.setIfInBounds_toArray, List.set_cons_zero, List.set_cons_succ])
      refine wpAnyH_done (by kernel_rfl) ?_ _
      refine NoPanic.normal ?_
      have HK7 := Lib.hid (And.left hHeld).1
      have HSS := Lib.hid hS
      clear hHeld hS hA HKR
      generalize (wB.alloc (.cells ([.int .i64 0, .int .i64 0, .int .i64 0, .int .i64 0, .int .i64 0] : List Value).toArray 42)).setCells (wB).heap.size 0 VF = w7 at *
      generalize (wB).heap.size = gl at *
      have e2 : w7.cell? ⟨gl, 2, none⟩ = some (.int .i64 x.2.2.1) := HSS.out.at HF2.out
      have e3 : w7.cell? ⟨gl, 3, none⟩ = some (.int .i64 x.2.2.2.1) := HSS.out.at HF3.out
      have e4 : w7.cell? ⟨gl, 4, none⟩ = some (.int .i64 x.2.2.2.2) := HSS.out.at HF4.out
      have c3 : w7.cell? ⟨w.heap.size, 3, none⟩ = some (.string m.da) := HK7.out.tl.hd.at HM3.out
      have hkc := HK7.out.hd
      have htf := hkc.there 4 (by have := HL_V0.out; simp; omega)
      have HIN : Hid ((Tryd.prog.info? 24).map (·.size) = some ([.int .i64 x.2.2.1, .int .i64 x.2.2.2.1, .int .u32 x.2.2.2.2, .string m.da] : List Value).length) := Lib.hid (Tryd.infoMg (⟨x.2.2.1, x.2.2.2.1, x.2.2.2.2, m.da⟩ : Mg))
      go_wp2_with (((with_reducible (change wpList _ _ _ _ _ _)); ((refine wpList_store_mid rfl 24 _ _ rfl (w.heap.size + 1) 0 ([.int .i64 x.2.2.1, .int .i64 x.2.2.2.1, .int .u32 x.2.2.2.2, .string m.da] : List Value).toArray rfl rfl htf (by simpa using HIN.out) (by simp [Value.oneCell']) ?_))))
      have hk5 := Bk.sets [.int .i64 x.2.2.1, .int .i64 x.2.2.2.1, .int .u32 x.2.2.2.2, .string m.da] 0 _ _ hkc
      rw [puts_whole V0.toArray [.int .i64 x.2.2.1, .int .i64 x.2.2.2.1, .int .u32 x.2.2.2.2, .string m.da] (by have := HL_V0.out; simp; omega)] at hk5
      refine bodyPost_ret (v := .tuple #[.agg ([.int .i64 x.2.2.1, .int .i64 x.2.2.2.1, .int .u32 x.2.2.2.2, .string m.da] : List Value).toArray, .bool true]) ?_ rfl ?_
      · exact results_cell2 rfl rfl rfl (run_loadVar_mid _ (w.heap.size + 1) 0 24 [.int .i64 x.2.2.1, .int .i64 x.2.2.2.1, .int .u32 x.2.2.2.2, .string m.da] _ hk5.range Tryd.underlying24 rfl HIN.out)
      · rw [HS.out]
        exact ⟨rfl, below_sets _ (by omega) 0 _ HK7.out.2.1⟩
    · have hnw := (And.left hHeld).1.2.2
      have hne := fun x hx => (And.left hHeld).1.ne x hx
      go_simp
      refine hK.out _ _ (HKR.out _ ((And.left hHeld).1.alloc _)) (fun hHeld => ?_)
      clear hK K
      (try simp only [Act.put, List.setIfInBounds_toArray, List.set_cons_zero, List.set_cons_succ])
      have hA := bk_new (wA) 42 ([.int .i64 0, .int .i64 0, .int .i64 0, .int .i64 0, .int .i64 0] : List Value).toArray
      have hLn := hLn.below ((Below.refl _ _).alloc (Nat.le_refl _) (.cells ([.int .i64 0, .int .i64 0, .int .i64 0, .int .i64 0, .int .i64 0] : List Value).toArray 42))
      refine wpAnyH_ready (rs := [5]) (by kernel_rfl) (by simp) ?_
      refine AllReadyH.cons (o := { dst := some 100, op := Op.call { callee := Callee.value (Operand.func 24), args := #[Operand.tmp 98, Operand.tmp 99], argTypes := #[45, 24] }, type := 43, pos := "ref.go:83", after := #[{ on := 3, ground := Ground.data }, { on := 4, ground := Ground.data }, { on := 3, ground := Ground.chain }], guard := none }) rfl (fun K hK => ?_) AllReadyH.nil
      go_simp
      ((with_reducible refine (CF.out _ _ hLn).mono ?_); rintro e wB ⟨rfl, hb9⟩)
      refine hK.out _ _ (HKR.out _ ((And.left hHeld).1.below hb9 (Nat.le_refl _))) (fun hHeld => ?_)
      clear hK K
      (try simp only [Act.put, List.setIfInBounds_toArray, List.set_cons_zero, List.set_cons_succ])
      have hA := hA.below hb9 hA.lt
      refine wpAnyH_take (i := 6) (oi := { dst := some 94, op := Op.move (Operand.tmp 100), type := 43, pos := "ref.go:83", after := #[{ on := 5, ground := Ground.data }], guard := none }) (v := ?_) rfl (by kernel_rfl) (by kernel_rfl) (by kernel_rfl) (fun _ _ _ h => h) (Or.inl ⟨by rfl, ?_⟩) (by assumption) ?_
      rotate_left
      · (intro ww hSw; (try dsimp only at hSw); go_simp; try with_reducible rfl)
      (try simp only [Act.put, List.setIfInBounds_toArray, List.set_cons_zero, List.set_cons_succ])
      refine wpAnyH_take (i := 7) (oi := { dst := some 101, op := Op.extract (Operand.tmp 94) 0, type := 42, pos := "ref.go:83", after := #[{ on := 6, ground := Ground.data }], guard := none }) (v := ?_) rfl (by kernel_rfl) (by kernel_rfl) (by kernel_rfl) (fun _ _ _ h => h) (Or.inl ⟨by rfl, ?_⟩) (by assumption) ?_
      rotate_left
      · (intro ww hSw; (try dsimp only at hSw); go_simp; try with_reducible rfl)
      (try simp only [Act.put, List.setIfInBounds_toArray, List.set_cons_zero, List.set_cons_succ])
      refine wpAnyH_take (i := 8) (oi := { dst := some 102, op := Op.extract (Operand.tmp 94) 1, type := 4, pos := "ref.go:83", after := #[{ on := 6, ground := Ground.data }, { on := 10, ground := Ground.gcOnly Departure.lateStores }], guard := none }) (v := ?_) rfl (by kernel_rfl) (by kernel_rfl) (by kernel_rfl) (fun _ _ _ h => h) (Or.inl ⟨by rfl, ?_⟩) (by assumption) ?_
      rotate_left
      · (intro ww hSw; (try dsimp only at hSw); go_simp; try with_reducible rfl)
      (try simp only [Act.put, List.setIfInBounds_toArray, List.set_cons_zero, List.set_cons_succ])
      refine wpAnyH_ready (rs := [10]) (by kernel_rfl) (by simp) ?_
      refine AllReadyH.cons (o := { dst := none, op := Op.store 42 (Operand.tmp 14) (Operand.tmp 101), type := 0, pos := "ref.go:83", after := #[{ on := 9, ground := Ground.data }, { on := 7, ground := Ground.data }, { on := 5, ground := Ground.chain }, { on := 0, ground := Ground.phase }, { on := 1, ground := Ground.phase }, { on := 2, ground := Ground.phase }, { on := 3, ground := Ground.phase }, { on := 4, ground := Ground.phase }, { on := 5, ground := Ground.phase }, { on := 6, ground := Ground.phase }, { on := 7, ground := Ground.phase }, { on := 8, ground := Ground.textOnly Departure.lateStores }, { on := 9, ground := Ground.phase }], guard := none }) rfl (fun K hK => ?_) AllReadyH.nil
      rw [if_pos (by rfl)]
      have hS := Bk.sets VF 0 _ _ hA
      rw [puts_whole ([.int .i64 0, .int .i64 0, .int .i64 0, .int .i64 0, .int .i64 0] : List Value).toArray VF (by have := HL_VF.out; simp; omega)] at hS
      refine wp_store_mid 42 _ _ rfl (wA).heap.size 0 VF.toArray rfl rfl (hA.there _ (by have := HL_VF.out; simp; omega)) (by simpa using HI_VF.out) HO_VF.out ?_
      refine hK.out _ _ (HKR.out _ ((And.left hHeld).1.sets hne hnw 0 VF)) (fun hHeld => ?_)
      clear hK K
      (try simp only [Act.put])
      refine wpAnyH_take (i := 11) (oi := { dst := some 15, op := Op.assign (Operand.tmp 102), type := 4, pos := "ref.go:83", after := #[{ on := 8, ground := Ground.data }, { on := 10, ground := Ground.chain }, { on := 0, ground := Ground.phase }, { on := 1, ground := Ground.phase }, { on := 2, ground := Ground.phase }, { on := 3, ground := Ground.phase }, { on := 4, ground := Ground.phase }, { on := 5, ground := Ground.phase }, { on := 6, ground := Ground.phase }, { on := 7, ground := Ground.phase }, { on := 8, ground := Ground.phase }, { on := 9, ground := Ground.phase }, { on := 10, ground := Ground.phase }], guard := none }) (v := ?_) rfl (by kernel_rfl) (by kernel_rfl) (by kernel_rfl) (fun _ _ _ h => h) (Or.inl ⟨by rfl, ?_⟩) (by assumption) ?_
      rotate_left
      · (intro ww hSw; (try dsimp only at hSw); go_simp; try with_reducible rfl)
      (try simp only [Act.put, List.setIfInBounds_toArray, List.set_cons_zero, List.set_cons_succ])
      refine wpAnyH_done (by kernel_rfl) ?_ _
      refine NoPanic.normal ?_
      have HK7 := Lib.hid (And.left hHeld).1
      have HSS := Lib.hid hS
      clear hHeld hS hA HKR
      generalize wB.setCells (wA).heap.size 0 VF = w7 at *
      generalize (wA).heap.size = gl at *
      have e2 : w7.cell? ⟨gl, 2, none⟩ = some (.int .i64 x.2.2.1) := HSS.out.at HF2.out
      have e3 : w7.cell? ⟨gl, 3, none⟩ = some (.int .i64 x.2.2.2.1) := HSS.out.at HF3.out
      have e4 : w7.cell? ⟨gl, 4, none⟩ = some (.int .i64 x.2.2.2.2) := HSS.out.at HF4.out
      have c3 : w7.cell? ⟨w.heap.size, 3, none⟩ = some (.string m.da) := HK7.out.tl.hd.at HM3.out
      have hkc := HK7.out.hd
      have htf := hkc.there 4 (by have := HL_V0.out; simp; omega)
      have HIN : Hid ((Tryd.prog.info? 24).map (·.size) = some ([.int .i64 x.2.2.1, .int .i64 x.2.2.2.1, .int .u32 x.2.2.2.2, .string m.da] : List Value).length) := Lib.hid (Tryd.infoMg (⟨x.2.2.1, x.2.2.2.1, x.2.2.2.2, m.da⟩ : Mg))
      go_wp2_with (((with_reducible (change wpList _ _ _ _ _ _)); ((refine wpList_store_mid rfl 24 _ _ rfl (w.heap.size + 1) 0 ([.int .i64 x.2.2.1, .int .i64 x.2.2.2.1, .int .u32 x.2.2.2.2, .string m.da] : List Value).toArray rfl rfl htf (by simpa using HIN.out) (by simp [Value.oneCell']) ?_))))
      have hk5 := Bk.sets [.int .i64 x.2.2.1, .int .i64 x.2.2.2.1, .int .u32 x.2.2.2.2, .string m.da] 0 _ _ hkc
      rw [puts_whole V0.toArray [.int .i64 x.2.2.1, .int .i64 x.2.2.2.1, .int .u32 x.2.2.2.2, .string m.da] (by have := HL_V0.out; simp; omega)] at hk5
      refine bodyPost_ret (v := .tuple #[.agg ([.int .i64 x.2.2.1, .int .i64 x.2.2.2.1, .int .u32 x.2.2.2.2, .string m.da] : List Value).toArray, .bool true]) ?_ rfl ?_
      · exact results_cell2 rfl rfl rfl (run_loadVar_mid _ (w.heap.size + 1) 0 24 [.int .i64 x.2.2.1, .int .i64 x.2.2.2.1, .int .u32 x.2.2.2.2, .string m.da] _ hk5.range Tryd.underlying24 rfl HIN.out)
      · rw [HS.out]
        exact ⟨rfl, below_sets _ (by omega) 0 _ HK7.out.2.1⟩
  · have hnw := (And.left hHeld).1.2.2
    have hne := fun x hx => (And.left hHeld).1.ne x hx
    go_simp
    refine hK.out _ _ (HKR.out _ ((And.left hHeld).1.alloc _)) (fun hHeld => ?_)
    clear hK K
    (try simp only [Act.put, List.setIfInBounds_toArray, List.set_cons_zero, List.set_cons_succ])
    have hA := bk_new (w1.drew) 42 ([.int .i64 0, .int .i64 0, .int .i64 0, .int .i64 0, .int .i64 0] : List Value).toArray
    refine wpAnyH_ready (rs := [3]) (by kernel_rfl) (by simp) ?_
    refine AllReadyH.cons (o := { dst := some 98, op := Op.call { callee := Callee.value (Operand.func 25), args := #[Operand.tmp 97], argTypes := #[3] }, type := 45, pos := "ref.go:83", after := #[{ on := 2, ground := Ground.data }], guard := none }) rfl (fun K hK => ?_) AllReadyH.nil
    go_simp
    ((with_reducible refine (rlines6_any _ _).mono ?_); rintro e wA ⟨vL, rfl, hLn, hb9⟩)
    refine hK.out _ _ (HKR.out _ ((And.left hHeld).1.below hb9 (Nat.le_refl _))) (fun hHeld => ?_)
    clear hK K
    (try simp only [Act.put, List.setIfInBounds_toArray, List.set_cons_zero, List.set_cons_succ])
    have hA := hA.below hb9 hA.lt
    refine wpAnyH_ready (rs := [5]) (by kernel_rfl) (by simp) ?_
    refine AllReadyH.cons (o := { dst := some 100, op := Op.call { callee := Callee.value (Operand.func 24), args := #[Operand.tmp 98, Operand.tmp 99], argTypes := #[45, 24] }, type := 43, pos := "ref.go:83", after := #[{ on := 3, ground := Ground.data }, { on := 4, ground := Ground.data }, { on := 3, ground := Ground.chain }], guard := none }) rfl (fun K hK => ?_) AllReadyH.nil
    go_simp
    ((with_reducible refine (CF.out _ _ hLn).mono ?_); rintro e wB ⟨rfl, hb9⟩)
    refine hK.out _ _ (HKR.out _ ((And.left hHeld).1.below hb9 (Nat.le_refl _))) (fun hHeld => ?_)
    clear hK K
    (try simp only [Act.put, List.setIfInBounds_toArray, List.set_cons_zero, List.set_cons_succ])
    have hA := hA.below hb9 hA.lt
    refine wpAnyH_take (i := 6) (oi := { dst := some 94, op := Op.move (Operand.tmp 100), type := 43, pos := "ref.go:83", after := #[{ on := 5, ground := Ground.data }], guard := none }) (v := ?_) rfl (by kernel_rfl) (by kernel_rfl) (by kernel_rfl) (fun _ _ _ h => h) (Or.inl ⟨by rfl, ?_⟩) (by assumption) ?_
    rotate_left
    · (intro ww hSw; (try dsimp only at hSw); go_simp; try with_reducible rfl)
    (try simp only [Act.put, List.setIfInBounds_toArray, List.set_cons_zero, List.set_cons_succ])
    refine wpAnyH_take (i := 7) (oi := { dst := some 101, op := Op.extract (Operand.tmp 94) 0, type := 42, pos := "ref.go:83", after := #[{ on := 6, ground := Ground.data }], guard := none }) (v := ?_) rfl (by kernel_rfl) (by kernel_rfl) (by kernel_rfl) (fun _ _ _ h => h) (Or.inl ⟨by rfl, ?_⟩) (by assumption) ?_
    rotate_left
    · (intro ww hSw; (try dsimp only at hSw); go_simp; try with_reducible rfl)
    (try simp only [Act.put, List.setIfInBounds_toArray, List.set_cons_zero, List.set_cons_succ])
    refine wpAnyH_take (i := 8) (oi := { dst := some 102, op := Op.extract (Operand.tmp 94) 1, type := 4, pos := "ref.go:83", after := #[{ on := 6, ground := Ground.data }, { on := 10, ground := Ground.gcOnly Departure.lateStores }], guard := none }) (v := ?_) rfl (by kernel_rfl) (by kernel_rfl) (by kernel_rfl) (fun _ _ _ h => h) (Or.inl ⟨by rfl, ?_⟩) (by assumption) ?_
    rotate_left
    · (intro ww hSw; (try dsimp only at hSw); go_simp; try with_reducible rfl)
    (try simp only [Act.put, List.setIfInBounds_toArray, List.set_cons_zero, List.set_cons_succ])
    refine wpAnyH_ready (rs := [10]) (by kernel_rfl) (by simp) ?_
    refine AllReadyH.cons (o := { dst := none, op := Op.store 42 (Operand.tmp 14) (Operand.tmp 101), type := 0, pos := "ref.go:83", after := #[{ on := 9, ground := Ground.data }, { on := 7, ground := Ground.data }, { on := 5, ground := Ground.chain }, { on := 0, ground := Ground.phase }, { on := 1, ground := Ground.phase }, { on := 2, ground := Ground.phase }, { on := 3, ground := Ground.phase }, { on := 4, ground := Ground.phase }, { on := 5, ground := Ground.phase }, { on := 6, ground := Ground.phase }, { on := 7, ground := Ground.phase }, { on := 8, ground := Ground.textOnly Departure.lateStores }, { on := 9, ground := Ground.phase }], guard := none }) rfl (fun K hK => ?_) AllReadyH.nil
    rw [if_pos (by rfl)]
    have hS := Bk.sets VF 0 _ _ hA
    rw [puts_whole ([.int .i64 0, .int .i64 0, .int .i64 0, .int .i64 0, .int .i64 0] : List Value).toArray VF (by have := HL_VF.out; simp; omega)] at hS
    refine wp_store_mid 42 _ _ rfl (w1.drew).heap.size 0 VF.toArray rfl rfl (hA.there _ (by have := HL_VF.out; simp; omega)) (by simpa using HI_VF.out) HO_VF.out ?_
    refine hK.out _ _ (HKR.out _ ((And.left hHeld).1.sets hne hnw 0 VF)) (fun hHeld => ?_)
    clear hK K
    (try simp only [Act.put])
    refine wpAnyH_take (i := 11) (oi := { dst := some 15, op := Op.assign (Operand.tmp 102), type := 4, pos := "ref.go:83", after := #[{ on := 8, ground := Ground.data }, { on := 10, ground := Ground.chain }, { on := 0, ground := Ground.phase }, { on := 1, ground := Ground.phase }, { on := 2, ground := Ground.phase }, { on := 3, ground := Ground.phase }, { on := 4, ground := Ground.phase }, { on := 5, ground := Ground.phase }, { on := 6, ground := Ground.phase }, { on := 7, ground := Ground.phase }, { on := 8, ground := Ground.phase }, { on := 9, ground := Ground.phase }, { on := 10, ground := Ground.phase }], guard := none }) (v := ?_) rfl (by kernel_rfl) (by kernel_rfl) (by kernel_rfl) (fun _ _ _ h => h) (Or.inl ⟨by rfl, ?_⟩) (by assumption) ?_
    rotate_left
    · (intro ww hSw; (try dsimp only at hSw); go_simp; try with_reducible rfl)
    (try simp only [Act.put, List.setIfInBounds_toArray, List.set_cons_zero, List.set_cons_succ])
    refine wpAnyH_done (by kernel_rfl) ?_ _
    refine NoPanic.normal ?_
    have HK7 := Lib.hid (And.left hHeld).1
    have HSS := Lib.hid hS
    clear hHeld hS hA HKR
    generalize wB.setCells (w1.drew).heap.size 0 VF = w7 at *
    rw [show (w1.drew).heap.size = w1.heap.size from rfl] at HSS
    generalize w1.heap.size = gl at *
    have e2 : w7.cell? ⟨gl, 2, none⟩ = some (.int .i64 x.2.2.1) := HSS.out.at HF2.out
    have e3 : w7.cell? ⟨gl, 3, none⟩ = some (.int .i64 x.2.2.2.1) := HSS.out.at HF3.out
    have e4 : w7.cell? ⟨gl, 4, none⟩ = some (.int .i64 x.2.2.2.2) := HSS.out.at HF4.out
    have c3 : w7.cell? ⟨w.heap.size, 3, none⟩ = some (.string m.da) := HK7.out.tl.hd.at HM3.out
    have hkc := HK7.out.hd
    have htf := hkc.there 4 (by have := HL_V0.out; simp; omega)
    have HIN : Hid ((Tryd.prog.info? 24).map (·.size) = some ([.int .i64 x.2.2.1, .int .i64 x.2.2.2.1, .int .u32 x.2.2.2.2, .string m.da] : List Value).length) := Lib.hid (Tryd.infoMg (⟨x.2.2.1, x.2.2.2.1, x.2.2.2.2, m.da⟩ : Mg))
    go_wp2_with (((with_reducible (change wpList _ _ _ _ _ _)); ((refine wpList_store_mid rfl 24 _ _ rfl (w.heap.size + 1) 0 ([.int .i64 x.2.2.1, .int .i64 x.2.2.2.1, .int .u32 x.2.2.2.2, .string m.da] : List Value).toArray rfl rfl htf (by simpa using HIN.out) (by simp [Value.oneCell']) ?_))))
    have hk5 := Bk.sets [.int .i64 x.2.2.1, .int .i64 x.2.2.2.1, .int .u32 x.2.2.2.2, .string m.da] 0 _ _ hkc
    rw [puts_whole V0.toArray [.int .i64 x.2.2.1, .int .i64 x.2.2.2.1, .int .u32 x.2.2.2.2, .string m.da] (by have := HL_V0.out; simp; omega)] at hk5
    refine bodyPost_ret (v := .tuple #[.agg ([.int .i64 x.2.2.1, .int .i64 x.2.2.2.1, .int .u32 x.2.2.2.2, .string m.da] : List Value).toArray, .bool true]) ?_ rfl ?_
    · exact results_cell2 rfl rfl rfl (run_loadVar_mid _ (w.heap.size + 1) 0 24 [.int .i64 x.2.2.1, .int .i64 x.2.2.2.1, .int .u32 x.2.2.2.2, .string m.da] _ hk5.range Tryd.underlying24 rfl HIN.out)
    · rw [HS.out]
      exact ⟨rfl, below_sets _ (by omega) 0 _ HK7.out.2.1⟩
end Go.Proofs.YtnehabpdpkjaeaaDoor
