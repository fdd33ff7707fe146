/-
  Proved here: what the laws' own example and awake answer, given what the program's functions answer.
  Conditions: MSays.
-/
import Derived.Test.YtmfolkbmkfifcaaErr
namespace Go.Proofs.Ytmfolkbmkfifcaa
open Go.RowKit

def exD : Ms := ⟨128, 0, 65538, ⟨#[104, 105]⟩⟩
def exU : ByteArray := ⟨#[128, 0, 23, 147, 0, 1, 0, 2, 104, 105]⟩
theorem exD_why : exD.why = 0 := by decide +kernel
theorem exD_out : exD.out ⟨#[]⟩ = exU := by decide +kernel
theorem exU_code : mcode ⟨#[]⟩ exU = 0 := by decide +kernel
theorem exU_parts : (mans ⟨#[]⟩ exU).kd = 128 ∧ (mans ⟨#[]⟩ exU).cd = 0 ∧ (mans ⟨#[]⟩ exU).rs = 65538 ∧ (mans ⟨#[]⟩ exU).da = ⟨#[104, 105]⟩ := by decide +kernel
set_option maxRecDepth 100000 in
theorem ex_any (w : World) : Calls Try.prog 9 #[] w fun e w' => e = .returned (.agg #[.int .i64 128, .int .i64 0, .int .u32 65538, .string ⟨#[104, 105]⟩]) ∧ Below w.heap.size w w' := by
  have hk := bk_new w 26 ms0.vals.toArray
  have ht := hk.there 4 (Nat.le_refl _)
  have HI : Hid ((Try.prog.info? 26).map (·.size) = some 4) := Lib.hid (Try.infoMs ms0)
  have HO : Hid (([.int .i64 128, .int .i64 0, .int .u32 65538, .string ⟨#[104, 105]⟩] : List Value).toArray.all (·.oneCell') = true) := Lib.hid (by simp [Value.oneCell'])
  have HK := Lib.hid (Bk.sets ([.int .i64 128, .int .i64 0, .int .u32 65538, .string ⟨#[104, 105]⟩] : List Value) 0 _ _ hk)
  have HB := Lib.hid (show Below w.heap.size w (w.alloc (.cells ms0.vals.toArray 26)) from (Below.refl _ _).alloc (Nat.le_refl _) _)
  clear hk
  go_enter Try.func9, Try.ntmps9
  go_wp2_with (refine wpList_store_mid rfl 26 _ _ rfl w.heap.size 0 ([.int .i64 128, .int .i64 0, .int .u32 65538, .string ⟨#[104, 105]⟩] : List Value).toArray rfl rfl ht HI.out HO.out ?_)
  have hk5 := HK.out
  rw [puts_whole ms0.vals.toArray ([.int .i64 128, .int .i64 0, .int .u32 65538, .string ⟨#[104, 105]⟩] : List Value) rfl] at hk5
  refine bodyPost_ret (v := .agg ([.int .i64 128, .int .i64 0, .int .u32 65538, .string ⟨#[104, 105]⟩] : List Value).toArray) ?_ rfl ⟨rfl, below_sets _ (Nat.le_refl _) 0 _ HB.out⟩
  exact results_cell rfl rfl (run_loadVar_mid _ w.heap.size 0 26 _ _ hk5.range Try.underlying26 rfl HI.out)
/-- What a region keeps of a message's block. -/
def MS (w0 : World) (B g : Nat) (x0 x1 x2 : Int) (x3 : ByteArray) (w' : World) : Prop := Below B w0 w' ∧ B ≤ w'.heap.size ∧ w'.cell? ⟨g, 0, none⟩ = some (.int .i64 x0) ∧ w'.cell? ⟨g, 1, none⟩ = some (.int .i64 x1) ∧ w'.cell? ⟨g, 2, none⟩ = some (.int .u32 x2) ∧ w'.cell? ⟨g, 3, none⟩ = some (.string x3)
section
variable {w0 w w' : World} {B g : Nat} {x0 x1 x2 : Int} {x3 : ByteArray}
theorem MS.below (h : MS w0 B g x0 x1 x2 x3 w) (hb : Below w.heap.size w w') : MS w0 B g x0 x1 x2 x3 w' := by
  obtain ⟨a, s, c0, c1, c2, c3⟩ := h
  exact ⟨a.trans (hb.mono s), Nat.le_trans s hb.size, cell_kept c0 hb, cell_kept c1 hb, cell_kept c2 hb, cell_kept c3 hb⟩
theorem MS.drew (h : MS w0 B g x0 x1 x2 x3 w) : MS w0 B g x0 x1 x2 x3 w.drew := ⟨h.1.drew, h.2⟩
theorem MS.new (w : World) (x0 x1 x2 : Int) (x3 : ByteArray) (w0 : World) (B : Nat) (hb : Below B w0 w) (hs : B ≤ w.heap.size) : MS w0 B w.heap.size x0 x1 x2 x3 (w.alloc (.cells #[.int .i64 x0, .int .i64 x1, .int .u32 x2, .string x3] 26)) := by
  have hk : Bk (w.alloc (.cells #[.int .i64 x0, .int .i64 x1, .int .u32 x2, .string x3] 26)) w.heap.size 26 ([.int .i64 x0, .int .i64 x1, .int .u32 x2, .string x3] : List Value).toArray := bk_new _ _ _
  exact ⟨hb.alloc hs _, by simp; omega, hk.at rfl, hk.at rfl, hk.at rfl, hk.at rfl⟩
end
set_option maxRecDepth 100000 in
set_option maxHeartbeats 400000 in
theorem awake_true (U : MSays) (w : World) :
    Calls Try.prog 12 #[] w fun e w' => e = .returned (.bool true) ∧ Below w.heap.size w w' := by
  have C0 := Lib.hid ex_any
  have C1 : Hid (∀ W, Calls Try.prog 11 #[.agg #[.int .i64 128, .int .i64 0, .int .u32 65538, .string ⟨#[104, 105]⟩], .string ⟨#[]⟩] W fun e w' => e = .returned (.tuple #[.string exU, .nilIface]) ∧ Below W.heap.size W w') := Lib.hid (fun W => by
    refine (U.bytes exD ⟨#[]⟩ W (by decide) (by decide) (by decide)).mono ?_
    rintro e w' ⟨x, rfl, he, b⟩
    rw [exD_why] at he
    rw [he.nil, exD_out]
    exact ⟨rfl, b⟩)
  have C2 : Hid (∀ W, Calls Try.prog 10 #[.string exU, .string ⟨#[]⟩] W fun e w' => e = .returned (.tuple #[.agg #[.int .i64 128, .int .i64 0, .int .u32 65538, .string ⟨#[104, 105]⟩], .nilIface]) ∧ Below W.heap.size W w') := Lib.hid (fun W => by
    refine (U.parse exU ⟨#[]⟩ W (by decide) (by decide)).mono ?_
    rintro e w' ⟨x, rfl, he, b⟩
    obtain ⟨e0, e1, e2, e3⟩ := exU_parts
    rw [exU_code] at he
    rw [he.nil, e0, e1, e2, e3]
    exact ⟨rfl, b⟩)
  have HU := (show (⟨#[128, 0, 23, 147, 0, 1, 0, 2, 104, 105]⟩ : ByteArray) = exU from rfl)
  generalize exU = EU at *
  have hq := fun W => eqlMs 128 0 65538 ⟨#[104, 105]⟩ W
  go_enter Try.func12, Try.ntmps12
  go_wp2_with fail
  refine (C0.out _).mono ?_
  rintro e w0 ⟨rfl, b0⟩
  have HB0 := Lib.hid b0
  clear b0
  go_wp2_with fail
  refine (C1.out _).mono ?_
  rintro e w1 ⟨rfl, b1⟩
  have HB1 := Lib.hid (HB0.out.trans (b1.mono HB0.out.size))
  clear b1 HB0 C1
  go_wp2_with fail
  refine (C2.out _).mono ?_
  rintro e w2 ⟨rfl, b2⟩
  have HM := Lib.hid (MS.new w2 128 0 65538 ⟨#[104, 105]⟩ w w.heap.size (HB1.out.trans (b2.mono HB1.out.size)) (Nat.le_trans HB1.out.size b2.size))
  clear b2 HB1 C2
  generalize hw3 : w2.alloc (.cells #[.int .i64 128, .int .i64 0, .int .u32 65538, .string ⟨#[104, 105]⟩] 26) = w3 at *
  go_upto_region 3 with (fail)
  clear hw3
  generalize w2.heap.size = g at *
  refine wp_region_noPanic ?_
  refine wp_region_held_drew (S := fun w' => Below w.heap.size w w' ∧ w.heap.size ≤ w'.heap.size ∧ w'.cell? ⟨g, 0, none⟩ = some (.int .i64 128) ∧ w'.cell? ⟨g, 1, none⟩ = some (.int .i64 0) ∧ w'.cell? ⟨g, 2, none⟩ = some (.int .u32 65538) ∧ w'.cell? ⟨g, 3, none⟩ = some (.string ⟨#[104, 105]⟩)) (by kernel_rfl) (MS.drew HM.out) (fun hHeld => ?_)
  refine wpAnyH_take (i := 0) (oi := { dst := some 15, op := Op.move (Operand.tmp 2), type := 29, pos := "law.go:18", after := #[], guard := none }) (v := ?_) rfl (by kernel_rfl) (by kernel_rfl) (by kernel_rfl) (fun _ _ _ h => h) (Or.inl ⟨by rfl, ?_⟩) (by assumption) ?_
  rotate_left
  · (intro ww hSw; (try dsimp only at hSw); go_simp; try with_reducible rfl)
  (try simp only [Act.put, List.setIfInBounds_toArray, List.set_cons_zero, List.set_cons_succ])
  refine wpAnyH_take (i := 1) (oi := { dst := some 16, op := Op.binOp BinOp.eql 29 (Operand.tmp 15) (Operand.const Value.nilIface) 29, type := 4, pos := "law.go:18", after := #[{ on := 0, ground := Ground.data }], guard := none }) (v := ?_) rfl (by kernel_rfl) (by kernel_rfl) (by kernel_rfl) (fun _ _ _ h => h) (Or.inl ⟨by rfl, ?_⟩) (by assumption) ?_
  rotate_left
  · (intro ww hSw; (try dsimp only at hSw); go_simp; try with_reducible rfl)
  (try simp only [Act.put, List.setIfInBounds_toArray, List.set_cons_zero, List.set_cons_succ])
  refine wpAnyH_take (i := 2) (oi := { dst := some 17, op := Op.move (Operand.tmp 16), type := 4, pos := "law.go:18", after := #[{ on := 1, ground := Ground.data }], guard := none }) (v := ?_) rfl (by kernel_rfl) (by kernel_rfl) (by kernel_rfl) (fun _ _ _ h => h) (Or.inl ⟨by rfl, ?_⟩) (by assumption) ?_
  rotate_left
  · (intro ww hSw; (try dsimp only at hSw); go_simp; try with_reducible rfl)
  (try simp only [Act.put, List.setIfInBounds_toArray, List.set_cons_zero, List.set_cons_succ])
  refine wpAnyH_take (i := 3) (oi := { dst := some 18, op := Op.move (Operand.tmp 4), type := 29, pos := "law.go:18", after := #[{ on := 2, ground := Ground.guard }], guard := some (2, true) }) (v := ?_) rfl (by kernel_rfl) (by kernel_rfl) (by kernel_rfl) (fun _ _ _ h => h) (Or.inl ⟨by rfl, ?_⟩) (by assumption) ?_
  rotate_left
  · (intro ww hSw; (try dsimp only at hSw); go_simp; try with_reducible rfl)
  (try simp only [Act.put, List.setIfInBounds_toArray, List.set_cons_zero, List.set_cons_succ])
  refine wpAnyH_take (i := 4) (oi := { dst := some 19, op := Op.binOp BinOp.eql 29 (Operand.tmp 18) (Operand.const Value.nilIface) 29, type := 4, pos := "law.go:18", after := #[{ on := 3, ground := Ground.data }, { on := 2, ground := Ground.guard }], guard := some (2, true) }) (v := ?_) rfl (by kernel_rfl) (by kernel_rfl) (by kernel_rfl) (fun _ _ _ h => h) (Or.inl ⟨by rfl, ?_⟩) (by assumption) ?_
  rotate_left
  · (intro ww hSw; (try dsimp only at hSw); go_simp; try with_reducible rfl)
  (try simp only [Act.put, List.setIfInBounds_toArray, List.set_cons_zero, List.set_cons_succ])
  refine wpAnyH_take (i := 5) (oi := { dst := some 20, op := Op.pick (Operand.tmp 17) (Operand.tmp 19) (Operand.const (Value.bool false)), type := 4, pos := "law.go:18", after := #[{ on := 2, ground := Ground.data }, { on := 4, ground := Ground.data }], guard := none }) (v := ?_) rfl (by kernel_rfl) (by kernel_rfl) (by kernel_rfl) (fun _ _ _ h => h) (Or.inl ⟨by rfl, ?_⟩) (by assumption) ?_
  rotate_left
  · (intro ww hSw; (try dsimp only at hSw); go_simp; try with_reducible rfl)
  (try simp only [Act.put, List.setIfInBounds_toArray, List.set_cons_zero, List.set_cons_succ])
  refine wpAnyH_take (i := 6) (oi := { dst := some 21, op := Op.move (Operand.tmp 20), type := 4, pos := "law.go:18", after := #[{ on := 5, ground := Ground.data }, { on := 2, ground := Ground.chain }], guard := none }) (v := ?_) rfl (by kernel_rfl) (by kernel_rfl) (by kernel_rfl) (fun _ _ _ h => h) (Or.inl ⟨by rfl, ?_⟩) (by assumption) ?_
  rotate_left
  · (intro ww hSw; (try dsimp only at hSw); go_simp; try with_reducible rfl)
  (try simp only [Act.put, List.setIfInBounds_toArray, List.set_cons_zero, List.set_cons_succ])
  refine wpAnyH_take (i := 7) (oi := { dst := some 22, op := Op.load 26 (Operand.tmp 3), type := 26, pos := "law.go:18", after := #[{ on := 6, ground := Ground.guard }], guard := some (6, true) }) (v := ?_) rfl (by kernel_rfl) (by kernel_rfl) (by kernel_rfl) (fun _ _ _ h => h) (Or.inl ⟨by rfl, ?_⟩) (by assumption) ?_
  rotate_left
  · (intro ww hSw; (try dsimp only at hSw); go_simp; try with_reducible rfl)
  (try simp only [Act.put, List.setIfInBounds_toArray, List.set_cons_zero, List.set_cons_succ])
  refine wpAnyH_ready (rs := [8]) (by kernel_rfl) (by simp) ?_
  refine AllReadyH.cons (o := { dst := some 23, op := Op.call { callee := Callee.value (Operand.func 9), args := #[], argTypes := #[] }, type := 26, pos := "law.go:18", after := #[{ on := 6, ground := Ground.chain }, { on := 6, ground := Ground.guard }], guard := some (6, true) }) rfl (fun K hK => ?_) AllReadyH.nil
  go_simp
  ((with_reducible refine (C0.out _).mono ?_); rintro e w9 ⟨rfl, hb9⟩)
  refine hK.out _ _ (MS.below hHeld hb9) (fun hHeld => ?_)
  clear hK K
  (try simp only [Act.put, List.setIfInBounds_toArray, List.set_cons_zero, List.set_cons_succ])
  refine wpAnyH_take (i := 9) (oi := { dst := some 24, op := Op.binOp BinOp.eql 26 (Operand.tmp 22) (Operand.tmp 23) 26, type := 4, pos := "law.go:18", after := #[{ on := 7, ground := Ground.data }, { on := 8, ground := Ground.data }, { on := 6, ground := Ground.guard }], guard := some (6, true) }) (v := ?_) rfl (by kernel_rfl) (by kernel_rfl) (by kernel_rfl) (fun _ _ _ h => h) (Or.inl ⟨by rfl, ?_⟩) (by assumption) ?_
  rotate_left
  · (intro ww hSw; (try dsimp only at hSw); go_simp; try with_reducible rfl)
  (try simp only [Act.put, List.setIfInBounds_toArray, List.set_cons_zero, List.set_cons_succ])
  refine wpAnyH_take (i := 10) (oi := { dst := some 25, op := Op.pick (Operand.tmp 21) (Operand.tmp 24) (Operand.const (Value.bool false)), type := 4, pos := "law.go:18", after := #[{ on := 6, ground := Ground.data }, { on := 9, ground := Ground.data }], guard := none }) (v := ?_) rfl (by kernel_rfl) (by kernel_rfl) (by kernel_rfl) (fun _ _ _ h => h) (Or.inl ⟨by rfl, ?_⟩) (by assumption) ?_
  rotate_left
  · (intro ww hSw; (try dsimp only at hSw); go_simp; try with_reducible rfl)
  (try simp only [Act.put, List.setIfInBounds_toArray, List.set_cons_zero, List.set_cons_succ])
  refine wpAnyH_take (i := 11) (oi := { dst := some 26, op := Op.move (Operand.tmp 25), type := 4, pos := "law.go:18", after := #[{ on := 10, ground := Ground.data }, { on := 8, ground := Ground.chain }], guard := none }) (v := ?_) rfl (by kernel_rfl) (by kernel_rfl) (by kernel_rfl) (fun _ _ _ h => h) (Or.inl ⟨by rfl, ?_⟩) (by assumption) ?_
  rotate_left
  · (intro ww hSw; (try dsimp only at hSw); go_simp; try with_reducible rfl)
  (try simp only [Act.put, List.setIfInBounds_toArray, List.set_cons_zero, List.set_cons_succ])
  refine wpAnyH_take (i := 12) (oi := { dst := some 27, op := Op.move (Operand.tmp 1), type := 9, pos := "law.go:18", after := #[{ on := 11, ground := Ground.guard }], guard := some (11, true) }) (v := ?_) rfl (by kernel_rfl) (by kernel_rfl) (by kernel_rfl) (fun _ _ _ h => h) (Or.inl ⟨by rfl, ?_⟩) (by assumption) ?_
  rotate_left
  · (intro ww hSw; (try dsimp only at hSw); go_simp; try with_reducible rfl)
  (try simp only [Act.put, List.setIfInBounds_toArray, List.set_cons_zero, List.set_cons_succ])
  refine wpAnyH_take (i := 13) (oi := { dst := some 28, op := Op.binOp BinOp.eql 9 (Operand.tmp 27) (Operand.const (Value.string { data := #[128, 0, 23, 147, 0, 1, 0, 2, 104, 105] })) 9, type := 4, pos := "law.go:18", after := #[{ on := 12, ground := Ground.data }, { on := 11, ground := Ground.guard }], guard := some (11, true) }) (v := ?_) rfl (by kernel_rfl) (by kernel_rfl) (by kernel_rfl) (fun _ _ _ h => h) (Or.inl ⟨by rfl, ?_⟩) (by assumption) ?_
  rotate_left
  · (intro ww hSw; (try dsimp only at hSw); go_simp; try with_reducible rfl)
  (try simp only [Act.put, List.setIfInBounds_toArray, List.set_cons_zero, List.set_cons_succ])
  refine wpAnyH_take (i := 14) (oi := { dst := some 29, op := Op.pick (Operand.tmp 26) (Operand.tmp 28) (Operand.const (Value.bool false)), type := 4, pos := "law.go:18", after := #[{ on := 11, ground := Ground.data }, { on := 13, ground := Ground.data }], guard := none }) (v := ?_) rfl (by kernel_rfl) (by kernel_rfl) (by kernel_rfl) (fun _ _ _ h => h) (Or.inl ⟨by rfl, ?_⟩) (by assumption) ?_
  rotate_left
  · (intro ww hSw; (try dsimp only at hSw); go_simp; try with_reducible rfl)
  (try simp only [Act.put, List.setIfInBounds_toArray, List.set_cons_zero, List.set_cons_succ])
  refine wpAnyH_take (i := 15) (oi := { dst := some 0, op := Op.assign (Operand.tmp 29), type := 4, pos := "law.go:18", after := #[{ on := 14, ground := Ground.data }, { on := 11, ground := Ground.chain }, { on := 0, ground := Ground.phase }, { on := 1, ground := Ground.phase }, { on := 2, ground := Ground.phase }, { on := 3, ground := Ground.phase }, { on := 4, ground := Ground.phase }, { on := 5, ground := Ground.phase }, { on := 6, ground := Ground.phase }, { on := 7, ground := Ground.phase }, { on := 8, ground := Ground.phase }, { on := 9, ground := Ground.phase }, { on := 10, ground := Ground.phase }, { on := 11, ground := Ground.phase }, { on := 12, ground := Ground.phase }, { on := 13, ground := Ground.phase }, { on := 14, ground := Ground.phase }], guard := none }) (v := ?_) rfl (by kernel_rfl) (by kernel_rfl) (by kernel_rfl) (fun _ _ _ h => h) (Or.inl ⟨by rfl, ?_⟩) (by assumption) ?_
  rotate_left
  · (intro ww hSw; (try dsimp only at hSw); go_simp; try with_reducible rfl)
  (try simp only [Act.put, List.setIfInBounds_toArray, List.set_cons_zero])
  refine wpAnyH_done (by kernel_rfl) ?_ _
  refine NoPanic.normal ?_
  have HE := Lib.hid (And.left hHeld)
  clear hHeld
  go_wp2_with fail
  go_ret
  exact ⟨rfl, HE.out⟩
end Go.Proofs.Ytmfolkbmkfifcaa
