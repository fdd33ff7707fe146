/-
  Proved here: what the program's Echo, WithId and Failure answer.
  Conditions: Rest fits its places.
-/
import Derived.Test.YtmfolkbmkfifcaaSaysParse
namespace Go.Proofs.Ytmfolkbmkfifcaa
open Go.RowKit

theorem ec_drew {w0 w : World} {b : Nat} {x0 : Int} {x2 : Nat} (h : Below b w0 w ∧ w.cell? ⟨b, 0, none⟩ = some (.int .i64 x0) ∧ w.cell? ⟨b, 2, none⟩ = some (.int .u32 (x2 : Nat))) : Below b w0 w.drew ∧ w.drew.cell? ⟨b, 0, none⟩ = some (.int .i64 x0) ∧ w.drew.cell? ⟨b, 2, none⟩ = some (.int .u32 (x2 : Nat)) := ⟨h.1.drew, h.2⟩
theorem ec_new (w : World) (x0 x1 : Int) (x2 : Nat) (x3 : ByteArray) : Below w.heap.size w (w.alloc (.cells #[.int .i64 x0, .int .i64 x1, .int .u32 (x2 : Nat), .string x3] 26)) ∧ (w.alloc (.cells #[.int .i64 x0, .int .i64 x1, .int .u32 (x2 : Nat), .string x3] 26)).cell? ⟨w.heap.size, 0, none⟩ = some (.int .i64 x0) ∧ (w.alloc (.cells #[.int .i64 x0, .int .i64 x1, .int .u32 (x2 : Nat), .string x3] 26)).cell? ⟨w.heap.size, 2, none⟩ = some (.int .u32 (x2 : Nat)) := by
  have hk : Bk (w.alloc (.cells #[.int .i64 x0, .int .i64 x1, .int .u32 (x2 : Nat), .string x3] 26)) w.heap.size 26 ([.int .i64 x0, .int .i64 x1, .int .u32 (x2 : Nat), .string x3] : List Value).toArray := bk_new _ _ _
  exact ⟨(Below.refl _ _).alloc (Nat.le_refl _) _, hk.at rfl, hk.at rfl⟩
set_option maxRecDepth 100000 in
theorem echo_any (x0 x1 : Int) (x2 : Nat) (x3 : ByteArray) (w : World) (hx : x2 < 4294967296) :
    Calls Try.prog 8 #[.agg #[.int .i64 x0, .int .i64 x1, .int .u32 (x2 : Nat), .string x3]] w fun e w' => e = .returned (.tuple #[.int .i64 (Ms.mk x0 x1 x2 x3).idn, .bool (Ms.mk x0 x1 x2 x3).asks, .bool (Ms.mk x0 x1 x2 x3).is]) ∧ Below w.heap.size w w' := by
  have k0 : ((x2 : Nat) : Int) / 65536 = ((x2 / 65536 : Nat) : Int) := by omega
  have k2 : IntKind.u32.wrap ((x2 / 65536 : Nat) : Int) = ((x2 / 65536 : Nat) : Int) := IntWalk.u32_in _ (by omega)
  have k3 : IntKind.i64.wrap ((x2 / 65536 : Nat) : Int) = ((x2 / 65536 : Nat) : Int) := IntWalk.i64_in _ (by omega)
  have HB := Lib.hid (show Below w.heap.size w (w.alloc (.cells #[.int .i64 x0, .int .i64 x1, .int .u32 (x2 : Nat), .string x3] 26)) from (Below.refl _ _).alloc (Nat.le_refl _) _)
  have HE := Lib.hid (ec_new w x0 x1 x2 x3)
  unfold Ms.idn Ms.is Ms.asks Ms.tells
  dsimp only
  clear hx
  generalize x2 / 65536 = y at *
  go_enter Try.func8, Try.ntmps8
  cases h1 : (x1 == 0)
  · have m1 : (x1 != 0) = true := by show (!(x1 == 0)) = true; rw [h1]; rfl
    go_wp2_with fail
    go_ret3
    exact ⟨rfl, HB.out⟩
  · have m1 : (x1 != 0) = false := by show (!(x1 == 0)) = false; rw [h1]; rfl
    cases h2 : (x0 == 128)
    · have m2 : (x0 != 128) = true := by show (!(x0 == 128)) = true; rw [h2]; rfl
      cases h3 : (x0 == 129)
      · have m3 : (x0 != 129) = true := by show (!(x0 == 129)) = true; rw [h3]; rfl
        go_wp2_with fail
        go_ret3
        exact ⟨rfl, HB.out⟩
      · have m3 : (x0 != 129) = false := by show (!(x0 == 129)) = false; rw [h3]; rfl
        go_upto_region 3 with (fail)
        refine wp_region_noPanic ?_
        refine wp_region_held_drew (S := fun w' => Below w.heap.size w w' ∧ w'.cell? ⟨w.heap.size, 0, none⟩ = some (.int .i64 x0) ∧ w'.cell? ⟨w.heap.size, 2, none⟩ = some (.int .u32 (x2 : Nat))) (by kernel_rfl) (ec_drew HE.out) (fun hHeld => ?_)
        refine wpAnyH_take (i := 0) (oi := { dst := some 18, op := Op.fieldAddr 26 (Operand.tmp 1) 2, type := 0, pos := "icmp6.go:77", after := #[], guard := none }) (v := ?_) rfl (by kernel_rfl) (by kernel_rfl) (by kernel_rfl) (fun _ _ _ h => h) (Or.inl ⟨by rfl, ?_⟩) (by assumption) ?_
        rotate_left
        · (intro ww hSw; (try dsimp only at hSw); go_simp; try with_reducible rfl)
        (try simp only [Act.put, List.setIfInBounds_toArray, List.set_cons_zero, List.set_cons_succ])
        refine wpAnyH_take (i := 1) (oi := { dst := some 19, op := Op.load 24 (Operand.tmp 18), type := 24, pos := "icmp6.go:77", after := #[{ on := 0, ground := Ground.data }], guard := none }) (v := ?_) rfl (by kernel_rfl) (by kernel_rfl) (by kernel_rfl) (fun _ _ _ h => h) (Or.inl ⟨by rfl, ?_⟩) (by assumption) ?_
        rotate_left
        · (intro ww hSw; (try dsimp only at hSw); go_simp; try with_reducible rfl)
        (try simp only [Act.put, List.setIfInBounds_toArray, List.set_cons_zero, List.set_cons_succ])
        refine wpAnyH_take (i := 2) (oi := { dst := some 20, op := Op.binOp BinOp.shr 24 (Operand.tmp 19) (Operand.const (Value.int IntKind.u64 16)) 47, type := 24, pos := "icmp6.go:77", after := #[{ on := 1, ground := Ground.data }], guard := none }) (v := ?_) rfl (by kernel_rfl) (by kernel_rfl) (by kernel_rfl) (fun _ _ _ h => h) (Or.inl ⟨by rfl, ?_⟩) (by assumption) ?_
        rotate_left
        · (intro ww hSw; (try dsimp only at hSw); go_simp; try with_reducible rfl)
        (try simp only [Act.put, List.setIfInBounds_toArray, List.set_cons_zero, List.set_cons_succ])
        refine wpAnyH_take (i := 3) (oi := { dst := some 21, op := Op.convert 24 3 (Operand.tmp 20), type := 3, pos := "icmp6.go:77", after := #[{ on := 2, ground := Ground.data }], guard := none }) (v := ?_) rfl (by kernel_rfl) (by kernel_rfl) (by kernel_rfl) (fun _ _ _ h => h) (Or.inl ⟨by rfl, ?_⟩) (by assumption) ?_
        rotate_left
        · (intro ww hSw; (try dsimp only at hSw); go_simp; try with_reducible rfl)
        (try simp only [Act.put, List.setIfInBounds_toArray, List.set_cons_zero, List.set_cons_succ])
        refine wpAnyH_take (i := 4) (oi := { dst := some 22, op := Op.fieldAddr 26 (Operand.tmp 1) 0, type := 0, pos := "icmp6.go:77", after := #[{ on := 7, ground := Ground.gcOnly Departure.lateStores }], guard := none }) (v := ?_) rfl (by kernel_rfl) (by kernel_rfl) (by kernel_rfl) (fun _ _ _ h => h) (Or.inl ⟨by rfl, ?_⟩) (by assumption) ?_
        rotate_left
        · (intro ww hSw; (try dsimp only at hSw); go_simp; try with_reducible rfl)
        (try simp only [Act.put, List.setIfInBounds_toArray, List.set_cons_zero, List.set_cons_succ])
        refine wpAnyH_take (i := 5) (oi := { dst := some 23, op := Op.load 3 (Operand.tmp 22), type := 3, pos := "icmp6.go:77", after := #[{ on := 4, ground := Ground.data }, { on := 7, ground := Ground.gcOnly Departure.lateStores }], guard := none }) (v := ?_) rfl (by kernel_rfl) (by kernel_rfl) (by kernel_rfl) (fun _ _ _ h => h) (Or.inl ⟨by rfl, ?_⟩) (by assumption) ?_
        rotate_left
        · (intro ww hSw; (try dsimp only at hSw); go_simp; try with_reducible rfl)
        (try simp only [Act.put, List.setIfInBounds_toArray, List.set_cons_zero, List.set_cons_succ])
        refine wpAnyH_take (i := 6) (oi := { dst := some 24, op := Op.binOp BinOp.eql 3 (Operand.tmp 23) (Operand.const (Value.int IntKind.i64 128)) 3, type := 4, pos := "icmp6.go:77", after := #[{ on := 5, ground := Ground.data }, { on := 7, ground := Ground.gcOnly Departure.lateStores }], guard := none }) (v := ?_) rfl (by kernel_rfl) (by kernel_rfl) (by kernel_rfl) (fun _ _ _ h => h) (Or.inl ⟨by rfl, ?_⟩) (by assumption) ?_
        rotate_left
        · (intro ww hSw; (try dsimp only at hSw); go_simp; try with_reducible rfl)
        (try simp only [Act.put, List.setIfInBounds_toArray, List.set_cons_zero, List.set_cons_succ])
        refine wpAnyH_take (i := 7) (oi := { dst := some 2, op := Op.assign (Operand.tmp 21), type := 3, pos := "icmp6.go:77", after := #[{ on := 3, ground := Ground.data }, { on := 0, ground := Ground.phase }, { on := 1, ground := Ground.phase }, { on := 2, ground := Ground.phase }, { on := 3, ground := Ground.phase }, { on := 4, ground := Ground.textOnly Departure.lateStores }, { on := 5, ground := Ground.textOnly Departure.lateStores }, { on := 6, ground := Ground.textOnly Departure.lateStores }], guard := none }) (v := ?_) rfl (by kernel_rfl) (by kernel_rfl) (by kernel_rfl) (fun _ _ _ h => h) (Or.inl ⟨by rfl, ?_⟩) (by assumption) ?_
        rotate_left
        · (intro ww hSw; (try dsimp only at hSw); go_simp; try with_reducible rfl)
        (try simp only [Act.put, List.setIfInBounds_toArray, List.set_cons_zero, List.set_cons_succ])
        refine wpAnyH_take (i := 8) (oi := { dst := some 3, op := Op.assign (Operand.tmp 24), type := 4, pos := "icmp6.go:77", after := #[{ on := 6, ground := Ground.data }, { on := 7, ground := Ground.chain }, { on := 0, ground := Ground.phase }, { on := 1, ground := Ground.phase }, { on := 2, ground := Ground.phase }, { on := 3, ground := Ground.phase }, { on := 4, ground := Ground.phase }, { on := 5, ground := Ground.phase }, { on := 6, ground := Ground.phase }, { on := 7, ground := Ground.phase }], guard := none }) (v := ?_) rfl (by kernel_rfl) (by kernel_rfl) (by kernel_rfl) (fun _ _ _ h => h) (Or.inl ⟨by rfl, ?_⟩) (by assumption) ?_
        rotate_left
        · (intro ww hSw; (try dsimp only at hSw); go_simp; try with_reducible rfl)
        (try simp only [Act.put, List.setIfInBounds_toArray, List.set_cons_zero, List.set_cons_succ])
        refine wpAnyH_take (i := 9) (oi := { dst := some 4, op := Op.assign (Operand.const (Value.bool true)), type := 4, pos := "icmp6.go:77", after := #[{ on := 8, ground := Ground.chain }, { on := 0, ground := Ground.phase }, { on := 1, ground := Ground.phase }, { on := 2, ground := Ground.phase }, { on := 3, ground := Ground.phase }, { on := 4, ground := Ground.phase }, { on := 5, ground := Ground.phase }, { on := 6, ground := Ground.phase }, { on := 7, ground := Ground.phase }, { on := 8, ground := Ground.phase }], guard := none }) (v := ?_) rfl (by kernel_rfl) (by kernel_rfl) (by kernel_rfl) (fun _ _ _ h => h) (Or.inl ⟨by rfl, ?_⟩) (by assumption) ?_
        rotate_left
        · (intro ww hSw; (try dsimp only at hSw); go_simp; try with_reducible rfl)
        (try simp only [Act.put, List.setIfInBounds_toArray, List.set_cons_zero, List.set_cons_succ])
        refine wpAnyH_done (by kernel_rfl) ?_ _
        refine NoPanic.normal ?_
        have HB2 := Lib.hid (And.left hHeld)
        clear hHeld
        go_wp2_with fail
        go_ret3
        exact ⟨rfl, HB2.out⟩
    · have m2 : (x0 != 128) = false := by show (!(x0 == 128)) = false; rw [h2]; rfl
      go_upto_region 3 with (fail)
      refine wp_region_noPanic ?_
      refine wp_region_held_drew (S := fun w' => Below w.heap.size w w' ∧ w'.cell? ⟨w.heap.size, 0, none⟩ = some (.int .i64 x0) ∧ w'.cell? ⟨w.heap.size, 2, none⟩ = some (.int .u32 (x2 : Nat))) (by kernel_rfl) (ec_drew HE.out) (fun hHeld => ?_)
      refine wpAnyH_take (i := 0) (oi := { dst := some 18, op := Op.fieldAddr 26 (Operand.tmp 1) 2, type := 0, pos := "icmp6.go:77", after := #[], guard := none }) (v := ?_) rfl (by kernel_rfl) (by kernel_rfl) (by kernel_rfl) (fun _ _ _ h => h) (Or.inl ⟨by rfl, ?_⟩) (by assumption) ?_
      rotate_left
      · (intro ww hSw; (try dsimp only at hSw); go_simp; try with_reducible rfl)
      (try simp only [Act.put, List.setIfInBounds_toArray, List.set_cons_zero, List.set_cons_succ])
      refine wpAnyH_take (i := 1) (oi := { dst := some 19, op := Op.load 24 (Operand.tmp 18), type := 24, pos := "icmp6.go:77", after := #[{ on := 0, ground := Ground.data }], guard := none }) (v := ?_) rfl (by kernel_rfl) (by kernel_rfl) (by kernel_rfl) (fun _ _ _ h => h) (Or.inl ⟨by rfl, ?_⟩) (by assumption) ?_
      rotate_left
      · (intro ww hSw; (try dsimp only at hSw); go_simp; try with_reducible rfl)
      (try simp only [Act.put, List.setIfInBounds_toArray, List.set_cons_zero, List.set_cons_succ])
      refine wpAnyH_take (i := 2) (oi := { dst := some 20, op := Op.binOp BinOp.shr 24 (Operand.tmp 19) (Operand.const (Value.int IntKind.u64 16)) 47, type := 24, pos := "icmp6.go:77", after := #[{ on := 1, ground := Ground.data }], guard := none }) (v := ?_) rfl (by kernel_rfl) (by kernel_rfl) (by kernel_rfl) (fun _ _ _ h => h) (Or.inl ⟨by rfl, ?_⟩) (by assumption) ?_
      rotate_left
      · (intro ww hSw; (try dsimp only at hSw); go_simp; try with_reducible rfl)
      (try simp only [Act.put, List.setIfInBounds_toArray, List.set_cons_zero, List.set_cons_succ])
      refine wpAnyH_take (i := 3) (oi := { dst := some 21, op := Op.convert 24 3 (Operand.tmp 20), type := 3, pos := "icmp6.go:77", after := #[{ on := 2, ground := Ground.data }], guard := none }) (v := ?_) rfl (by kernel_rfl) (by kernel_rfl) (by kernel_rfl) (fun _ _ _ h => h) (Or.inl ⟨by rfl, ?_⟩) (by assumption) ?_
      rotate_left
      · (intro ww hSw; (try dsimp only at hSw); go_simp; try with_reducible rfl)
      (try simp only [Act.put, List.setIfInBounds_toArray, List.set_cons_zero, List.set_cons_succ])
      refine wpAnyH_take (i := 4) (oi := { dst := some 22, op := Op.fieldAddr 26 (Operand.tmp 1) 0, type := 0, pos := "icmp6.go:77", after := #[{ on := 7, ground := Ground.gcOnly Departure.lateStores }], guard := none }) (v := ?_) rfl (by kernel_rfl) (by kernel_rfl) (by kernel_rfl) (fun _ _ _ h => h) (Or.inl ⟨by rfl, ?_⟩) (by assumption) ?_
      rotate_left
      · (intro ww hSw; (try dsimp only at hSw); go_simp; try with_reducible rfl)
      (try simp only [Act.put, List.setIfInBounds_toArray, List.set_cons_zero, List.set_cons_succ])
      refine wpAnyH_take (i := 5) (oi := { dst := some 23, op := Op.load 3 (Operand.tmp 22), type := 3, pos := "icmp6.go:77", after := #[{ on := 4, ground := Ground.data }, { on := 7, ground := Ground.gcOnly Departure.lateStores }], guard := none }) (v := ?_) rfl (by kernel_rfl) (by kernel_rfl) (by kernel_rfl) (fun _ _ _ h => h) (Or.inl ⟨by rfl, ?_⟩) (by assumption) ?_
      rotate_left
      · (intro ww hSw; (try dsimp only at hSw); go_simp; try with_reducible rfl)
      (try simp only [Act.put, List.setIfInBounds_toArray, List.set_cons_zero, List.set_cons_succ])
      refine wpAnyH_take (i := 6) (oi := { dst := some 24, op := Op.binOp BinOp.eql 3 (Operand.tmp 23) (Operand.const (Value.int IntKind.i64 128)) 3, type := 4, pos := "icmp6.go:77", after := #[{ on := 5, ground := Ground.data }, { on := 7, ground := Ground.gcOnly Departure.lateStores }], guard := none }) (v := ?_) rfl (by kernel_rfl) (by kernel_rfl) (by kernel_rfl) (fun _ _ _ h => h) (Or.inl ⟨by rfl, ?_⟩) (by assumption) ?_
      rotate_left
      · (intro ww hSw; (try dsimp only at hSw); go_simp; try with_reducible rfl)
      (try simp only [Act.put, List.setIfInBounds_toArray, List.set_cons_zero, List.set_cons_succ])
      refine wpAnyH_take (i := 7) (oi := { dst := some 2, op := Op.assign (Operand.tmp 21), type := 3, pos := "icmp6.go:77", after := #[{ on := 3, ground := Ground.data }, { on := 0, ground := Ground.phase }, { on := 1, ground := Ground.phase }, { on := 2, ground := Ground.phase }, { on := 3, ground := Ground.phase }, { on := 4, ground := Ground.textOnly Departure.lateStores }, { on := 5, ground := Ground.textOnly Departure.lateStores }, { on := 6, ground := Ground.textOnly Departure.lateStores }], guard := none }) (v := ?_) rfl (by kernel_rfl) (by kernel_rfl) (by kernel_rfl) (fun _ _ _ h => h) (Or.inl ⟨by rfl, ?_⟩) (by assumption) ?_
      rotate_left
      · (intro ww hSw; (try dsimp only at hSw); go_simp; try with_reducible rfl)
      (try simp only [Act.put, List.setIfInBounds_toArray, List.set_cons_zero, List.set_cons_succ])
      refine wpAnyH_take (i := 8) (oi := { dst := some 3, op := Op.assign (Operand.tmp 24), type := 4, pos := "icmp6.go:77", after := #[{ on := 6, ground := Ground.data }, { on := 7, ground := Ground.chain }, { on := 0, ground := Ground.phase }, { on := 1, ground := Ground.phase }, { on := 2, ground := Ground.phase }, { on := 3, ground := Ground.phase }, { on := 4, ground := Ground.phase }, { on := 5, ground := Ground.phase }, { on := 6, ground := Ground.phase }, { on := 7, ground := Ground.phase }], guard := none }) (v := ?_) rfl (by kernel_rfl) (by kernel_rfl) (by kernel_rfl) (fun _ _ _ h => h) (Or.inl ⟨by rfl, ?_⟩) (by assumption) ?_
      rotate_left
      · (intro ww hSw; (try dsimp only at hSw); go_simp; try with_reducible rfl)
      (try simp only [Act.put, List.setIfInBounds_toArray, List.set_cons_zero, List.set_cons_succ])
      refine wpAnyH_take (i := 9) (oi := { dst := some 4, op := Op.assign (Operand.const (Value.bool true)), type := 4, pos := "icmp6.go:77", after := #[{ on := 8, ground := Ground.chain }, { on := 0, ground := Ground.phase }, { on := 1, ground := Ground.phase }, { on := 2, ground := Ground.phase }, { on := 3, ground := Ground.phase }, { on := 4, ground := Ground.phase }, { on := 5, ground := Ground.phase }, { on := 6, ground := Ground.phase }, { on := 7, ground := Ground.phase }, { on := 8, ground := Ground.phase }], guard := none }) (v := ?_) rfl (by kernel_rfl) (by kernel_rfl) (by kernel_rfl) (fun _ _ _ h => h) (Or.inl ⟨by rfl, ?_⟩) (by assumption) ?_
      rotate_left
      · (intro ww hSw; (try dsimp only at hSw); go_simp; try with_reducible rfl)
      (try simp only [Act.put, List.setIfInBounds_toArray, List.set_cons_zero, List.set_cons_succ])
      refine wpAnyH_done (by kernel_rfl) ?_ _
      refine NoPanic.normal ?_
      have HB2 := Lib.hid (And.left hHeld)
      clear hHeld
      go_wp2_with fail
      go_ret3
      exact ⟨rfl, HB2.out⟩
theorem andS32 (x : Nat) (h : x < 4294967296) : bits .and .u32 (x : Int) 65535 = ((x % 65536 : Nat) : Int) := by
  have h1 : (BitVec.ofInt 32 ((x : Nat) : Int)).toNat = x := by
    rw [BitVec.ofInt_natCast, BitVec.toNat_ofNat]; exact Nat.mod_eq_of_lt (by omega)
  have h2 : (BitVec.ofInt 32 (65535 : Int)).toNat = 2 ^ 16 - 1 := by decide
  show IntKind.u32.wrap ((BitVec.ofInt 32 ((x : Nat) : Int) &&& BitVec.ofInt 32 65535).toNat : Int) = _
  rw [BitVec.toNat_and, h1, h2, Nat.and_two_pow_sub_one_eq_mod]
  exact IntWalk.u32_in _ (by omega)
theorem orS32 (a c : Nat) (ha : a < 65536) (hc : c < 65536) : bits .or .u32 ((a : Int) * 65536) (c : Int) = ((a * 65536 + c : Nat) : Int) := by
  have hor : a * 65536 ||| c = a * 65536 + c := by
    have := Nat.two_pow_add_eq_or_of_lt (i := 16) (b := c) (by omega) a
    rw [Nat.mul_comm] at this
    exact this.symm
  have h1 : (BitVec.ofInt 32 ((a : Int) * 65536)).toNat = a * 65536 := by
    rw [show (a : Int) * 65536 = ((a * 65536 : Nat) : Int) by simp, BitVec.ofInt_natCast, BitVec.toNat_ofNat]; exact Nat.mod_eq_of_lt (by omega)
  have h2 : (BitVec.ofInt 32 (c : Int)).toNat = c := by
    rw [BitVec.ofInt_natCast, BitVec.toNat_ofNat]; exact Nat.mod_eq_of_lt (by omega)
  show IntKind.u32.wrap ((BitVec.ofInt 32 ((a : Int) * 65536) ||| BitVec.ofInt 32 (c : Int)).toNat : Int) = _
  rw [BitVec.toNat_or, h1, h2, hor]
  exact IntWalk.u32_in _ (by omega)
set_option maxRecDepth 100000 in
set_option maxHeartbeats 400000 in
theorem with_any (x0 x1 : Int) (x2 : Nat) (x3 : ByteArray) (id : Int) (w : World) (hx : x2 < 4294967296) :
    Calls Try.prog 13 #[.agg #[.int .i64 x0, .int .i64 x1, .int .u32 (x2 : Nat), .string x3], .int .i64 id] w fun e w' => e = .returned (.agg ((Ms.mk x0 x1 x2 x3).withId id).vals.toArray) ∧ Below w.heap.size w w' := by
  obtain ⟨M, hM⟩ : ∃ M : Nat, M = (id % 65536).toNat := ⟨_, rfl⟩
  have hMl : M < 65536 := by rw [hM]; omega
  have k0 : bits .and .i64 id 65535 = ((M : Nat) : Int) := by rw [and_16, hM]; omega
  have k1 : IntKind.u32.wrap ((M : Nat) : Int) = ((M : Nat) : Int) := IntWalk.u32_in _ (by omega)
  have k2 : IntKind.u32.wrap (((M : Nat) : Int) * 65536) = ((M : Nat) : Int) * 65536 := IntWalk.u32_in _ (by omega)
  have k3 := andS32 x2 hx
  have k4 : bits .or .u32 (((M : Nat) : Int) * 65536) ((x2 % 65536 : Nat) : Int) = ((M * 65536 + x2 % 65536 : Nat) : Int) := orS32 M _ hMl (by omega)
  have hV : ((Ms.mk x0 x1 x2 x3).withId id).vals = [.int .i64 x0, .int .i64 x1, .int .u32 (M * 65536 + x2 % 65536 : Nat), .string x3] := by rw [hM]; rfl
  rw [hV]
  clear hV hM hx
  generalize x2 % 65536 = y at *
  generalize M * 65536 + y = R at *
  have HI : Hid ((Try.prog.info? 26).map (·.size) = some 4) := Lib.hid (Try.infoMs ms0)
  have HOn : Hid (([.int .i64 x0, .int .i64 x1, .int .u32 (R : Nat), .string x3] : List Value).toArray.all (·.oneCell') = true) := Lib.hid (by simp [Value.oneCell'])
  have hk0 : Bk ((w.alloc (.cells #[.int .i64 x0, .int .i64 x1, .int .u32 (x2 : Nat), .string x3] 26)).alloc (.cells #[.int .i64 0, .int .i64 0, .int .u32 0, .string ⟨#[]⟩] 26)) w.heap.size 26 ([.int .i64 x0, .int .i64 x1, .int .u32 (x2 : Nat), .string x3] : List Value).toArray := (bk_new w 26 ([.int .i64 x0, .int .i64 x1, .int .u32 (x2 : Nat), .string x3] : List Value).toArray).alloc _
  have hs0 : (w.alloc (.cells #[.int .i64 x0, .int .i64 x1, .int .u32 (x2 : Nat), .string x3] 26)).heap.size = w.heap.size + 1 := by simp
  have hk1 : Bk ((w.alloc (.cells #[.int .i64 x0, .int .i64 x1, .int .u32 (x2 : Nat), .string x3] 26)).alloc (.cells #[.int .i64 0, .int .i64 0, .int .u32 0, .string ⟨#[]⟩] 26)) (w.heap.size + 1) 26 ms0.vals.toArray := by
    have h := bk_new (w.alloc (.cells #[.int .i64 x0, .int .i64 x1, .int .u32 (x2 : Nat), .string x3] 26)) 26 ms0.vals.toArray
    rw [hs0] at h
    exact h
  have hb1 : Below w.heap.size w ((w.alloc (.cells #[.int .i64 x0, .int .i64 x1, .int .u32 (x2 : Nat), .string x3] 26)).alloc (.cells #[.int .i64 0, .int .i64 0, .int .u32 0, .string ⟨#[]⟩] 26)) := ((Below.refl _ _).alloc (Nat.le_refl _) _).alloc (by rw [hs0]; omega) _
  go_enter Try.func13, Try.ntmps13
  go_upto_region 1 with (fail)
  clear hs0
  generalize (w.alloc (.cells #[.int .i64 x0, .int .i64 x1, .int .u32 (x2 : Nat), .string x3] 26)).alloc (.cells #[.int .i64 0, .int .i64 0, .int .u32 0, .string ⟨#[]⟩] 26) = w1 at *
  have c2 := hk0.at (i := 2) rfl
  have z2 := hk0.z 2
  have HK0 := Lib.hid hk0
  have HK1 := Lib.hid hk1
  have HB1 := Lib.hid hb1
  clear hk0 hk1 hb1
  go_upto_region 2 with (fail)
  clear c2 z2 k0 k1 k2 k3 k4
  have hb0 := HK0.out.set 2 (.int .u32 (R : Nat))
  have hb0' : Bk (w1.setCell ⟨w.heap.size, 2, none⟩ (.int .u32 (R : Nat))) w.heap.size 26 ([.int .i64 x0, .int .i64 x1, .int .u32 (R : Nat), .string x3] : List Value).toArray := hb0
  have hb1 := Bk.set_other HK1.out (Nat.succ_ne_self w.heap.size) 2 (.int .u32 (R : Nat))
  have hbl := HB1.out.setCell (show w.heap.size ≤ (⟨w.heap.size, 2, none⟩ : Addr).block from Nat.le_refl _) (.int .u32 (R : Nat))
  generalize w1.setCell ⟨w.heap.size, 2, none⟩ (.int .u32 (R : Nat)) = w2 at *
  have hr := hb0'.range
  have ht := hb1.there 4 (Nat.le_refl _)
  have HK5 := Lib.hid (Bk.sets ([.int .i64 x0, .int .i64 x1, .int .u32 (R : Nat), .string x3] : List Value) 0 _ _ hb1)
  have HB5 := Lib.hid hbl
  clear hb0 hb0' hb1 hbl HK0 HK1 HB1
  go_wp2_with (first | (refine wpList_load_mid rfl 26 _ rfl w.heap.size 0 rfl ([.int .i64 x0, .int .i64 x1, .int .u32 (R : Nat), .string x3] : List Value) _ hr Try.underlying26 rfl HI.out ?_) | (refine wpList_store_mid rfl 26 _ _ rfl (w.heap.size + 1) 0 ([.int .i64 x0, .int .i64 x1, .int .u32 (R : Nat), .string x3] : List Value).toArray rfl rfl ht HI.out HOn.out ?_))
  have hk5 := HK5.out
  rw [puts_whole ms0.vals.toArray ([.int .i64 x0, .int .i64 x1, .int .u32 (R : Nat), .string x3] : List Value) rfl] at hk5
  refine bodyPost_ret (v := .agg ([.int .i64 x0, .int .i64 x1, .int .u32 (R : Nat), .string x3] : List Value).toArray) ?_ rfl ⟨rfl, below_sets _ (Nat.le_succ _) 0 _ HB5.out⟩
  exact results_cell rfl rfl (run_loadVar_mid _ (w.heap.size + 1) 0 26 _ _ hk5.range Try.underlying26 rfl HI.out)
set_option maxRecDepth 100000 in
theorem fail_any (x0 x1 : Int) (x2 : Nat) (x3 : ByteArray) (w : World) :
    Calls Try.prog 14 #[.agg #[.int .i64 x0, .int .i64 x1, .int .u32 (x2 : Nat), .string x3]] w fun e w' => e = .returned (.bool (Ms.mk x0 x1 x2 x3).fails) ∧ Below w.heap.size w w' := by
  have HB := Lib.hid (show Below w.heap.size w (w.alloc (.cells #[.int .i64 x0, .int .i64 x1, .int .u32 (x2 : Nat), .string x3] 26)) from (Below.refl _ _).alloc (Nat.le_refl _) _)
  unfold Ms.fails
  dsimp only
  have g : ∀ p q : Prop, [Decidable p] → [Decidable q] → (p ↔ q) → decide p = decide q := fun p q _ _ h => by
    by_cases hp : p
    · rw [decide_eq_true hp, decide_eq_true (h.1 hp)]
    · rw [decide_eq_false hp, decide_eq_false (fun k => hp (h.2 k))]
  rw [g (0 < x0) (1 ≤ x0) (by omega), g (x0 < 128) (x0 ≤ 127) (by omega)]
  clear g
  go_enter Try.func14, Try.ntmps14
  by_cases h0 : 1 ≤ x0
  · have d0 := decide_eq_true h0
    by_cases h1 : x0 ≤ 127
    · have d1 := decide_eq_true h1
      rw [d0, d1]
      clear d0 d1
      go_wp2_with fail
      go_ret
      exact ⟨rfl, HB.out⟩
    · have d1 := decide_eq_false h1
      rw [d0, d1]
      clear d0 d1
      go_wp2_with fail
      go_ret
      exact ⟨rfl, HB.out⟩
  · have d0 := decide_eq_false h0
    rw [d0]
    clear d0
    go_wp2_with fail
    go_ret
    exact ⟨rfl, HB.out⟩
end Go.Proofs.Ytmfolkbmkfifcaa
