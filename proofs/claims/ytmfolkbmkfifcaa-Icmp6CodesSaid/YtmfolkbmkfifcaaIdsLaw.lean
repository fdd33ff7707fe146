/-
  Proved here: the law Icmp6Ids answers true, given what the program's functions answer.
  Conditions: MSays.
-/
import Derived.Test.YtmfolkbmkfifcaaAwake
namespace Go.Proofs.Ytmfolkbmkfifcaa
open Go.RowKit

theorem and_u32 (n : Nat) (h : n < 4294967296) : bits .and .u32 ((n : Nat) : Int) 65535 = ((n % 65536 : Nat) : Int) := by
  have h1 : (BitVec.ofInt 32 ((n : Nat) : Int)).toNat = n := by
    rw [BitVec.ofInt_natCast, BitVec.toNat_ofNat]; exact Nat.mod_eq_of_lt (by omega)
  have h2 : (BitVec.ofInt 32 (65535 : Int)).toNat = 65535 := by decide
  have h3 : n &&& 65535 = n % 65536 := Nat.and_two_pow_sub_one_eq_mod n 16
  show IntKind.u32.wrap ((BitVec.ofInt 32 ((n : Nat) : Int) &&& BitVec.ofInt 32 (65535 : Int)).toNat : Int) = _
  rw [BitVec.toNat_and, h1, h2, h3]
  exact IntWalk.u32_in _ (by omega)
theorem fails_not {d : Ms} (h : d.is = true) : d.fails = false := by
  have h2 : d.kd = 128 ∨ d.kd = 129 := by
    unfold Ms.is Ms.asks Ms.tells at h
    simp only [Bool.or_eq_true, Bool.and_eq_true, beq_iff_eq] at h
    omega
  unfold Ms.fails
  rcases h2 with h2 | h2
  · rw [h2]; rfl
  · rw [h2]; rfl
theorem asks_not {d : Ms} (h : d.is = false) : d.asks = false := by
  unfold Ms.is at h
  cases ha : d.asks
  · rfl
  · rw [ha] at h; cases h
theorem with_rs (d : Ms) (I : Nat) (hI : I < 65536) : (d.withId (I : Int)).rs = I * 65536 + d.rs % 65536 := by
  show (((I : Nat) : Int) % 65536).toNat * 65536 + d.rs % 65536 = _
  rw [show ((I : Nat) : Int) % 65536 = (I : Int) by omega]
  rfl
theorem ms_ext {a b : Ms} (h0 : a.kd = b.kd) (h1 : a.cd = b.cd) (h2 : a.rs = b.rs) (h3 : a.da = b.da) : a = b := by
  cases a
  cases b
  simp_all
theorem with_back (d : Ms) (I : Nat) (hI : I < 65536) (hx : d.rs < 4294967296) : (d.withId (I : Int)).withId ((d.rs / 65536 : Nat) : Int) = d := by
  have h1 := with_rs d I hI
  have h2 := with_rs (d.withId (I : Int)) (d.rs / 65536) (by omega)
  rw [h1] at h2
  exact ms_ext rfl rfl (by rw [h2]; omega) rfl
/-- What a region keeps of two messages' blocks. -/
def M2 (w0 : World) (B b g : Nat) (x0 x1 x2 : Int) (x3 : ByteArray) (r2 : Int) (w' : World) : Prop := Below B w0 w' ∧ B ≤ w'.heap.size ∧ w'.cell? ⟨b, 0, none⟩ = some (.int .i64 x0) ∧ w'.cell? ⟨b, 1, none⟩ = some (.int .i64 x1) ∧ w'.cell? ⟨b, 2, none⟩ = some (.int .u32 x2) ∧ w'.cell? ⟨b, 3, none⟩ = some (.string x3) ∧ w'.cell? ⟨g, 0, none⟩ = some (.int .i64 x0) ∧ w'.cell? ⟨g, 1, none⟩ = some (.int .i64 x1) ∧ w'.cell? ⟨g, 2, none⟩ = some (.int .u32 r2) ∧ w'.cell? ⟨g, 3, none⟩ = some (.string x3)
section
variable {w0 w w' : World} {B b g : Nat} {x0 x1 x2 r2 : Int} {x3 : ByteArray}
theorem M2.below (h : M2 w0 B b g x0 x1 x2 x3 r2 w) (hb : Below w.heap.size w w') : M2 w0 B b g x0 x1 x2 x3 r2 w' := by
  obtain ⟨a, s, c0, c1, c2, c3, r0, r1, r3, r4⟩ := h
  exact ⟨a.trans (hb.mono s), Nat.le_trans s hb.size, cell_kept c0 hb, cell_kept c1 hb, cell_kept c2 hb, cell_kept c3 hb, cell_kept r0 hb, cell_kept r1 hb, cell_kept r3 hb, cell_kept r4 hb⟩
theorem M2.drew (h : M2 w0 B b g x0 x1 x2 x3 r2 w) : M2 w0 B b g x0 x1 x2 x3 r2 w.drew := ⟨h.1.drew, h.2⟩
end
set_option maxRecDepth 100000 in
set_option maxHeartbeats 2000000 in
theorem icmp6Ids_all (U : MSays) (d : Ms) (I : Nat) (hI : I ≤ 65535) (hx : d.rs < 4294967296) (w : World) :
    Calls Try.prog 7 #[.agg #[.int .i64 d.kd, .int .i64 d.cd, .int .u32 (d.rs : Nat), .string d.da], .int .u16 (I : Nat)] w fun e w' => e = .returned (.bool true) ∧ Below w.heap.size w w' := by
  have HA := Lib.hid (fun W => awake_true U W)
  have hr2 := with_rs d I (by omega)
  have C1 := Lib.hid (fun (W : World) => U.echo d W hx)
  have C3 := Lib.hid (fun (W : World) => U.withId d I W hx (by omega) (by omega))
  have C2 := Lib.hid (fun (W : World) => U.echo (d.withId I) W (withId_rs d I))
  have e1 : (d.withId I).kd = d.kd := rfl
  have e2 : (d.withId I).cd = d.cd := rfl
  have e3 : (d.withId I).da = d.da := rfl
  have e4 : (d.withId I).asks = d.asks := rfl
  have e5 : (d.withId I).is = d.is := rfl
  have e6 : (d.withId I).idn = if d.is = true then (I : Int) else 0 := by
    unfold Ms.idn
    rw [e5, hr2, show (I * 65536 + d.rs % 65536) / 65536 = I by omega]
  have C4 := Lib.hid (fun (W : World) => U.withId (d.withId I) ((d.rs / 65536 : Nat) : Int) W (withId_rs d I) (by omega) (by omega))
  rw [with_back d I (by omega) hx, e1, e2, e3] at C4
  have C5 := Lib.hid (fun (W : World) => U.fails d W hx)
  rw [e1, e2, e3] at C3
  rw [e1, e2, e3, e4, e5, e6] at C2
  have k1 : bits .and .u32 ((d.rs : Nat) : Int) 65535 = ((d.rs % 65536 : Nat) : Int) := and_u32 _ hx
  have k2 : bits .and .u32 (((d.withId I).rs : Nat) : Int) 65535 = ((d.rs % 65536 : Nat) : Int) := by
    rw [and_u32 _ (withId_rs d I), hr2, show (I * 65536 + d.rs % 65536) % 65536 = d.rs % 65536 by omega]
  have k3 : (((d.withId I).rs : Nat) : Int) / 65536 = (I : Int) := by rw [hr2]; omega
  have k4 : IntKind.i64.wrap (I : Int) = (I : Int) := IntWalk.i64_in _ (by omega)
  have k5 : IntKind.u32.wrap (I : Int) = (I : Int) := IntWalk.u32_in _ (by omega)
  have HF := Lib.hid (fun h : d.is = true => fails_not h)
  have HN := Lib.hid (fun h : d.is = false => asks_not h)
  have HN1 : Hid (d.idn = if d.is = true then ((d.rs / 65536 : Nat) : Int) else 0) := Lib.hid rfl
  have hq := fun W => eqlMs d.kd d.cd (d.rs : Nat) d.da W
  generalize (d.withId I).rs = r2 at *
  generalize d.rs % 65536 = m at *
  generalize d.idn = n at *
  generalize d.asks = f1 at *
  generalize d.is = f2 at *
  generalize d.fails = f3 at *
  generalize ((d.rs / 65536 : Nat) : Int) = q at *
  clear e1 e2 e3 e4 e5 e6 hr2 hx hI
  obtain ⟨x0, x1, x2, x3⟩ := d
  dsimp only at *
  go_enter Try.func7, Try.ntmps7
  go_wp2_with fail
  refine (HA.out _).mono ?_
  rintro e w1 ⟨rfl, b1⟩
  have HK1 := Lib.hid ((((Kp.start w).new 26 ([.int .i64 x0, .int .i64 x1, .int .u32 (x2 : Nat), .string x3] : List Value)).below b1 (Nat.le_refl _)))
  have c0 := HK1.out.hd.at (i := 0) rfl
  have c1 := HK1.out.hd.at (i := 1) rfl
  have c2 := HK1.out.hd.at (i := 2) rfl
  have c3 := HK1.out.hd.at (i := 3) rfl
  clear b1 HA
  by_cases h1 : 3000 < x3.size
  · have i1 : (3000 : Int) < (x3.size : Int) := by omega
    have d1 := decide_eq_true i1
    clear h1
    go_wp2_with fail
    go_ret
    exact ⟨rfl, HK1.out.2.1⟩
  have i1 : ¬ (3000 : Int) < (x3.size : Int) := by omega
  have d1 := decide_eq_false i1
  clear h1
  go_wp2_with fail
  refine (C1.out w1).mono ?_
  rintro e w2 ⟨rfl, b2⟩
  have HK2 := Lib.hid (HK1.out.below b2 (Nat.le_refl _))
  clear b2 c0 c1 c2 c3 HK1 C1
  have c0 := HK2.out.hd.at (i := 0) rfl
  have c1 := HK2.out.hd.at (i := 1) rfl
  have c2 := HK2.out.hd.at (i := 2) rfl
  have c3 := HK2.out.hd.at (i := 3) rfl
  go_wp2_with fail
  refine (C3.out w2).mono ?_
  rintro e w3 ⟨rfl, b3⟩
  have HK4 := Lib.hid ((HK2.out.below b3 (Nat.le_refl _)).new 26 ([.int .i64 x0, .int .i64 x1, .int .u32 (r2 : Nat), .string x3] : List Value))
  clear b3 c0 c1 c2 c3 HK2 C3
  generalize hw4 : w3.alloc (.cells #[.int .i64 x0, .int .i64 x1, .int .u32 (r2 : Nat), .string x3] 26) = w4 at *
  go_upto_region 7 with (fail)
  clear hw4
  have r0 := HK4.out.hd.at (i := 0) rfl
  have r1 := HK4.out.hd.at (i := 1) rfl
  have r3 := HK4.out.hd.at (i := 2) rfl
  have r4 := HK4.out.hd.at (i := 3) rfl
  go_wp2_with fail
  refine (C2.out w4).mono ?_
  rintro e w5 ⟨rfl, b5⟩
  have HK5 := Lib.hid (HK4.out.below b5 (Nat.le_refl _))
  clear b5 r0 r1 r3 r4 HK4 C2
  have r0 := HK5.out.hd.at (i := 0) rfl
  have r1 := HK5.out.hd.at (i := 1) rfl
  have r3 := HK5.out.hd.at (i := 2) rfl
  have r4 := HK5.out.hd.at (i := 3) rfl
  have c0 := HK5.out.tl.hd.at (i := 0) rfl
  have c1 := HK5.out.tl.hd.at (i := 1) rfl
  have c2 := HK5.out.tl.hd.at (i := 2) rfl
  have c3 := HK5.out.tl.hd.at (i := 3) rfl
  cases f2
  · have hn : n = 0 := by rw [HN1.out]; rfl
    have hf : f1 = false := HN.out rfl
    subst hn hf
    clear HN1 HN HF
    rw [if_neg (by decide)]
    go_wp2_with fail
    go_ret
    exact ⟨rfl, HK5.out.2.1⟩
  · have hn : n = q := by rw [HN1.out]; rfl
    have hf : f3 = false := HF.out rfl
    subst hf
    subst hn
    clear HN1 HN HF
    rw [if_pos rfl]
    have HM : Hid (M2 w w.heap.size w.heap.size w3.heap.size x0 x1 (x2 : Nat) x3 (r2 : Nat) w5) := Lib.hid ⟨HK5.out.2.1, HK5.out.2.2, c0, c1, c2, c3, r0, r1, r3, r4⟩
    clear HK5
    go_upto_region 12 with (fail)
    clear c0 c1 c2 c3 r0 r1 r3 r4 k1 k2 k3
    generalize w3.heap.size = g at *
    refine wp_region_noPanic ?_
    refine wp_region_held_drew (S := fun w' => Below w.heap.size w w' ∧ w.heap.size ≤ w'.heap.size ∧ w'.cell? ⟨w.heap.size, 0, none⟩ = some (.int .i64 x0) ∧ w'.cell? ⟨w.heap.size, 1, none⟩ = some (.int .i64 x1) ∧ w'.cell? ⟨w.heap.size, 2, none⟩ = some (.int .u32 (x2 : Nat)) ∧ w'.cell? ⟨w.heap.size, 3, none⟩ = some (.string x3) ∧ w'.cell? ⟨g, 0, none⟩ = some (.int .i64 x0) ∧ w'.cell? ⟨g, 1, none⟩ = some (.int .i64 x1) ∧ w'.cell? ⟨g, 2, none⟩ = some (.int .u32 (r2 : Nat)) ∧ w'.cell? ⟨g, 3, none⟩ = some (.string x3)) (by kernel_rfl) (M2.drew HM.out) (fun hHeld => ?_)
    refine wpAnyH_take (i := 0) (oi := { dst := some 92, op := Op.move (Operand.tmp 9), type := 3, pos := "outright.go:56", after := #[], guard := none }) (v := ?_) rfl (by kernel_rfl) (by kernel_rfl) (by kernel_rfl) (fun _ _ _ h => h) (Or.inl ⟨by rfl, ?_⟩) (by assumption) ?_
    rotate_left
    · (intro ww hSw; (try dsimp only at hSw); go_simp; try with_reducible rfl)
    (try simp only [Act.put, List.setIfInBounds_toArray, List.set_cons_zero, List.set_cons_succ])
    refine wpAnyH_take (i := 1) (oi := { dst := some 93, op := Op.move (Operand.tmp 1), type := 44, pos := "outright.go:56", after := #[], guard := none }) (v := ?_) rfl (by kernel_rfl) (by kernel_rfl) (by kernel_rfl) (fun _ _ _ h => h) (Or.inl ⟨by rfl, ?_⟩) (by assumption) ?_
    rotate_left
    · (intro ww hSw; (try dsimp only at hSw); go_simp; try with_reducible rfl)
    (try simp only [Act.put, List.setIfInBounds_toArray, List.set_cons_zero, List.set_cons_succ])
    refine wpAnyH_take (i := 2) (oi := { dst := some 94, op := Op.convert 44 3 (Operand.tmp 93), type := 3, pos := "outright.go:56", after := #[{ on := 1, ground := Ground.data }], guard := none }) (v := ?_) rfl (by kernel_rfl) (by kernel_rfl) (by kernel_rfl) (fun _ _ _ h => h) (Or.inl ⟨by rfl, ?_⟩) (by assumption) ?_
    rotate_left
    · (intro ww hSw; (try dsimp only at hSw); go_simp; try with_reducible rfl)
    (try simp only [Act.put, List.setIfInBounds_toArray, List.set_cons_zero, List.set_cons_succ])
    refine wpAnyH_take (i := 3) (oi := { dst := some 95, op := Op.binOp BinOp.eql 3 (Operand.tmp 92) (Operand.tmp 94) 3, type := 4, pos := "outright.go:56", after := #[{ on := 0, ground := Ground.data }, { on := 2, ground := Ground.data }], guard := none }) (v := ?_) rfl (by kernel_rfl) (by kernel_rfl) (by kernel_rfl) (fun _ _ _ h => h) (Or.inl ⟨by rfl, ?_⟩) (by assumption) ?_
    rotate_left
    · (intro ww hSw; (try dsimp only at hSw); go_simp; try with_reducible rfl)
    (try simp only [Act.put, List.setIfInBounds_toArray, List.set_cons_zero, List.set_cons_succ])
    refine wpAnyH_take (i := 4) (oi := { dst := some 96, op := Op.move (Operand.tmp 95), type := 4, pos := "outright.go:56", after := #[{ on := 3, ground := Ground.data }], guard := none }) (v := ?_) rfl (by kernel_rfl) (by kernel_rfl) (by kernel_rfl) (fun _ _ _ h => h) (Or.inl ⟨by rfl, ?_⟩) (by assumption) ?_
    rotate_left
    · (intro ww hSw; (try dsimp only at hSw); go_simp; try with_reducible rfl)
    (try simp only [Act.put, List.setIfInBounds_toArray, List.set_cons_zero, List.set_cons_succ])
    refine wpAnyH_take (i := 5) (oi := { dst := some 97, op := Op.load 26 (Operand.tmp 8), type := 26, pos := "outright.go:56", after := #[{ on := 4, ground := Ground.guard }], guard := some (4, true) }) (v := ?_) rfl (by kernel_rfl) (by kernel_rfl) (by kernel_rfl) (fun _ _ _ h => h) (Or.inl ⟨by rfl, ?_⟩) (by assumption) ?_
    rotate_left
    · (intro ww hSw; (try dsimp only at hSw); go_simp; try with_reducible rfl)
    (try simp only [Act.put, List.setIfInBounds_toArray, List.set_cons_zero, List.set_cons_succ])
    refine wpAnyH_take (i := 6) (oi := { dst := some 98, op := Op.move (Operand.tmp 5), type := 3, pos := "outright.go:56", after := #[{ on := 4, ground := Ground.guard }], guard := some (4, true) }) (v := ?_) rfl (by kernel_rfl) (by kernel_rfl) (by kernel_rfl) (fun _ _ _ h => h) (Or.inl ⟨by rfl, ?_⟩) (by assumption) ?_
    rotate_left
    · (intro ww hSw; (try dsimp only at hSw); go_simp; try with_reducible rfl)
    (try simp only [Act.put, List.setIfInBounds_toArray, List.set_cons_zero, List.set_cons_succ])
    refine wpAnyH_take (i := 8) (oi := { dst := some 100, op := Op.load 26 (Operand.tmp 2), type := 26, pos := "outright.go:56", after := #[{ on := 4, ground := Ground.guard }], guard := some (4, true) }) (v := ?_) rfl (by kernel_rfl) (by kernel_rfl) (by kernel_rfl) (fun _ _ _ h => h) (Or.inl ⟨by rfl, ?_⟩) (by assumption) ?_
    rotate_left
    · (intro ww hSw; (try dsimp only at hSw); go_simp; try with_reducible rfl)
    (try simp only [Act.put, List.setIfInBounds_toArray, List.set_cons_zero, List.set_cons_succ])
    refine wpAnyH_ready (rs := [7]) (by kernel_rfl) (by simp) ?_
    refine AllReadyH.cons (o := { dst := some 99, op := Op.call { callee := Callee.value (Operand.func 13), args := #[Operand.tmp 97, Operand.tmp 98], argTypes := #[26, 3] }, type := 26, pos := "outright.go:56", after := #[{ on := 5, ground := Ground.data }, { on := 6, ground := Ground.data }, { on := 4, ground := Ground.chain }, { on := 4, ground := Ground.guard }], guard := some (4, true) }) rfl (fun K hK => ?_) AllReadyH.nil
    go_simp
    ((with_reducible refine (C4.out _).mono ?_); rintro e w9 ⟨rfl, hb9⟩)
    refine hK.out _ _ (M2.below hHeld hb9) (fun hHeld => ?_)
    clear hK K
    (try simp only [Act.put, List.setIfInBounds_toArray, List.set_cons_zero, List.set_cons_succ])
    refine wpAnyH_take (i := 9) (oi := { dst := some 101, op := Op.binOp BinOp.eql 26 (Operand.tmp 99) (Operand.tmp 100) 26, type := 4, pos := "outright.go:56", after := #[{ on := 7, ground := Ground.data }, { on := 8, ground := Ground.data }, { on := 4, ground := Ground.guard }], guard := some (4, true) }) (v := ?_) rfl (by kernel_rfl) (by kernel_rfl) (by kernel_rfl) (fun _ _ _ h => h) (Or.inl ⟨by rfl, ?_⟩) (by assumption) ?_
    rotate_left
    · (intro ww hSw; (try dsimp only at hSw); go_simp; try with_reducible rfl)
    (try simp only [Act.put, List.setIfInBounds_toArray, List.set_cons_zero, List.set_cons_succ])
    refine wpAnyH_take (i := 10) (oi := { dst := some 102, op := Op.pick (Operand.tmp 96) (Operand.tmp 101) (Operand.const (Value.bool false)), type := 4, pos := "outright.go:56", after := #[{ on := 4, ground := Ground.data }, { on := 9, ground := Ground.data }], guard := none }) (v := ?_) rfl (by kernel_rfl) (by kernel_rfl) (by kernel_rfl) (fun _ _ _ h => h) (Or.inl ⟨by rfl, ?_⟩) (by assumption) ?_
    rotate_left
    · (intro ww hSw; (try dsimp only at hSw); go_simp; try with_reducible rfl)
    (try simp only [Act.put, List.setIfInBounds_toArray, List.set_cons_zero, List.set_cons_succ])
    refine wpAnyH_take (i := 11) (oi := { dst := some 103, op := Op.move (Operand.tmp 102), type := 4, pos := "outright.go:56", after := #[{ on := 10, ground := Ground.data }, { on := 7, ground := Ground.chain }], guard := none }) (v := ?_) rfl (by kernel_rfl) (by kernel_rfl) (by kernel_rfl) (fun _ _ _ h => h) (Or.inl ⟨by rfl, ?_⟩) (by assumption) ?_
    rotate_left
    · (intro ww hSw; (try dsimp only at hSw); go_simp; try with_reducible rfl)
    (try simp only [Act.put, List.setIfInBounds_toArray, List.set_cons_zero, List.set_cons_succ])
    refine wpAnyH_take (i := 12) (oi := { dst := some 104, op := Op.load 26 (Operand.tmp 2), type := 26, pos := "outright.go:56", after := #[{ on := 11, ground := Ground.guard }], guard := some (11, true) }) (v := ?_) rfl (by kernel_rfl) (by kernel_rfl) (by kernel_rfl) (fun _ _ _ h => h) (Or.inl ⟨by rfl, ?_⟩) (by assumption) ?_
    rotate_left
    · (intro ww hSw; (try dsimp only at hSw); go_simp; try with_reducible rfl)
    (try simp only [Act.put, List.setIfInBounds_toArray, List.set_cons_zero, List.set_cons_succ])
    refine wpAnyH_ready (rs := [13]) (by kernel_rfl) (by simp) ?_
    refine AllReadyH.cons (o := { dst := some 105, op := Op.call { callee := Callee.value (Operand.func 14), args := #[Operand.tmp 104], argTypes := #[26] }, type := 4, pos := "outright.go:56", after := #[{ on := 12, ground := Ground.data }, { on := 11, ground := Ground.chain }, { on := 11, ground := Ground.guard }], guard := some (11, true) }) rfl (fun K hK => ?_) AllReadyH.nil
    go_simp
    ((with_reducible refine (C5.out _).mono ?_); rintro e w9 ⟨rfl, hb9⟩)
    refine hK.out _ _ (M2.below hHeld hb9) (fun hHeld => ?_)
    clear hK K
    (try simp only [Act.put, List.setIfInBounds_toArray, List.set_cons_zero, List.set_cons_succ])
    refine wpAnyH_take (i := 14) (oi := { dst := some 106, op := Op.unOp UnOp.not 4 (Operand.tmp 105), type := 4, pos := "outright.go:56", after := #[{ on := 13, ground := Ground.data }, { on := 11, ground := Ground.guard }], guard := some (11, true) }) (v := ?_) rfl (by kernel_rfl) (by kernel_rfl) (by kernel_rfl) (fun _ _ _ h => h) (Or.inl ⟨by rfl, ?_⟩) (by assumption) ?_
    rotate_left
    · (intro ww hSw; (try dsimp only at hSw); go_simp; try with_reducible rfl)
    (try simp only [Act.put, List.setIfInBounds_toArray, List.set_cons_zero, List.set_cons_succ])
    refine wpAnyH_take (i := 15) (oi := { dst := some 107, op := Op.pick (Operand.tmp 103) (Operand.tmp 106) (Operand.const (Value.bool false)), type := 4, pos := "outright.go:56", after := #[{ on := 11, ground := Ground.data }, { on := 14, ground := Ground.data }], guard := none }) (v := ?_) rfl (by kernel_rfl) (by kernel_rfl) (by kernel_rfl) (fun _ _ _ h => h) (Or.inl ⟨by rfl, ?_⟩) (by assumption) ?_
    rotate_left
    · (intro ww hSw; (try dsimp only at hSw); go_simp; try with_reducible rfl)
    (try simp only [Act.put, List.setIfInBounds_toArray, List.set_cons_zero, List.set_cons_succ])
    refine wpAnyH_take (i := 16) (oi := { dst := some 4, op := Op.assign (Operand.tmp 107), type := 4, pos := "outright.go:56", after := #[{ on := 15, ground := Ground.data }, { on := 13, ground := Ground.chain }, { on := 0, ground := Ground.phase }, { on := 1, ground := Ground.phase }, { on := 2, ground := Ground.phase }, { on := 3, ground := Ground.phase }, { on := 4, ground := Ground.phase }, { on := 5, ground := Ground.phase }, { on := 6, ground := Ground.phase }, { on := 7, ground := Ground.phase }, { on := 8, ground := Ground.phase }, { on := 9, ground := Ground.phase }, { on := 10, ground := Ground.phase }, { on := 11, ground := Ground.phase }, { on := 12, ground := Ground.phase }, { on := 13, ground := Ground.phase }, { on := 14, ground := Ground.phase }, { on := 15, ground := Ground.phase }], guard := none }) (v := ?_) rfl (by kernel_rfl) (by kernel_rfl) (by kernel_rfl) (fun _ _ _ h => h) (Or.inl ⟨by rfl, ?_⟩) (by assumption) ?_
    rotate_left
    · (intro ww hSw; (try dsimp only at hSw); go_simp; try with_reducible rfl)
    (try simp only [Act.put, List.setIfInBounds_toArray, List.set_cons_zero, List.set_cons_succ])
    refine wpAnyH_done (by kernel_rfl) ?_ _
    refine NoPanic.normal ?_
    have HE := Lib.hid (And.left hHeld)
    clear hHeld
    go_wp2_with fail
    go_ret
    exact ⟨rfl, HE.out⟩
end Go.Proofs.Ytmfolkbmkfifcaa
