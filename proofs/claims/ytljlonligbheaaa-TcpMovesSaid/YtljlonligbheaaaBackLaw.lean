/-
  Proved here: the law TcpBack answers true, given what the program's functions answer.
  Conditions: TSays.
-/
import Derived.Test.YtljlonligbheaaaAwake
import Derived.Test.YtljlonligbheaaaBytesPlain
namespace Go.Proofs.Ytljlonligbheaaa
open Go.RowKit

theorem errv_some {B : Nat} {c : Int} {v : Value} {w : World} (h : ErrV B c v w) (hc : c ≠ 0) : ∃ f, v = .iface 67 (.pointer (some ⟨f, 0, none⟩)) := by
  rcases h with ⟨h, _⟩ | ⟨_, f, h, _⟩
  · exact absurd h hc
  · exact ⟨f, h⟩
theorem and_u8 (c : UInt8) : bits .and .u8 ((c.toNat : Nat) : Int) 63 = ((c.toNat % 64 : Nat) : Int) := by
  have hc := c.toNat_lt
  have h1 : (BitVec.ofInt 8 ((c.toNat : Nat) : Int)).toNat = c.toNat := by
    rw [BitVec.ofInt_natCast, BitVec.toNat_ofNat]; exact Nat.mod_eq_of_lt (by omega)
  have h2 : (BitVec.ofInt 8 (63 : Int)).toNat = 63 := by decide
  have h3 : c.toNat &&& 63 = c.toNat % 64 := Nat.and_two_pow_sub_one_eq_mod c.toNat 6
  show IntKind.u8.wrap ((BitVec.ofInt 8 ((c.toNat : Nat) : Int) &&& BitVec.ofInt 8 (63 : Int)).toNat : Int) = _
  rw [BitVec.toNat_and, h1, h2, h3]
  exact IntWalk.u8_in _ (by omega)
/-- What the walk keeps of the two segments' blocks. -/
def Two2 (w0 : World) (b g : Nat) (x0 x1 f : Int) (x3 X : ByteArray) (w' : World) : Prop := Below b w0 w' ∧ b ≤ w'.heap.size ∧ w'.cell? ⟨b, 0, none⟩ = some (.int .i64 x0) ∧ w'.cell? ⟨b, 1, none⟩ = some (.int .i64 x1) ∧ w'.cell? ⟨b, 3, none⟩ = some (.string x3) ∧ w'.cell? ⟨g, 0, none⟩ = some (.int .i64 x0) ∧ w'.cell? ⟨g, 1, none⟩ = some (.int .i64 x1) ∧ w'.cell? ⟨g, 2, none⟩ = some (.int .i64 f) ∧ w'.cell? ⟨g, 3, none⟩ = some (.string X)
theorem Two2.below {w0 w w' : World} {b g : Nat} {x0 x1 f : Int} {x3 X : ByteArray} (h : Two2 w0 b g x0 x1 f x3 X w) (hb : Below w.heap.size w w') : Two2 w0 b g x0 x1 f x3 X w' := by
  obtain ⟨a, s, c0, c1, c3, d0, d1, d2, d3⟩ := h
  exact ⟨a.trans (hb.mono s), Nat.le_trans s hb.size, cell_kept c0 hb, cell_kept c1 hb, cell_kept c3 hb, cell_kept d0 hb, cell_kept d1 hb, cell_kept d2 hb, cell_kept d3 hb⟩
theorem Two2.drew {w0 w : World} {b g : Nat} {x0 x1 f : Int} {x3 X : ByteArray} (h : Two2 w0 b g x0 x1 f x3 X w) : Two2 w0 b g x0 x1 f x3 X w.drew := ⟨h.1.drew, h.2⟩
set_option maxRecDepth 100000 in
set_option maxHeartbeats 2000000 in
theorem tcpBack_all (U : TSays) (d : Sg) (ps : ByteArray) (a b : Nat) (ha : a ≤ 65535) (hb : b ≤ 255) (w : World) :
    Calls Try.prog 6 #[.agg #[.int .i64 d.fr, .int .i64 d.dst, .int .i64 d.fl, .string d.raw], .string ps, .int .u16 a, .int .u8 b] w fun e w' => e = .returned (.bool true) ∧ Below w.heap.size w w' := by
  have HA := Lib.hid (fun W => awake_true U W)
  obtain ⟨E, hE⟩ : ∃ E : Nat, E = ps.size / 2 * 2 := ⟨_, rfl⟩
  obtain ⟨Q, hQ⟩ : ∃ Q, Q = ps.extract 0 E := ⟨_, rfl⟩
  have hQs : Q.size = E := by rw [hQ]; simp; omega
  have hQe : Q.size % 2 = 0 := by omega
  have hQ1 : Q.size ≤ ps.size := by omega
  have C1 := Lib.hid (fun (W : World) (h1 : d.raw.size ≤ 70000) (h2 : ps.size ≤ 1000) => U.bytes d Q W h1 (by omega))
  have HQ := Lib.hid hQ
  have q1 : (ps.size : Int).tdiv 2 = (ps.size : Int) / 2 := Int.tdiv_eq_ediv_of_nonneg (by omega)
  have q3 : (ps.size : Int) / 2 * 2 = (E : Int) := by omega
  have q5 : (E : Int) ≤ (ps.size : Int) := by omega
  obtain ⟨x0, hx0⟩ : ∃ x, x = d.fr := ⟨_, rfl⟩
  obtain ⟨x1, hx1⟩ : ∃ x, x = d.dst := ⟨_, rfl⟩
  obtain ⟨x2, hx2⟩ : ∃ x, x = d.fl := ⟨_, rfl⟩
  obtain ⟨x3, hx3⟩ : ∃ x, x = d.raw := ⟨_, rfl⟩
  rw [← hx0, ← hx1, ← hx2, ← hx3]
  rw [← hx0, ← hx1, ← hx2, ← hx3] at C1
  have HX := Lib.hid (And.intro hx0 (And.intro hx1 hx3))
  clear hx0 hx1 hx2 hx3 hQ hE
  go_enter Try.func6, Try.ntmps6
  go_wp2_with fail
  refine (HA.out _).mono ?_
  rintro e w1 ⟨rfl, b1⟩
  have hK1 : Kp w w.heap.size [(w.heap.size, 23, ([.int .i64 x0, .int .i64 x1, .int .i64 x2, .string x3] : List Value))] w1 := ((Kp.start w).new 23 ([.int .i64 x0, .int .i64 x1, .int .i64 x2, .string x3] : List Value)).below b1 (by simp)
  have HK1 := Lib.hid hK1
  have c0 := hK1.hd.at (i := 0) rfl
  have c1 := hK1.hd.at (i := 1) rfl
  have c2 := hK1.hd.at (i := 2) rfl
  have c3 := hK1.hd.at (i := 3) rfl
  clear b1 hK1 HA
  by_cases h1 : 70000 < x3.size
  · have i1 : (70000 : Int) < (x3.size : Int) := by omega
    have d1 := decide_eq_true i1
    clear h1
    go_wp2_with fail
    go_ret
    exact ⟨rfl, HK1.out.2.1⟩
  have i1 : ¬ (70000 : Int) < (x3.size : Int) := by omega
  have d1 := decide_eq_false i1
  by_cases h2 : 1000 < ps.size
  · have i2 : (1000 : Int) < (ps.size : Int) := by omega
    have d2 := decide_eq_true i2
    clear h1 h2
    go_wp2_with fail
    go_ret
    exact ⟨rfl, HK1.out.2.1⟩
  have i2 : ¬ (1000 : Int) < (ps.size : Int) := by omega
  have d2 := decide_eq_false i2
  have hd7 : d.raw.size ≤ 70000 := by have := HX.out.2.2; rw [← this]; omega
  have HC1 := Lib.hid (fun W => C1.out W (by have := HX.out.2.2; omega) (by omega))
  have q2 : IntKind.i64.wrap ((ps.size : Int) / 2) = (ps.size : Int) / 2 := IntWalk.i64_in _ (by omega)
  have q4 : IntKind.i64.wrap (E : Int) = (E : Int) := IntWalk.i64_in _ (by omega)
  clear h1 C1
  go_upto_region 6 with (fail)
  clear q1 q2 q3 q4 q5
  rw [← HQ.out]
  go_wp2_with fail
  refine (HC1.out w1).mono ?_
  rintro e w2 ⟨x, rfl, he, b2⟩
  have HK2 := Lib.hid (HK1.out.below b2 (Nat.le_refl _))
  clear b2 c0 c1 c2 c3 HC1 HK1
  by_cases hw : d.why = 0
  case neg =>
    obtain ⟨f, rfl⟩ := errv_some he hw
    have ho : d.out Q = ⟨#[]⟩ := by unfold Sg.out; rw [if_neg hw]
    rw [ho]
    clear he ho hw
    go_wp2_with fail
    go_ret
    exact ⟨rfl, HK2.out.2.1⟩
  rw [hw] at he
  obtain rfl := he.nil
  have ho : d.out Q = d.bytes Q := by unfold Sg.out; rw [if_pos hw]
  rw [ho]
  have h20 := (why_size hw).1
  have hXs : (d.bytes Q).size = d.raw.size := form_size d _ (by omega)
  have HP : Hid (∀ W, Calls Try.prog 9 #[.string (d.bytes Q)] W fun e w' => e = .returned (.tuple #[.agg #[.int .i64 x0, .int .i64 x1, .int .i64 (byN d.raw 13 % 64 : Nat), .string (d.bytes Q)], .nilIface]) ∧ Below W.heap.size W w') := Lib.hid (fun W => by
    have hBd := form_tans hw (d.sumN Q : Nat)
    refine (U.parse (d.bytes Q) W (by omega)).mono ?_
    rintro e w' ⟨x, rfl, he, b⟩
    unfold Sg.bytes at *
    rw [form_code hw] at he
    rw [he.nil, hBd.1, hBd.2.1, hBd.2.2.1, hBd.2.2.2, HX.out.1, HX.out.2.1]
    exact ⟨rfl, b⟩)
  have HC : Hid (∀ W, Calls Try.prog 16 #[.string (d.bytes Q), .string Q] W fun e w' => e = .returned .nilIface ∧ Below W.heap.size W w') := Lib.hid (fun W => by
    refine (U.check (d.bytes Q) Q W (by omega) (by omega)).mono ?_
    rintro e w' ⟨x, rfl, he, b⟩
    rw [bytes_checked hw hQe] at he
    rw [he.nil]
    exact ⟨rfl, b⟩)
  have HT := Lib.hid (fun (W : World) (K : Nat) (hK : K < (d.bytes Q).size) (y : UInt8) (hy : y ≠ (d.bytes Q)[K]'hK) => (show Calls Try.prog 16 #[.string (setB (d.bytes Q) K y), .string Q] W fun e w' => ∃ f, e = .returned (.iface 67 (.pointer (some ⟨f, 0, none⟩))) ∧ Below W.heap.size W w' from by
    refine (U.check (setB (d.bytes Q) K y) Q W (by rw [setB_size]; omega) (by omega)).mono ?_
    rintro e w' ⟨x, rfl, he, b⟩
    obtain ⟨f, rfl⟩ := errv_some he (bytes_turned hw hQe K hK y hy)
    exact ⟨f, rfl, b⟩))
  have HS := Lib.hid (fun K y => show setB (d.bytes Q) K y = ⟨((d.bytes Q).data.toList.set K y).toArray⟩ from rfl)
  have eA : (d.bytes Q).extract 4 16 = x3.extract 4 16 := by rw [HX.out.2.2]; exact form_mid d _ h20
  have eB : (d.bytes Q).extract 18 x3.size = x3.extract 18 x3.size := by rw [HX.out.2.2]; exact form_rest d _ h20
  have hlt13 : 13 < x3.size := by rw [HX.out.2.2]; omega
  have kA : bits .and .u8 (((x3[13]'hlt13).toNat : Nat) : Int) 63 = ((byN d.raw 13 % 64 : Nat) : Int) := by
    rw [and_u8, ← byN_at, HX.out.2.2]
  have kB : IntKind.i64.wrap ((byN d.raw 13 % 64 : Nat) : Int) = ((byN d.raw 13 % 64 : Nat) : Int) := IntWalk.i64_in _ (by omega)
  obtain ⟨X, hX⟩ : ∃ X, X = d.bytes Q := ⟨_, rfl⟩
  rw [← hX] at HP HC HT HS hXs eA eB
  rw [← hX]
  have hXz : X.size = x3.size := by rw [hXs, HX.out.2.2]
  have eB2 : X.extract 18 X.size = x3.extract 18 x3.size := by rw [hXz]; exact eB
  have hN8 : 20 ≤ X.size := by omega
  have hN9 : X.size ≤ 70000 := by omega
  clear hX he ho hXs hw hd7 h2
  generalize ((byN d.raw 13 % 64 : Nat) : Int) = f at *
  obtain ⟨M1, eA3⟩ : ∃ M, x3.extract 4 16 = M := ⟨_, rfl⟩
  obtain ⟨M2, eB3⟩ : ∃ M, x3.extract 18 x3.size = M := ⟨_, rfl⟩
  rw [eA3] at eA
  rw [eB3] at eB eB2
  go_wp2_with fail
  refine (HP.out _).mono ?_
  rintro e w3 ⟨rfl, b3⟩
  have hK3 := HK2.out.below b3 (Nat.le_refl _)
  have hK4 := hK3.new 23 ([.int .i64 x0, .int .i64 x1, .int .i64 f, .string X] : List Value)
  have hT : Two2 w w.heap.size w3.heap.size x0 x1 f x3 X (w3.alloc (.cells ([.int .i64 x0, .int .i64 x1, .int .i64 f, .string X] : List Value).toArray 23)) := ⟨hK4.2.1, hK4.2.2, hK4.tl.hd.at rfl, hK4.tl.hd.at rfl, hK4.tl.hd.at rfl, hK4.hd.at rfl, hK4.hd.at rfl, hK4.hd.at rfl, hK4.hd.at rfl⟩
  have HT2 := Lib.hid hT
  clear b3 hK3 hK4 HK2 HP hT
  generalize hw4 : w3.alloc (.cells #[.int .i64 x0, .int .i64 x1, .int .i64 f, .string X] 23) = w4 at *
  go_upto_region 10 with (fail)
  clear hw4
  have i20 : ¬ (X.size : Int) < 20 := by omega
  have d20 := decide_eq_false i20
  have i13 : (13 : Int) < (x3.size : Int) := by omega
  have i16 : (16 : Int) ≤ (x3.size : Int) := by omega
  have i16X : (16 : Int) ≤ (X.size : Int) := by omega
  have i18 : (18 : Int) ≤ (x3.size : Int) := by omega
  have i18X : (18 : Int) ≤ (X.size : Int) := by omega
  have hm : (((X.size : Nat) : Int) != ((x3.size : Nat) : Int)) = false := by rw [hXz]; simp
  have HXZ := Lib.hid hXz
  clear hXz
  refine wp_region_noPanic ?_
  refine wp_region_held_drew (S := fun w' => Below w.heap.size w w' ∧ w.heap.size ≤ w'.heap.size ∧ w'.cell? ⟨w.heap.size, 0, none⟩ = some (.int .i64 x0) ∧ w'.cell? ⟨w.heap.size, 1, none⟩ = some (.int .i64 x1) ∧ w'.cell? ⟨w.heap.size, 3, none⟩ = some (.string x3) ∧ w'.cell? ⟨w3.heap.size, 0, none⟩ = some (.int .i64 x0) ∧ w'.cell? ⟨w3.heap.size, 1, none⟩ = some (.int .i64 x1) ∧ w'.cell? ⟨w3.heap.size, 2, none⟩ = some (.int .i64 f) ∧ w'.cell? ⟨w3.heap.size, 3, none⟩ = some (.string X)) (by kernel_rfl) (Two2.drew HT2.out) (fun hHeld => ?_)
  refine wpAnyH_take (i := 0) (oi := { dst := some 47, op := Op.move (Operand.tmp 12), type := 25, pos := "outright.go:22", after := #[], guard := none }) (v := ?_) rfl (by kernel_rfl) (by kernel_rfl) (by kernel_rfl) (fun _ _ _ h => h) (Or.inl ⟨by rfl, ?_⟩) (by assumption) ?_
  rotate_left
  · (intro ww hSw; (try dsimp only at hSw); go_simp; try with_reducible rfl)
  (try simp only [Act.put, List.setIfInBounds_toArray, List.set_cons_zero, List.set_cons_succ])
  refine wpAnyH_take (i := 1) (oi := { dst := some 48, op := Op.binOp BinOp.neq 25 (Operand.tmp 47) (Operand.const Value.nilIface) 25, type := 4, pos := "outright.go:22", after := #[{ on := 0, ground := Ground.data }], guard := none }) (v := ?_) rfl (by kernel_rfl) (by kernel_rfl) (by kernel_rfl) (fun _ _ _ h => h) (Or.inl ⟨by rfl, ?_⟩) (by assumption) ?_
  rotate_left
  · (intro ww hSw; (try dsimp only at hSw); go_simp; try with_reducible rfl)
  (try simp only [Act.put, List.setIfInBounds_toArray, List.set_cons_zero, List.set_cons_succ])
  refine wpAnyH_take (i := 2) (oi := { dst := some 49, op := Op.move (Operand.tmp 48), type := 4, pos := "outright.go:22", after := #[{ on := 1, ground := Ground.data }], guard := none }) (v := ?_) rfl (by kernel_rfl) (by kernel_rfl) (by kernel_rfl) (fun _ _ _ h => h) (Or.inl ⟨by rfl, ?_⟩) (by assumption) ?_
  rotate_left
  · (intro ww hSw; (try dsimp only at hSw); go_simp; try with_reducible rfl)
  (try simp only [Act.put, List.setIfInBounds_toArray, List.set_cons_zero, List.set_cons_succ])
  refine wpAnyH_take (i := 3) (oi := { dst := some 50, op := Op.move (Operand.tmp 9), type := 9, pos := "outright.go:22", after := #[{ on := 2, ground := Ground.guard }], guard := some (2, false) }) (v := ?_) rfl (by kernel_rfl) (by kernel_rfl) (by kernel_rfl) (fun _ _ _ h => h) (Or.inl ⟨by rfl, ?_⟩) (by assumption) ?_
  rotate_left
  · (intro ww hSw; (try dsimp only at hSw); go_simp; try with_reducible rfl)
  (try simp only [Act.put, List.setIfInBounds_toArray, List.set_cons_zero, List.set_cons_succ])
  refine wpAnyH_take (i := 4) (oi := { dst := some 51, op := Op.call { callee := Callee.builtin Builtin.len, args := #[Operand.tmp 50], argTypes := #[9] }, type := 3, pos := "outright.go:22", after := #[{ on := 3, ground := Ground.data }, { on := 2, ground := Ground.guard }], guard := some (2, false) }) (v := ?_) rfl (by kernel_rfl) (by kernel_rfl) (by kernel_rfl) (fun _ _ _ h => h) (Or.inl ⟨by rfl, ?_⟩) (by assumption) ?_
  rotate_left
  · (intro ww hSw; (try dsimp only at hSw); go_simp; try with_reducible rfl)
  (try simp only [Act.put, List.setIfInBounds_toArray, List.set_cons_zero, List.set_cons_succ])
  refine wpAnyH_take (i := 5) (oi := { dst := some 52, op := Op.fieldAddr 23 (Operand.tmp 4) 3, type := 0, pos := "outright.go:22", after := #[{ on := 2, ground := Ground.guard }], guard := some (2, false) }) (v := ?_) rfl (by kernel_rfl) (by kernel_rfl) (by kernel_rfl) (fun _ _ _ h => h) (Or.inl ⟨by rfl, ?_⟩) (by assumption) ?_
  rotate_left
  · (intro ww hSw; (try dsimp only at hSw); go_simp; try with_reducible rfl)
  (try simp only [Act.put, List.setIfInBounds_toArray, List.set_cons_zero, List.set_cons_succ])
  refine wpAnyH_take (i := 6) (oi := { dst := some 53, op := Op.load 9 (Operand.tmp 52), type := 9, pos := "outright.go:22", after := #[{ on := 5, ground := Ground.data }, { on := 2, ground := Ground.guard }], guard := some (2, false) }) (v := ?_) rfl (by kernel_rfl) (by kernel_rfl) (by kernel_rfl) (fun _ _ _ h => h) (Or.inl ⟨by rfl, ?_⟩) (by assumption) ?_
  rotate_left
  · (intro ww hSw; (try dsimp only at hSw); go_simp; try with_reducible rfl)
  (try simp only [Act.put, List.setIfInBounds_toArray, List.set_cons_zero, List.set_cons_succ])
  refine wpAnyH_take (i := 7) (oi := { dst := some 54, op := Op.call { callee := Callee.builtin Builtin.len, args := #[Operand.tmp 53], argTypes := #[9] }, type := 3, pos := "outright.go:22", after := #[{ on := 6, ground := Ground.data }, { on := 2, ground := Ground.guard }], guard := some (2, false) }) (v := ?_) rfl (by kernel_rfl) (by kernel_rfl) (by kernel_rfl) (fun _ _ _ h => h) (Or.inl ⟨by rfl, ?_⟩) (by assumption) ?_
  rotate_left
  · (intro ww hSw; (try dsimp only at hSw); go_simp; try with_reducible rfl)
  (try simp only [Act.put, List.setIfInBounds_toArray, List.set_cons_zero, List.set_cons_succ])
  refine wpAnyH_take (i := 8) (oi := { dst := some 55, op := Op.binOp BinOp.neq 3 (Operand.tmp 51) (Operand.tmp 54) 3, type := 4, pos := "outright.go:22", after := #[{ on := 4, ground := Ground.data }, { on := 7, ground := Ground.data }, { on := 2, ground := Ground.guard }], guard := some (2, false) }) (v := ?_) rfl (by kernel_rfl) (by kernel_rfl) (by kernel_rfl) (fun _ _ _ h => h) (Or.inl ⟨by rfl, ?_⟩) (by assumption) ?_
  rotate_left
  · (intro ww hSw; (try dsimp only at hSw); go_simp; try with_reducible rfl)
  (try simp only [Act.put, List.setIfInBounds_toArray, List.set_cons_zero, List.set_cons_succ])
  refine wpAnyH_take (i := 9) (oi := { dst := some 56, op := Op.pick (Operand.tmp 49) (Operand.const (Value.bool true)) (Operand.tmp 55), type := 4, pos := "outright.go:22", after := #[{ on := 2, ground := Ground.data }, { on := 8, ground := Ground.data }], guard := none }) (v := ?_) rfl (by kernel_rfl) (by kernel_rfl) (by kernel_rfl) (fun _ _ _ h => h) (Or.inl ⟨by rfl, ?_⟩) (by assumption) ?_
  rotate_left
  · (intro ww hSw; (try dsimp only at hSw); go_simp; try with_reducible rfl)
  (try simp only [Act.put, List.setIfInBounds_toArray, List.set_cons_zero, List.set_cons_succ])
  refine wpAnyH_take (i := 10) (oi := { dst := some 57, op := Op.move (Operand.tmp 56), type := 4, pos := "outright.go:22", after := #[{ on := 9, ground := Ground.data }, { on := 2, ground := Ground.chain }], guard := none }) (v := ?_) rfl (by kernel_rfl) (by kernel_rfl) (by kernel_rfl) (fun _ _ _ h => h) (Or.inl ⟨by rfl, ?_⟩) (by assumption) ?_
  rotate_left
  · (intro ww hSw; (try dsimp only at hSw); go_simp; try with_reducible rfl)
  (try simp only [Act.put, List.setIfInBounds_toArray, List.set_cons_zero, List.set_cons_succ])
  refine wpAnyH_take (i := 11) (oi := { dst := some 58, op := Op.move (Operand.tmp 9), type := 9, pos := "outright.go:22", after := #[{ on := 10, ground := Ground.guard }], guard := some (10, false) }) (v := ?_) rfl (by kernel_rfl) (by kernel_rfl) (by kernel_rfl) (fun _ _ _ h => h) (Or.inl ⟨by rfl, ?_⟩) (by assumption) ?_
  rotate_left
  · (intro ww hSw; (try dsimp only at hSw); go_simp; try with_reducible rfl)
  (try simp only [Act.put, List.setIfInBounds_toArray, List.set_cons_zero, List.set_cons_succ])
  refine wpAnyH_take (i := 12) (oi := { dst := some 59, op := Op.call { callee := Callee.builtin Builtin.len, args := #[Operand.tmp 58], argTypes := #[9] }, type := 3, pos := "outright.go:22", after := #[{ on := 11, ground := Ground.data }, { on := 10, ground := Ground.guard }], guard := some (10, false) }) (v := ?_) rfl (by kernel_rfl) (by kernel_rfl) (by kernel_rfl) (fun _ _ _ h => h) (Or.inl ⟨by rfl, ?_⟩) (by assumption) ?_
  rotate_left
  · (intro ww hSw; (try dsimp only at hSw); go_simp; try with_reducible rfl)
  (try simp only [Act.put, List.setIfInBounds_toArray, List.set_cons_zero, List.set_cons_succ])
  refine wpAnyH_take (i := 13) (oi := { dst := some 60, op := Op.binOp BinOp.lss 3 (Operand.tmp 59) (Operand.const (Value.int IntKind.i64 20)) 3, type := 4, pos := "outright.go:22", after := #[{ on := 12, ground := Ground.data }, { on := 10, ground := Ground.guard }], guard := some (10, false) }) (v := ?_) rfl (by kernel_rfl) (by kernel_rfl) (by kernel_rfl) (fun _ _ _ h => h) (Or.inl ⟨by rfl, ?_⟩) (by assumption) ?_
  rotate_left
  · (intro ww hSw; (try dsimp only at hSw); go_simp; try with_reducible rfl)
  (try simp only [Act.put, List.setIfInBounds_toArray, List.set_cons_zero, List.set_cons_succ])
  refine wpAnyH_take (i := 14) (oi := { dst := some 61, op := Op.pick (Operand.tmp 57) (Operand.const (Value.bool true)) (Operand.tmp 60), type := 4, pos := "outright.go:22", after := #[{ on := 10, ground := Ground.data }, { on := 13, ground := Ground.data }], guard := none }) (v := ?_) rfl (by kernel_rfl) (by kernel_rfl) (by kernel_rfl) (fun _ _ _ h => h) (Or.inl ⟨by rfl, ?_⟩) (by assumption) ?_
  rotate_left
  · (intro ww hSw; (try dsimp only at hSw); go_simp; try with_reducible rfl)
  (try simp only [Act.put, List.setIfInBounds_toArray, List.set_cons_zero, List.set_cons_succ])
  refine wpAnyH_take (i := 15) (oi := { dst := some 62, op := Op.move (Operand.tmp 61), type := 4, pos := "outright.go:22", after := #[{ on := 14, ground := Ground.data }, { on := 10, ground := Ground.chain }], guard := none }) (v := ?_) rfl (by kernel_rfl) (by kernel_rfl) (by kernel_rfl) (fun _ _ _ h => h) (Or.inl ⟨by rfl, ?_⟩) (by assumption) ?_
  rotate_left
  · (intro ww hSw; (try dsimp only at hSw); go_simp; try with_reducible rfl)
  (try simp only [Act.put, List.setIfInBounds_toArray, List.set_cons_zero, List.set_cons_succ])
  refine wpAnyH_take (i := 16) (oi := { dst := some 63, op := Op.fieldAddr 23 (Operand.tmp 11) 0, type := 0, pos := "outright.go:22", after := #[{ on := 15, ground := Ground.guard }], guard := some (15, false) }) (v := ?_) rfl (by kernel_rfl) (by kernel_rfl) (by kernel_rfl) (fun _ _ _ h => h) (Or.inl ⟨by rfl, ?_⟩) (by assumption) ?_
  rotate_left
  · (intro ww hSw; (try dsimp only at hSw); go_simp; try with_reducible rfl)
  (try simp only [Act.put, List.setIfInBounds_toArray, List.set_cons_zero, List.set_cons_succ])
  refine wpAnyH_take (i := 17) (oi := { dst := some 64, op := Op.load 3 (Operand.tmp 63), type := 3, pos := "outright.go:22", after := #[{ on := 16, ground := Ground.data }, { on := 15, ground := Ground.guard }], guard := some (15, false) }) (v := ?_) rfl (by kernel_rfl) (by kernel_rfl) (by kernel_rfl) (fun _ _ _ h => h) (Or.inl ⟨by rfl, ?_⟩) (by assumption) ?_
  rotate_left
  · (intro ww hSw; (try dsimp only at hSw); go_simp; try with_reducible rfl)
  (try simp only [Act.put, List.setIfInBounds_toArray, List.set_cons_zero, List.set_cons_succ])
  refine wpAnyH_take (i := 18) (oi := { dst := some 65, op := Op.fieldAddr 23 (Operand.tmp 4) 0, type := 0, pos := "outright.go:22", after := #[{ on := 15, ground := Ground.guard }], guard := some (15, false) }) (v := ?_) rfl (by kernel_rfl) (by kernel_rfl) (by kernel_rfl) (fun _ _ _ h => h) (Or.inl ⟨by rfl, ?_⟩) (by assumption) ?_
  rotate_left
  · (intro ww hSw; (try dsimp only at hSw); go_simp; try with_reducible rfl)
  (try simp only [Act.put, List.setIfInBounds_toArray, List.set_cons_zero, List.set_cons_succ])
  refine wpAnyH_take (i := 19) (oi := { dst := some 66, op := Op.load 3 (Operand.tmp 65), type := 3, pos := "outright.go:22", after := #[{ on := 18, ground := Ground.data }, { on := 15, ground := Ground.guard }], guard := some (15, false) }) (v := ?_) rfl (by kernel_rfl) (by kernel_rfl) (by kernel_rfl) (fun _ _ _ h => h) (Or.inl ⟨by rfl, ?_⟩) (by assumption) ?_
  rotate_left
  · (intro ww hSw; (try dsimp only at hSw); go_simp; try with_reducible rfl)
  (try simp only [Act.put, List.setIfInBounds_toArray, List.set_cons_zero, List.set_cons_succ])
  refine wpAnyH_take (i := 20) (oi := { dst := some 67, op := Op.binOp BinOp.neq 3 (Operand.tmp 64) (Operand.tmp 66) 3, type := 4, pos := "outright.go:22", after := #[{ on := 17, ground := Ground.data }, { on := 19, ground := Ground.data }, { on := 15, ground := Ground.guard }], guard := some (15, false) }) (v := ?_) rfl (by kernel_rfl) (by kernel_rfl) (by kernel_rfl) (fun _ _ _ h => h) (Or.inl ⟨by rfl, ?_⟩) (by assumption) ?_
  rotate_left
  · (intro ww hSw; (try dsimp only at hSw); go_simp; try with_reducible rfl)
  (try simp only [Act.put, List.setIfInBounds_toArray, List.set_cons_zero, List.set_cons_succ])
  refine wpAnyH_take (i := 21) (oi := { dst := some 68, op := Op.pick (Operand.tmp 62) (Operand.const (Value.bool true)) (Operand.tmp 67), type := 4, pos := "outright.go:22", after := #[{ on := 15, ground := Ground.data }, { on := 20, ground := Ground.data }], guard := none }) (v := ?_) rfl (by kernel_rfl) (by kernel_rfl) (by kernel_rfl) (fun _ _ _ h => h) (Or.inl ⟨by rfl, ?_⟩) (by assumption) ?_
  rotate_left
  · (intro ww hSw; (try dsimp only at hSw); go_simp; try with_reducible rfl)
  (try simp only [Act.put, List.setIfInBounds_toArray, List.set_cons_zero, List.set_cons_succ])
  refine wpAnyH_take (i := 22) (oi := { dst := some 69, op := Op.move (Operand.tmp 68), type := 4, pos := "outright.go:22", after := #[{ on := 21, ground := Ground.data }, { on := 15, ground := Ground.chain }], guard := none }) (v := ?_) rfl (by kernel_rfl) (by kernel_rfl) (by kernel_rfl) (fun _ _ _ h => h) (Or.inl ⟨by rfl, ?_⟩) (by assumption) ?_
  rotate_left
  · (intro ww hSw; (try dsimp only at hSw); go_simp; try with_reducible rfl)
  (try simp only [Act.put, List.setIfInBounds_toArray, List.set_cons_zero, List.set_cons_succ])
  refine wpAnyH_take (i := 23) (oi := { dst := some 70, op := Op.fieldAddr 23 (Operand.tmp 11) 1, type := 0, pos := "outright.go:22", after := #[{ on := 22, ground := Ground.guard }], guard := some (22, false) }) (v := ?_) rfl (by kernel_rfl) (by kernel_rfl) (by kernel_rfl) (fun _ _ _ h => h) (Or.inl ⟨by rfl, ?_⟩) (by assumption) ?_
  rotate_left
  · (intro ww hSw; (try dsimp only at hSw); go_simp; try with_reducible rfl)
  (try simp only [Act.put, List.setIfInBounds_toArray, List.set_cons_zero, List.set_cons_succ])
  refine wpAnyH_take (i := 24) (oi := { dst := some 71, op := Op.load 3 (Operand.tmp 70), type := 3, pos := "outright.go:22", after := #[{ on := 23, ground := Ground.data }, { on := 22, ground := Ground.guard }], guard := some (22, false) }) (v := ?_) rfl (by kernel_rfl) (by kernel_rfl) (by kernel_rfl) (fun _ _ _ h => h) (Or.inl ⟨by rfl, ?_⟩) (by assumption) ?_
  rotate_left
  · (intro ww hSw; (try dsimp only at hSw); go_simp; try with_reducible rfl)
  (try simp only [Act.put, List.setIfInBounds_toArray, List.set_cons_zero, List.set_cons_succ])
  refine wpAnyH_take (i := 25) (oi := { dst := some 72, op := Op.fieldAddr 23 (Operand.tmp 4) 1, type := 0, pos := "outright.go:22", after := #[{ on := 22, ground := Ground.guard }], guard := some (22, false) }) (v := ?_) rfl (by kernel_rfl) (by kernel_rfl) (by kernel_rfl) (fun _ _ _ h => h) (Or.inl ⟨by rfl, ?_⟩) (by assumption) ?_
  rotate_left
  · (intro ww hSw; (try dsimp only at hSw); go_simp; try with_reducible rfl)
  (try simp only [Act.put, List.setIfInBounds_toArray, List.set_cons_zero, List.set_cons_succ])
  refine wpAnyH_take (i := 26) (oi := { dst := some 73, op := Op.load 3 (Operand.tmp 72), type := 3, pos := "outright.go:22", after := #[{ on := 25, ground := Ground.data }, { on := 22, ground := Ground.guard }], guard := some (22, false) }) (v := ?_) rfl (by kernel_rfl) (by kernel_rfl) (by kernel_rfl) (fun _ _ _ h => h) (Or.inl ⟨by rfl, ?_⟩) (by assumption) ?_
  rotate_left
  · (intro ww hSw; (try dsimp only at hSw); go_simp; try with_reducible rfl)
  (try simp only [Act.put, List.setIfInBounds_toArray, List.set_cons_zero, List.set_cons_succ])
  refine wpAnyH_take (i := 27) (oi := { dst := some 74, op := Op.binOp BinOp.neq 3 (Operand.tmp 71) (Operand.tmp 73) 3, type := 4, pos := "outright.go:22", after := #[{ on := 24, ground := Ground.data }, { on := 26, ground := Ground.data }, { on := 22, ground := Ground.guard }], guard := some (22, false) }) (v := ?_) rfl (by kernel_rfl) (by kernel_rfl) (by kernel_rfl) (fun _ _ _ h => h) (Or.inl ⟨by rfl, ?_⟩) (by assumption) ?_
  rotate_left
  · (intro ww hSw; (try dsimp only at hSw); go_simp; try with_reducible rfl)
  (try simp only [Act.put, List.setIfInBounds_toArray, List.set_cons_zero, List.set_cons_succ])
  refine wpAnyH_take (i := 28) (oi := { dst := some 75, op := Op.pick (Operand.tmp 69) (Operand.const (Value.bool true)) (Operand.tmp 74), type := 4, pos := "outright.go:22", after := #[{ on := 22, ground := Ground.data }, { on := 27, ground := Ground.data }], guard := none }) (v := ?_) rfl (by kernel_rfl) (by kernel_rfl) (by kernel_rfl) (fun _ _ _ h => h) (Or.inl ⟨by rfl, ?_⟩) (by assumption) ?_
  rotate_left
  · (intro ww hSw; (try dsimp only at hSw); go_simp; try with_reducible rfl)
  (try simp only [Act.put, List.setIfInBounds_toArray, List.set_cons_zero, List.set_cons_succ])
  refine wpAnyH_take (i := 29) (oi := { dst := some 76, op := Op.move (Operand.tmp 75), type := 4, pos := "outright.go:22", after := #[{ on := 28, ground := Ground.data }, { on := 22, ground := Ground.chain }], guard := none }) (v := ?_) rfl (by kernel_rfl) (by kernel_rfl) (by kernel_rfl) (fun _ _ _ h => h) (Or.inl ⟨by rfl, ?_⟩) (by assumption) ?_
  rotate_left
  · (intro ww hSw; (try dsimp only at hSw); go_simp; try with_reducible rfl)
  (try simp only [Act.put, List.setIfInBounds_toArray, List.set_cons_zero, List.set_cons_succ])
  refine wpAnyH_take (i := 30) (oi := { dst := some 77, op := Op.fieldAddr 23 (Operand.tmp 11) 3, type := 0, pos := "outright.go:22", after := #[{ on := 29, ground := Ground.guard }], guard := some (29, false) }) (v := ?_) rfl (by kernel_rfl) (by kernel_rfl) (by kernel_rfl) (fun _ _ _ h => h) (Or.inl ⟨by rfl, ?_⟩) (by assumption) ?_
  rotate_left
  · (intro ww hSw; (try dsimp only at hSw); go_simp; try with_reducible rfl)
  (try simp only [Act.put, List.setIfInBounds_toArray, List.set_cons_zero, List.set_cons_succ])
  refine wpAnyH_take (i := 31) (oi := { dst := some 78, op := Op.load 9 (Operand.tmp 77), type := 9, pos := "outright.go:22", after := #[{ on := 30, ground := Ground.data }, { on := 29, ground := Ground.guard }], guard := some (29, false) }) (v := ?_) rfl (by kernel_rfl) (by kernel_rfl) (by kernel_rfl) (fun _ _ _ h => h) (Or.inl ⟨by rfl, ?_⟩) (by assumption) ?_
  rotate_left
  · (intro ww hSw; (try dsimp only at hSw); go_simp; try with_reducible rfl)
  (try simp only [Act.put, List.setIfInBounds_toArray, List.set_cons_zero, List.set_cons_succ])
  refine wpAnyH_take (i := 32) (oi := { dst := some 79, op := Op.move (Operand.tmp 9), type := 9, pos := "outright.go:22", after := #[{ on := 29, ground := Ground.guard }], guard := some (29, false) }) (v := ?_) rfl (by kernel_rfl) (by kernel_rfl) (by kernel_rfl) (fun _ _ _ h => h) (Or.inl ⟨by rfl, ?_⟩) (by assumption) ?_
  rotate_left
  · (intro ww hSw; (try dsimp only at hSw); go_simp; try with_reducible rfl)
  (try simp only [Act.put, List.setIfInBounds_toArray, List.set_cons_zero, List.set_cons_succ])
  refine wpAnyH_take (i := 33) (oi := { dst := some 80, op := Op.binOp BinOp.neq 9 (Operand.tmp 78) (Operand.tmp 79) 9, type := 4, pos := "outright.go:22", after := #[{ on := 31, ground := Ground.data }, { on := 32, ground := Ground.data }, { on := 29, ground := Ground.guard }], guard := some (29, false) }) (v := ?_) rfl (by kernel_rfl) (by kernel_rfl) (by kernel_rfl) (fun _ _ _ h => h) (Or.inl ⟨by rfl, ?_⟩) (by assumption) ?_
  rotate_left
  · (intro ww hSw; (try dsimp only at hSw); go_simp; try with_reducible rfl)
  (try simp only [Act.put, List.setIfInBounds_toArray, List.set_cons_zero, List.set_cons_succ])
  refine wpAnyH_take (i := 34) (oi := { dst := some 81, op := Op.pick (Operand.tmp 76) (Operand.const (Value.bool true)) (Operand.tmp 80), type := 4, pos := "outright.go:22", after := #[{ on := 29, ground := Ground.data }, { on := 33, ground := Ground.data }], guard := none }) (v := ?_) rfl (by kernel_rfl) (by kernel_rfl) (by kernel_rfl) (fun _ _ _ h => h) (Or.inl ⟨by rfl, ?_⟩) (by assumption) ?_
  rotate_left
  · (intro ww hSw; (try dsimp only at hSw); go_simp; try with_reducible rfl)
  (try simp only [Act.put, List.setIfInBounds_toArray, List.set_cons_zero, List.set_cons_succ])
  refine wpAnyH_take (i := 35) (oi := { dst := some 82, op := Op.move (Operand.tmp 81), type := 4, pos := "outright.go:22", after := #[{ on := 34, ground := Ground.data }, { on := 29, ground := Ground.chain }], guard := none }) (v := ?_) rfl (by kernel_rfl) (by kernel_rfl) (by kernel_rfl) (fun _ _ _ h => h) (Or.inl ⟨by rfl, ?_⟩) (by assumption) ?_
  rotate_left
  · (intro ww hSw; (try dsimp only at hSw); go_simp; try with_reducible rfl)
  (try simp only [Act.put, List.setIfInBounds_toArray, List.set_cons_zero, List.set_cons_succ])
  refine wpAnyH_take (i := 36) (oi := { dst := some 83, op := Op.move (Operand.tmp 9), type := 9, pos := "outright.go:22", after := #[{ on := 35, ground := Ground.guard }], guard := some (35, false) }) (v := ?_) rfl (by kernel_rfl) (by kernel_rfl) (by kernel_rfl) (fun _ _ _ h => h) (Or.inl ⟨by rfl, ?_⟩) (by assumption) ?_
  rotate_left
  · (intro ww hSw; (try dsimp only at hSw); go_simp; try with_reducible rfl)
  (try simp only [Act.put, List.setIfInBounds_toArray, List.set_cons_zero, List.set_cons_succ])
  refine wpAnyH_take (i := 37) (oi := { dst := some 84, op := Op.move (Operand.tmp 1), type := 9, pos := "outright.go:22", after := #[{ on := 35, ground := Ground.guard }], guard := some (35, false) }) (v := ?_) rfl (by kernel_rfl) (by kernel_rfl) (by kernel_rfl) (fun _ _ _ h => h) (Or.inl ⟨by rfl, ?_⟩) (by assumption) ?_
  rotate_left
  · (intro ww hSw; (try dsimp only at hSw); go_simp; try with_reducible rfl)
  (try simp only [Act.put, List.setIfInBounds_toArray, List.set_cons_zero, List.set_cons_succ])
  refine wpAnyH_ready (rs := [38]) (by kernel_rfl) (by simp) ?_
  refine AllReadyH.cons (o := { dst := some 85, op := Op.call { callee := Callee.value (Operand.func 16), args := #[Operand.tmp 83, Operand.tmp 84], argTypes := #[9, 9] }, type := 25, pos := "outright.go:22", after := #[{ on := 36, ground := Ground.data }, { on := 37, ground := Ground.data }, { on := 35, ground := Ground.chain }, { on := 35, ground := Ground.guard }], guard := some (35, false) }) rfl (fun K hK => ?_) AllReadyH.nil
  go_simp
  ((with_reducible refine (HC.out _).mono ?_); rintro e w9 ⟨rfl, hb9⟩)
  refine hK.out _ _ (Two2.below hHeld hb9) (fun hHeld => ?_)
  clear hK K
  (try simp only [Act.put, List.setIfInBounds_toArray, List.set_cons_zero, List.set_cons_succ])
  refine wpAnyH_take (i := 39) (oi := { dst := some 86, op := Op.binOp BinOp.neq 25 (Operand.tmp 85) (Operand.const Value.nilIface) 25, type := 4, pos := "outright.go:22", after := #[{ on := 38, ground := Ground.data }, { on := 35, ground := Ground.guard }], guard := some (35, false) }) (v := ?_) rfl (by kernel_rfl) (by kernel_rfl) (by kernel_rfl) (fun _ _ _ h => h) (Or.inl ⟨by rfl, ?_⟩) (by assumption) ?_
  rotate_left
  · (intro ww hSw; (try dsimp only at hSw); go_simp; try with_reducible rfl)
  (try simp only [Act.put, List.setIfInBounds_toArray, List.set_cons_zero, List.set_cons_succ])
  refine wpAnyH_take (i := 40) (oi := { dst := some 87, op := Op.pick (Operand.tmp 82) (Operand.const (Value.bool true)) (Operand.tmp 86), type := 4, pos := "outright.go:22", after := #[{ on := 35, ground := Ground.data }, { on := 39, ground := Ground.data }], guard := none }) (v := ?_) rfl (by kernel_rfl) (by kernel_rfl) (by kernel_rfl) (fun _ _ _ h => h) (Or.inl ⟨by rfl, ?_⟩) (by assumption) ?_
  rotate_left
  · (intro ww hSw; (try dsimp only at hSw); go_simp; try with_reducible rfl)
  (try simp only [Act.put, List.setIfInBounds_toArray, List.set_cons_zero, List.set_cons_succ])
  refine wpAnyH_take (i := 41) (oi := { dst := some 88, op := Op.move (Operand.tmp 87), type := 4, pos := "outright.go:22", after := #[{ on := 40, ground := Ground.data }, { on := 38, ground := Ground.chain }], guard := none }) (v := ?_) rfl (by kernel_rfl) (by kernel_rfl) (by kernel_rfl) (fun _ _ _ h => h) (Or.inl ⟨by rfl, ?_⟩) (by assumption) ?_
  rotate_left
  · (intro ww hSw; (try dsimp only at hSw); go_simp; try with_reducible rfl)
  (try simp only [Act.put, List.setIfInBounds_toArray, List.set_cons_zero, List.set_cons_succ])
  refine wpAnyH_take (i := 42) (oi := { dst := some 89, op := Op.move (Operand.tmp 9), type := 9, pos := "outright.go:22", after := #[{ on := 41, ground := Ground.guard }], guard := some (41, false) }) (v := ?_) rfl (by kernel_rfl) (by kernel_rfl) (by kernel_rfl) (fun _ _ _ h => h) (Or.inl ⟨by rfl, ?_⟩) (by assumption) ?_
  rotate_left
  · (intro ww hSw; (try dsimp only at hSw); go_simp; try with_reducible rfl)
  (try simp only [Act.put, List.setIfInBounds_toArray, List.set_cons_zero, List.set_cons_succ])
  refine wpAnyH_take (i := 43) (oi := { dst := some 90, op := Op.slice 9 (Operand.tmp 89) (some (Operand.const (Value.int IntKind.i64 4))) (some (Operand.const (Value.int IntKind.i64 16))) none, type := 9, pos := "outright.go:22", after := #[{ on := 42, ground := Ground.data }, { on := 41, ground := Ground.guard }], guard := some (41, false) }) (v := ?_) rfl (by kernel_rfl) (by kernel_rfl) (by kernel_rfl) (fun _ _ _ h => h) (Or.inl ⟨by rfl, ?_⟩) (by assumption) ?_
  rotate_left
  · (intro ww hSw; (try dsimp only at hSw); go_simp; try with_reducible rfl)
  (try simp only [Act.put, List.setIfInBounds_toArray, List.set_cons_zero, List.set_cons_succ])
  refine wpAnyH_take (i := 44) (oi := { dst := some 91, op := Op.fieldAddr 23 (Operand.tmp 4) 3, type := 0, pos := "outright.go:22", after := #[{ on := 41, ground := Ground.guard }], guard := some (41, false) }) (v := ?_) rfl (by kernel_rfl) (by kernel_rfl) (by kernel_rfl) (fun _ _ _ h => h) (Or.inl ⟨by rfl, ?_⟩) (by assumption) ?_
  rotate_left
  · (intro ww hSw; (try dsimp only at hSw); go_simp; try with_reducible rfl)
  (try simp only [Act.put, List.setIfInBounds_toArray, List.set_cons_zero, List.set_cons_succ])
  refine wpAnyH_take (i := 45) (oi := { dst := some 92, op := Op.load 9 (Operand.tmp 91), type := 9, pos := "outright.go:22", after := #[{ on := 44, ground := Ground.data }, { on := 41, ground := Ground.guard }], guard := some (41, false) }) (v := ?_) rfl (by kernel_rfl) (by kernel_rfl) (by kernel_rfl) (fun _ _ _ h => h) (Or.inl ⟨by rfl, ?_⟩) (by assumption) ?_
  rotate_left
  · (intro ww hSw; (try dsimp only at hSw); go_simp; try with_reducible rfl)
  (try simp only [Act.put, List.setIfInBounds_toArray, List.set_cons_zero, List.set_cons_succ])
  refine wpAnyH_take (i := 46) (oi := { dst := some 93, op := Op.slice 9 (Operand.tmp 92) (some (Operand.const (Value.int IntKind.i64 4))) (some (Operand.const (Value.int IntKind.i64 16))) none, type := 9, pos := "outright.go:22", after := #[{ on := 45, ground := Ground.data }, { on := 41, ground := Ground.guard }], guard := some (41, false) }) (v := ?_) rfl (by kernel_rfl) (by kernel_rfl) (by kernel_rfl) (fun _ _ _ h => h) (Or.inl ⟨by rfl, ?_⟩) (by assumption) ?_
  rotate_left
  · (intro ww hSw; (try dsimp only at hSw); go_simp; try with_reducible rfl)
  (try simp only [Act.put, List.setIfInBounds_toArray, List.set_cons_zero, List.set_cons_succ])
  refine wpAnyH_take (i := 47) (oi := { dst := some 94, op := Op.binOp BinOp.neq 9 (Operand.tmp 90) (Operand.tmp 93) 9, type := 4, pos := "outright.go:22", after := #[{ on := 43, ground := Ground.data }, { on := 46, ground := Ground.data }, { on := 41, ground := Ground.guard }], guard := some (41, false) }) (v := ?_) rfl (by kernel_rfl) (by kernel_rfl) (by kernel_rfl) (fun _ _ _ h => h) (Or.inl ⟨by rfl, ?_⟩) (by assumption) ?_
  rotate_left
  · (intro ww hSw; (try dsimp only at hSw); go_simp; try with_reducible rfl)
  (try simp only [Act.put, List.setIfInBounds_toArray, List.set_cons_zero, List.set_cons_succ])
  refine wpAnyH_take (i := 48) (oi := { dst := some 95, op := Op.pick (Operand.tmp 88) (Operand.const (Value.bool true)) (Operand.tmp 94), type := 4, pos := "outright.go:22", after := #[{ on := 41, ground := Ground.data }, { on := 47, ground := Ground.data }], guard := none }) (v := ?_) rfl (by kernel_rfl) (by kernel_rfl) (by kernel_rfl) (fun _ _ _ h => h) (Or.inl ⟨by rfl, ?_⟩) (by assumption) ?_
  rotate_left
  · (intro ww hSw; (try dsimp only at hSw); go_simp; try with_reducible rfl)
  (try simp only [Act.put, List.setIfInBounds_toArray, List.set_cons_zero, List.set_cons_succ])
  refine wpAnyH_take (i := 49) (oi := { dst := some 96, op := Op.move (Operand.tmp 95), type := 4, pos := "outright.go:22", after := #[{ on := 48, ground := Ground.data }, { on := 41, ground := Ground.chain }], guard := none }) (v := ?_) rfl (by kernel_rfl) (by kernel_rfl) (by kernel_rfl) (fun _ _ _ h => h) (Or.inl ⟨by rfl, ?_⟩) (by assumption) ?_
  rotate_left
  · (intro ww hSw; (try dsimp only at hSw); go_simp; try with_reducible rfl)
  (try simp only [Act.put, List.setIfInBounds_toArray, List.set_cons_zero, List.set_cons_succ])
  refine wpAnyH_take (i := 50) (oi := { dst := some 97, op := Op.move (Operand.tmp 9), type := 9, pos := "outright.go:22", after := #[{ on := 49, ground := Ground.guard }], guard := some (49, false) }) (v := ?_) rfl (by kernel_rfl) (by kernel_rfl) (by kernel_rfl) (fun _ _ _ h => h) (Or.inl ⟨by rfl, ?_⟩) (by assumption) ?_
  rotate_left
  · (intro ww hSw; (try dsimp only at hSw); go_simp; try with_reducible rfl)
  (try simp only [Act.put, List.setIfInBounds_toArray, List.set_cons_zero, List.set_cons_succ])
  refine wpAnyH_take (i := 51) (oi := { dst := some 98, op := Op.slice 9 (Operand.tmp 97) (some (Operand.const (Value.int IntKind.i64 18))) none none, type := 9, pos := "outright.go:22", after := #[{ on := 50, ground := Ground.data }, { on := 49, ground := Ground.guard }], guard := some (49, false) }) (v := ?_) rfl (by kernel_rfl) (by kernel_rfl) (by kernel_rfl) (fun _ _ _ h => h) (Or.inl ⟨by rfl, ?_⟩) (by assumption) ?_
  rotate_left
  · (intro ww hSw; (try dsimp only at hSw); go_simp; try with_reducible rfl)
  (try simp only [Act.put, List.setIfInBounds_toArray, List.set_cons_zero, List.set_cons_succ])
  refine wpAnyH_take (i := 52) (oi := { dst := some 99, op := Op.fieldAddr 23 (Operand.tmp 4) 3, type := 0, pos := "outright.go:22", after := #[{ on := 49, ground := Ground.guard }], guard := some (49, false) }) (v := ?_) rfl (by kernel_rfl) (by kernel_rfl) (by kernel_rfl) (fun _ _ _ h => h) (Or.inl ⟨by rfl, ?_⟩) (by assumption) ?_
  rotate_left
  · (intro ww hSw; (try dsimp only at hSw); go_simp; try with_reducible rfl)
  (try simp only [Act.put, List.setIfInBounds_toArray, List.set_cons_zero, List.set_cons_succ])
  refine wpAnyH_take (i := 53) (oi := { dst := some 100, op := Op.load 9 (Operand.tmp 99), type := 9, pos := "outright.go:22", after := #[{ on := 52, ground := Ground.data }, { on := 49, ground := Ground.guard }], guard := some (49, false) }) (v := ?_) rfl (by kernel_rfl) (by kernel_rfl) (by kernel_rfl) (fun _ _ _ h => h) (Or.inl ⟨by rfl, ?_⟩) (by assumption) ?_
  rotate_left
  · (intro ww hSw; (try dsimp only at hSw); go_simp; try with_reducible rfl)
  (try simp only [Act.put, List.setIfInBounds_toArray, List.set_cons_zero, List.set_cons_succ])
  refine wpAnyH_take (i := 54) (oi := { dst := some 101, op := Op.slice 9 (Operand.tmp 100) (some (Operand.const (Value.int IntKind.i64 18))) none none, type := 9, pos := "outright.go:22", after := #[{ on := 53, ground := Ground.data }, { on := 49, ground := Ground.guard }], guard := some (49, false) }) (v := ?_) rfl (by kernel_rfl) (by kernel_rfl) (by kernel_rfl) (fun _ _ _ h => h) (Or.inl ⟨by rfl, ?_⟩) (by assumption) ?_
  rotate_left
  · (intro ww hSw; (try dsimp only at hSw); go_simp; try with_reducible rfl)
  (try simp only [Act.put, List.setIfInBounds_toArray, List.set_cons_zero, List.set_cons_succ])
  refine wpAnyH_take (i := 55) (oi := { dst := some 102, op := Op.binOp BinOp.neq 9 (Operand.tmp 98) (Operand.tmp 101) 9, type := 4, pos := "outright.go:22", after := #[{ on := 51, ground := Ground.data }, { on := 54, ground := Ground.data }, { on := 49, ground := Ground.guard }], guard := some (49, false) }) (v := ?_) rfl (by kernel_rfl) (by kernel_rfl) (by kernel_rfl) (fun _ _ _ h => h) (Or.inl ⟨by rfl, ?_⟩) (by assumption) ?_
  rotate_left
  · (intro ww hSw; (try dsimp only at hSw); go_simp; try with_reducible rfl)
  (try simp only [Act.put, List.setIfInBounds_toArray, List.set_cons_zero, List.set_cons_succ])
  refine wpAnyH_take (i := 56) (oi := { dst := some 103, op := Op.pick (Operand.tmp 96) (Operand.const (Value.bool true)) (Operand.tmp 102), type := 4, pos := "outright.go:22", after := #[{ on := 49, ground := Ground.data }, { on := 55, ground := Ground.data }], guard := none }) (v := ?_) rfl (by kernel_rfl) (by kernel_rfl) (by kernel_rfl) (fun _ _ _ h => h) (Or.inl ⟨by rfl, ?_⟩) (by assumption) ?_
  rotate_left
  · (intro ww hSw; (try dsimp only at hSw); go_simp; try with_reducible rfl)
  (try simp only [Act.put, List.setIfInBounds_toArray, List.set_cons_zero, List.set_cons_succ])
  refine wpAnyH_take (i := 57) (oi := { dst := some 104, op := Op.move (Operand.tmp 103), type := 4, pos := "outright.go:22", after := #[{ on := 56, ground := Ground.data }, { on := 49, ground := Ground.chain }], guard := none }) (v := ?_) rfl (by kernel_rfl) (by kernel_rfl) (by kernel_rfl) (fun _ _ _ h => h) (Or.inl ⟨by rfl, ?_⟩) (by assumption) ?_
  rotate_left
  · (intro ww hSw; (try dsimp only at hSw); go_simp; try with_reducible rfl)
  (try simp only [Act.put, List.setIfInBounds_toArray, List.set_cons_zero, List.set_cons_succ])
  refine wpAnyH_take (i := 58) (oi := { dst := some 105, op := Op.fieldAddr 23 (Operand.tmp 11) 2, type := 0, pos := "outright.go:22", after := #[{ on := 57, ground := Ground.guard }], guard := some (57, false) }) (v := ?_) rfl (by kernel_rfl) (by kernel_rfl) (by kernel_rfl) (fun _ _ _ h => h) (Or.inl ⟨by rfl, ?_⟩) (by assumption) ?_
  rotate_left
  · (intro ww hSw; (try dsimp only at hSw); go_simp; try with_reducible rfl)
  (try simp only [Act.put, List.setIfInBounds_toArray, List.set_cons_zero, List.set_cons_succ])
  refine wpAnyH_take (i := 59) (oi := { dst := some 106, op := Op.load 3 (Operand.tmp 105), type := 3, pos := "outright.go:22", after := #[{ on := 58, ground := Ground.data }, { on := 57, ground := Ground.guard }], guard := some (57, false) }) (v := ?_) rfl (by kernel_rfl) (by kernel_rfl) (by kernel_rfl) (fun _ _ _ h => h) (Or.inl ⟨by rfl, ?_⟩) (by assumption) ?_
  rotate_left
  · (intro ww hSw; (try dsimp only at hSw); go_simp; try with_reducible rfl)
  (try simp only [Act.put, List.setIfInBounds_toArray, List.set_cons_zero, List.set_cons_succ])
  refine wpAnyH_take (i := 60) (oi := { dst := some 107, op := Op.fieldAddr 23 (Operand.tmp 4) 3, type := 0, pos := "outright.go:22", after := #[{ on := 57, ground := Ground.guard }], guard := some (57, false) }) (v := ?_) rfl (by kernel_rfl) (by kernel_rfl) (by kernel_rfl) (fun _ _ _ h => h) (Or.inl ⟨by rfl, ?_⟩) (by assumption) ?_
  rotate_left
  · (intro ww hSw; (try dsimp only at hSw); go_simp; try with_reducible rfl)
  (try simp only [Act.put, List.setIfInBounds_toArray, List.set_cons_zero, List.set_cons_succ])
  refine wpAnyH_take (i := 61) (oi := { dst := some 108, op := Op.load 9 (Operand.tmp 107), type := 9, pos := "outright.go:22", after := #[{ on := 60, ground := Ground.data }, { on := 57, ground := Ground.guard }], guard := some (57, false) }) (v := ?_) rfl (by kernel_rfl) (by kernel_rfl) (by kernel_rfl) (fun _ _ _ h => h) (Or.inl ⟨by rfl, ?_⟩) (by assumption) ?_
  rotate_left
  · (intro ww hSw; (try dsimp only at hSw); go_simp; try with_reducible rfl)
  (try simp only [Act.put, List.setIfInBounds_toArray, List.set_cons_zero, List.set_cons_succ])
  refine wpAnyH_take (i := 62) (oi := { dst := some 109, op := Op.index 9 (Operand.tmp 108) (Operand.const (Value.int IntKind.i64 13)), type := 5, pos := "outright.go:22", after := #[{ on := 61, ground := Ground.data }, { on := 57, ground := Ground.guard }], guard := some (57, false) }) (v := ?_) rfl (by kernel_rfl) (by kernel_rfl) (by kernel_rfl) (fun _ _ _ h => h) (Or.inl ⟨by rfl, ?_⟩) (by assumption) ?_
  rotate_left
  · (intro ww hSw; (try dsimp only at hSw); go_simp; try with_reducible rfl)
  (try simp only [Act.put, List.setIfInBounds_toArray, List.set_cons_zero, List.set_cons_succ])
  refine wpAnyH_take (i := 63) (oi := { dst := some 110, op := Op.binOp BinOp.and 5 (Operand.tmp 109) (Operand.const (Value.int IntKind.u8 63)) 5, type := 5, pos := "outright.go:22", after := #[{ on := 62, ground := Ground.data }, { on := 57, ground := Ground.guard }], guard := some (57, false) }) (v := ?_) rfl (by kernel_rfl) (by kernel_rfl) (by kernel_rfl) (fun _ _ _ h => h) (Or.inl ⟨by rfl, ?_⟩) (by assumption) ?_
  rotate_left
  · (intro ww hSw; (try dsimp only at hSw); go_simp; try with_reducible rfl)
  (try simp only [Act.put, List.setIfInBounds_toArray, List.set_cons_zero, List.set_cons_succ])
  refine wpAnyH_take (i := 64) (oi := { dst := some 111, op := Op.convert 5 3 (Operand.tmp 110), type := 3, pos := "outright.go:22", after := #[{ on := 63, ground := Ground.data }, { on := 57, ground := Ground.guard }], guard := some (57, false) }) (v := ?_) rfl (by kernel_rfl) (by kernel_rfl) (by kernel_rfl) (fun _ _ _ h => h) (Or.inl ⟨by rfl, ?_⟩) (by assumption) ?_
  rotate_left
  · (intro ww hSw; (try dsimp only at hSw); go_simp; try with_reducible rfl)
  (try simp only [Act.put, List.setIfInBounds_toArray, List.set_cons_zero, List.set_cons_succ])
  refine wpAnyH_take (i := 65) (oi := { dst := some 112, op := Op.binOp BinOp.neq 3 (Operand.tmp 106) (Operand.tmp 111) 3, type := 4, pos := "outright.go:22", after := #[{ on := 59, ground := Ground.data }, { on := 64, ground := Ground.data }, { on := 57, ground := Ground.guard }], guard := some (57, false) }) (v := ?_) rfl (by kernel_rfl) (by kernel_rfl) (by kernel_rfl) (fun _ _ _ h => h) (Or.inl ⟨by rfl, ?_⟩) (by assumption) ?_
  rotate_left
  · (intro ww hSw; (try dsimp only at hSw); go_simp; try with_reducible rfl)
  (try simp only [Act.put, List.setIfInBounds_toArray, List.set_cons_zero, List.set_cons_succ])
  refine wpAnyH_take (i := 66) (oi := { dst := some 113, op := Op.pick (Operand.tmp 104) (Operand.const (Value.bool true)) (Operand.tmp 112), type := 4, pos := "outright.go:22", after := #[{ on := 57, ground := Ground.data }, { on := 65, ground := Ground.data }], guard := none }) (v := ?_) rfl (by kernel_rfl) (by kernel_rfl) (by kernel_rfl) (fun _ _ _ h => h) (Or.inl ⟨by rfl, ?_⟩) (by assumption) ?_
  rotate_left
  · (intro ww hSw; (try dsimp only at hSw); go_simp; try with_reducible rfl)
  (try simp only [Act.put, List.setIfInBounds_toArray, List.set_cons_zero, List.set_cons_succ])
  refine wpAnyH_done (by kernel_rfl) ?_ _
  refine NoPanic.normal ?_
  have HB5 := Lib.hid (And.left hHeld)
  have HL5 := Lib.hid (And.left (And.right hHeld))
  clear hHeld i20 d20 i16 i16X i18 i18X hm kA kB eA eB eB2 eA3 eB3 HT2 HC
  -- the turned byte
  obtain ⟨K, hK, hKN⟩ : ∃ K : Nat, a % X.size = K ∧ K < X.size := ⟨a % X.size, rfl, Nat.mod_lt _ (by omega)⟩
  obtain ⟨r, hr, hr8⟩ : ∃ r : Nat, b % 8 = r ∧ r < 8 := ⟨b % 8, rfl, Nat.mod_lt _ (by omega)⟩
  have hm8 : 2 ^ r < 256 := Nat.pow_lt_pow_right (by decide) hr8
  obtain ⟨y, hy, hne, hyx⟩ := turn_bit (X[K]'hKN) (2 ^ r) _ rfl hm8 (Nat.two_pow_pos r)
  have HTk := Lib.hid (fun W => HT.out W K hKN y hne)
  have HSk := Lib.hid (HS.out K y)
  obtain ⟨g, cap2, w6, hconv, hrow, hb8⟩ := bytes_new X w9
  have HB6 := Lib.hid (HB5.out.trans (hb8.mono HL5.out))
  have HL6 := Lib.hid (Nat.le_trans HL5.out hb8.size)
  have HRow := Lib.hid hrow.1
  have HG := Lib.hid (Nat.le_trans HL5.out hrow.2)
  have hcell : w6.cell? ⟨g, K, none⟩ = some (.int .u8 (X[K].toNat : Int)) := (hrow.1 K (by simpa using hKN)).1
  have hfz := (hrow.1 K (by simpa using hKN)).2
  obtain ⟨m, hm⟩ : ∃ m : Nat, 2 ^ r = m := ⟨_, rfl⟩
  rw [hm] at hy hm8
  have hsh : IntKind.u8.wrap ((2 : Int) ^ r) = (m : Int) := by
    rw [show ((2 : Int) ^ r) = ((2 ^ r : Nat) : Int) by simp, hm]
    show (m : Int) % 256 = _
    omega
  have t1 : IntKind.i64.wrap (a : Int) = (a : Int) := IntWalk.i64_in _ (by omega)
  have t2 : (a : Int).tmod (X.size : Int) = (K : Int) := by rw [Int.tmod_eq_emod_of_nonneg (by omega)]; omega
  have t3 : (b : Int).tmod 8 = (r : Int) := by rw [Int.tmod_eq_emod_of_nonneg (by omega)]; omega
  have t4 : IntKind.u8.wrap (r : Int) = (r : Int) := IntWalk.u8_in _ (by omega)
  have t5 : IntKind.i64.wrap (K : Int) = (K : Int) := IntWalk.i64_in _ (by omega)
  have t6 : ((X.size : Int) == 0) = false := by rw [beq_eq_false_iff_ne]; omega
  have t7 : (K : Int) < (X.size : Int) := by omega
  have t8 : ¬ (X.size : Int) = 0 := by omega
  clear hrow hb8 HB5 HL5 hm hK hr hne HT HS hyx
  go_upto_region 15 with (fail)
  clear hsh hy hcell hfz hconv
  have hback : (convert 43 9 (.slice (some ⟨g, 0, none⟩) X.size cap2)).run Try.prog (w6.setCell ⟨g, K, none⟩ (.int .u8 (y.toNat : Int))) = .ok (.string (setB X K y)) (w6.setCell ⟨g, K, none⟩ (.int .u8 (y.toNat : Int))) := by
    rw [HSk.out]
    exact (HRow.out.set K (by rw [ba_size]; exact hKN) y _ rfl).str X.size cap2 (by rw [List.length_set, ba_size])
  have HB7 := Lib.hid (HB6.out.setCell (p := ⟨g, K, none⟩) HG.out (.int .u8 (y.toNat : Int)))
  have HL7 : Hid (w.heap.size ≤ (w6.setCell ⟨g, K, none⟩ (.int .u8 (y.toNat : Int))).heap.size) := Lib.hid (by have := HL6.out; simpa [World.setCell] using this)
  clear HB6 HL6 HRow HG
  generalize w6.setCell ⟨g, K, none⟩ (.int .u8 (y.toNat : Int)) = w7 at *
  generalize setB X K y = T at *
  go_wp2_with fail
  clear hback
  refine (HTk.out _).mono ?_
  rintro e w8 ⟨f, rfl, b8⟩
  have HB8 := Lib.hid (HB7.out.trans (b8.mono HL7.out))
  clear b8 HB7 HL7 HTk
  go_wp2_with fail
  go_ret
  exact ⟨rfl, HB8.out⟩
end Go.Proofs.Ytljlonligbheaaa
