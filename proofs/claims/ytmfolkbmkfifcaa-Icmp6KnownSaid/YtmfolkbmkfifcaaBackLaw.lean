/-
  Proved here: the law Icmp6Back answers true, given what the program's functions answer.
  Conditions: MSays.
-/
import Derived.Test.YtmfolkbmkfifcaaAwake
import Derived.Test.YtmfolkbmkfifcaaBytesPlain
namespace Go.Proofs.Ytmfolkbmkfifcaa
open Go.RowKit

theorem errv_some {B : Nat} {c : Int} {v : Value} {w : World} (h : ErrV B c v w) (hc : c ≠ 0) : ∃ f, v = .iface 59 (.pointer (some ⟨f, 0, none⟩)) := by
  rcases h with ⟨h, _⟩ | ⟨_, f, h, _⟩
  · exact absurd h hc
  · exact ⟨f, h⟩
theorem nqlMs (a b c : Int) (d : ByteArray) (w : World) : (binOp .neq 26 (.agg #[.int .i64 a, .int .i64 b, .int .u32 c, .string d]) (.agg #[.int .i64 a, .int .i64 b, .int .u32 c, .string d])).run Try.prog w = .ok (.bool false) w := by
  have q0 : ∀ W, (part 3 #[.int .i64 a, .int .i64 b, .int .u32 c, .string d] 0).run Try.prog W = .ok (.int .i64 a) W := fun _ => by kernel_rfl
  have q1 : ∀ W, (part 3 #[.int .i64 a, .int .i64 b, .int .u32 c, .string d] 1).run Try.prog W = .ok (.int .i64 b) W := fun _ => by kernel_rfl
  have q2 : ∀ W, (part 24 #[.int .i64 a, .int .i64 b, .int .u32 c, .string d] 2).run Try.prog W = .ok (.int .u32 c) W := fun _ => by kernel_rfl
  have q3 : ∀ W, (part 9 #[.int .i64 a, .int .i64 b, .int .u32 c, .string d] 3).run Try.prog W = .ok (.string d) W := fun _ => by kernel_rfl
  have hn := fun (x : Int) (W : World) => run_equalIn_int (P := Try.prog) W 9998 3 .i64 .i64 x x Try.underlying3
  have hu := fun (x : Int) (W : World) => run_equalIn_int (P := Try.prog) W 9998 24 .u32 .u32 x x Try.underlying24
  have hs := fun (x : ByteArray) (W : World) => run_equalIn_string (P := Try.prog) W 9998 9 x x Try.underlying9
  rw [run_neq_struct, run_equalIn_struct w 9999 26 _ _ Try.fieldsMs Try.heldMs]
  simp only [Program.fieldsOf, Try.underlying26]
  simp [Op.eqFields, q0, q1, q2, q3, hn, hu, hs]
set_option maxRecDepth 100000 in
set_option maxHeartbeats 4000000 in
theorem icmp6Back_all (U : MSays) (d : Ms) (s ps : ByteArray) (a b : Nat) (ha : a ≤ 65535) (hb : b ≤ 255) (hx : d.rs < 4294967296) (w : World) :
    Calls Try.prog 6 #[.agg #[.int .i64 d.kd, .int .i64 d.cd, .int .u32 (d.rs : Nat), .string d.da], .string s, .string ps, .int .u16 a, .int .u8 b] w fun e w' => e = .returned (.bool true) ∧ Below w.heap.size w w' := by
  have HA := Lib.hid (fun W => awake_true U W)
  obtain ⟨E, hE⟩ : ∃ E : Nat, E = ps.size / 2 * 2 := ⟨_, rfl⟩
  obtain ⟨Q, hQ⟩ : ∃ Q, Q = ps.extract 0 E := ⟨_, rfl⟩
  have hQs : Q.size = E := by rw [hQ]; simp; omega
  have hQe : Q.size % 2 = 0 := by omega
  have hQ1 : Q.size ≤ ps.size := by omega
  have HQ := Lib.hid hQ
  have q1 : (ps.size : Int).tdiv 2 = (ps.size : Int) / 2 := Int.tdiv_eq_ediv_of_nonneg (by omega)
  have q3 : (ps.size : Int) / 2 * 2 = (E : Int) := by omega
  have q5 : (E : Int) ≤ (ps.size : Int) := by omega
  clear hQ hE
  obtain ⟨x0, hx0⟩ : ∃ x, x = d.kd := ⟨_, rfl⟩
  obtain ⟨x1, hx1⟩ : ∃ x, x = d.cd := ⟨_, rfl⟩
  obtain ⟨x2, hx2⟩ : ∃ x, x = d.rs := ⟨_, rfl⟩
  obtain ⟨x3, hx3⟩ : ∃ x, x = d.da := ⟨_, rfl⟩
  have HX := Lib.hid (And.intro hx0 (And.intro hx1 (And.intro hx2 hx3)))
  rw [← hx0, ← hx1, ← hx2, ← hx3]
  have C1 : Hid (∀ W, d.da.size ≤ 70000 → Q.size ≤ 1000 → Calls Try.prog 11 #[.agg #[.int .i64 x0, .int .i64 x1, .int .u32 (x2 : Nat), .string x3], .string Q] W fun e w' => ∃ x, e = .returned (.tuple #[.string (d.out Q), x]) ∧ ErrV W.heap.size d.why x w' ∧ Below W.heap.size W w') := Lib.hid (fun W h1 hQp => by rw [hx0, hx1, hx2, hx3]; exact U.bytes d Q W hx (by omega) hQp)
  clear hx0 hx1 hx2 hx3
  go_enter Try.func6, Try.ntmps6
  go_wp2_with fail
  refine (HA.out _).mono ?_
  rintro e w1 ⟨rfl, b1⟩
  have HK1 := Lib.hid (((Kp.start w).new 26 ([.int .i64 x0, .int .i64 x1, .int .u32 (x2 : Nat), .string x3] : List Value)).below b1 (Nat.le_refl _))
  have c0 := HK1.out.hd.at (i := 0) rfl
  have c1 := HK1.out.hd.at (i := 1) rfl
  have c2 := HK1.out.hd.at (i := 2) rfl
  have c3 := HK1.out.hd.at (i := 3) rfl
  clear b1 HA
  by_cases h1 : 70000 < x3.size
  · have i1 : (70000 : Int) < (x3.size : Int) := by omega
    have d1 := decide_eq_true i1
    clear h1
    go_wp2_with fail
    go_ret
    exact ⟨rfl, HK1.out.2.1⟩
  have i1 : ¬ (70000 : Int) < (x3.size : Int) := by omega
  have d1 := decide_eq_false i1
  by_cases h2 : 70000 < s.size
  · have i2 : (70000 : Int) < (s.size : Int) := by omega
    have d2 := decide_eq_true i2
    clear h1 h2
    go_wp2_with fail
    go_ret
    exact ⟨rfl, HK1.out.2.1⟩
  have i2 : ¬ (70000 : Int) < (s.size : Int) := by omega
  have d2 := decide_eq_false i2
  by_cases h3 : 1000 < ps.size
  · have i3 : (1000 : Int) < (ps.size : Int) := by omega
    have d3 := decide_eq_true i3
    clear h1 h2 h3
    go_wp2_with fail
    go_ret
    exact ⟨rfl, HK1.out.2.1⟩
  have i3 : ¬ (1000 : Int) < (ps.size : Int) := by omega
  have d3 := decide_eq_false i3
  have hQp : Q.size ≤ 1000 := by omega
  have q2 : IntKind.i64.wrap ((ps.size : Int) / 2) = (ps.size : Int) / 2 := IntWalk.i64_in _ (by omega)
  have q4 : IntKind.i64.wrap (E : Int) = (E : Int) := IntWalk.i64_in _ (by omega)
  have hs8 : s.size ≤ 78000 := by omega
  have hd7 : d.da.size ≤ 70000 := by have := HX.out.2.2.2; rw [← this]; omega
  have HC1 := Lib.hid (fun W => C1.out W hd7 hQp)
  clear h1 h2 C1
  go_upto_region 6 with (fail)
  clear q1 q2 q3 q4 q5
  rw [← HQ.out]
  go_wp2_with fail
  refine (HC1.out w1).mono ?_
  rintro e w2 ⟨x, rfl, he, b2⟩
  have HK2 := Lib.hid (HK1.out.below b2 (Nat.le_refl _))
  clear b2 c0 c1 c2 c3 HC1 HK1 i1 i2 d1 d2
  by_cases hw : d.why = 0
  case neg =>
    obtain ⟨f, rfl⟩ := errv_some he hw
    have ho : d.out Q = ⟨#[]⟩ := by unfold Ms.out; rw [if_neg hw]
    rw [ho]
    clear he ho hw hd7 HX
    have HKy := Lib.hid HK2.out
    clear HK2
    have HPn := Lib.hid (fun (W : World) (h : mcode Q s ≠ 0) => (show Calls Try.prog 10 #[.string s, .string Q] W fun e w' => ∃ f o0 o1 o2 o3, (o0 = 0 ∧ o1 = 0 ∧ o2 = 0 ∧ o3 = ⟨#[]⟩) ∧ e = .returned (.tuple #[.agg #[.int .i64 o0, .int .i64 o1, .int .u32 (o2 : Nat), .string o3], .iface 59 (.pointer (some ⟨f, 0, none⟩))]) ∧ Below W.heap.size W w' from by
      refine (U.parse s Q W hs8 hQp).mono ?_
      rintro e w' ⟨x, rfl, he, b⟩
      obtain ⟨f, rfl⟩ := errv_some he h
      have hm : mans Q s = ms0 := by unfold mans; rw [if_neg h]
      rw [hm]
      exact ⟨f, 0, 0, 0, ⟨#[]⟩, ⟨rfl, rfl, rfl, rfl⟩, rfl, b⟩))
    have HPp := Lib.hid (fun (W : World) (h : mcode Q s = 0) => (show Calls Try.prog 10 #[.string s, .string Q] W fun e w' => e = .returned (.tuple #[.agg #[.int .i64 (mpkt s).kd, .int .i64 (mpkt s).cd, .int .u32 ((mpkt s).rs : Nat), .string (mpkt s).da], .nilIface]) ∧ Below W.heap.size W w' from by
      refine (U.parse s Q W hs8 hQp).mono ?_
      rintro e w' ⟨x, rfl, he, b⟩
      rw [h] at he
      have hm : mans Q s = mpkt s := by unfold mans; rw [if_pos h]
      rw [he.nil, hm]
      exact ⟨rfl, b⟩))
    have HBp := Lib.hid (fun (W : World) (h : 8 ≤ s.size) => (show Calls Try.prog 11 #[.agg #[.int .i64 (mpkt s).kd, .int .i64 (mpkt s).cd, .int .u32 ((mpkt s).rs : Nat), .string (mpkt s).da], .string Q] W fun e w' => e = .returned (.tuple #[.string ((mpkt s).bytes Q), .nilIface]) ∧ Below W.heap.size W w' from by
      have hf := mpkt_form s h 0
      have hda : (mpkt s).da.size ≤ 78000 := by show (s.extract 8 s.size).size ≤ 78000; simp; omega
      refine (U.bytes (mpkt s) Q W (mpkt_rs s) hda hQp).mono ?_
      rintro e w' ⟨x, rfl, he, b⟩
      rw [hf.1] at he
      have ho : (mpkt s).out Q = (mpkt s).bytes Q := by unfold Ms.out; rw [if_pos hf.1]
      rw [he.nil, ho]
      exact ⟨rfl, b⟩))
    by_cases hc : mcode Q s = 0
    case neg =>
      have HPq := Lib.hid (fun W => HPn.out W hc)
      clear hc HPn HPp HBp
      go_wp2_with fail
      refine (HPq.out _).mono ?_
      rintro e wA ⟨f, o0, o1, o2, o3, ho, rfl, bA⟩
      have hqz : ∀ W, (binOp .eql 26 (.agg #[.int .i64 o0, .int .i64 o1, .int .u32 (o2 : Nat), .string o3]) (.agg #[.int .i64 0, .int .i64 0, .int .u32 0, .string ⟨#[]⟩])).run Try.prog W = .ok (.bool true) W := fun W => by
        obtain ⟨rfl, rfl, rfl, rfl⟩ := ho
        exact eqlMs 0 0 0 ⟨#[]⟩ W
      clear ho
      have HKz := Lib.hid ((HKy.out.below bA (Nat.le_refl _)).new 26 ([.int .i64 o0, .int .i64 o1, .int .u32 (o2 : Nat), .string o3] : List Value))
      clear bA HKy HPq
      generalize hwB : wA.alloc (.cells #[.int .i64 o0, .int .i64 o1, .int .u32 (o2 : Nat), .string o3] 26) = wB at *
      go_upto_region 18 with (fail)
      clear hwB
      have z0 := HKz.out.hd.at (i := 0) rfl
      have z1 := HKz.out.hd.at (i := 1) rfl
      have z2 := HKz.out.hd.at (i := 2) rfl
      have z3 := HKz.out.hd.at (i := 3) rfl
      go_wp2_with fail
      go_ret
      exact ⟨rfl, HKz.out.2.1⟩
    have h8 : 8 ≤ s.size := by
      unfold mcode at hc
      split at hc
      · cases hc
      · omega
    have HPq := Lib.hid (fun W => HPp.out W hc)
    have HBq := Lib.hid (fun W => HBp.out W h8)
    have HF := mpkt_form s h8 ((mpkt s).sumN Q : Nat)
    obtain ⟨_, f1, f2, f3⟩ := HF
    have hY : (mpkt s).bytes Q = (mpkt s).form ((mpkt s).sumN Q : Nat) := rfl
    rw [← hY] at f1 f2 f3
    clear hc HPn HPp HBp hY
    generalize (mpkt s).kd = y0 at *
    generalize (mpkt s).cd = y1 at *
    generalize (mpkt s).rs = y2 at *
    generalize (mpkt s).da = y3 at *
    generalize (mpkt s).bytes Q = Y at *
    have f4 : Y.extract 4 Y.size = s.extract 4 s.size := by rw [f1]; exact f3
    obtain ⟨S2, hS2⟩ : ∃ M, s.extract 0 2 = M := ⟨_, rfl⟩
    obtain ⟨S4, hS4⟩ : ∃ M, s.extract 4 s.size = M := ⟨_, rfl⟩
    rw [hS2] at f2
    rw [hS4] at f3 f4
    have g1 : (((Y.size : Nat) : Int) == ((s.size : Nat) : Int)) = true := by rw [f1, beq_iff_eq]
    have g2 : (8 : Int) ≤ (s.size : Int) := by omega
    have g2d := decide_eq_true g2
    have g3 : (2 : Int) ≤ (s.size : Int) := by omega
    have g4 : (4 : Int) ≤ (s.size : Int) := by omega
    have g5 : (2 : Int) ≤ (Y.size : Int) := by omega
    have g6 : (4 : Int) ≤ (Y.size : Int) := by omega
    have HYs := Lib.hid f1
    have Hf3 := Lib.hid f3
    clear f1 f3 h8
    go_wp2_with fail
    refine (HPq.out _).mono ?_
    rintro e wA ⟨rfl, bA⟩
    have HKz := Lib.hid ((HKy.out.below bA (Nat.le_refl _)).new 26 ([.int .i64 y0, .int .i64 y1, .int .u32 (y2 : Nat), .string y3] : List Value))
    clear bA HKy HPq
    generalize hwB : wA.alloc (.cells #[.int .i64 y0, .int .i64 y1, .int .u32 (y2 : Nat), .string y3] 26) = wB at *
    go_upto_region 18 with (fail)
    clear hwB
    have z0 := HKz.out.hd.at (i := 0) rfl
    have z1 := HKz.out.hd.at (i := 1) rfl
    have z2 := HKz.out.hd.at (i := 2) rfl
    have z3 := HKz.out.hd.at (i := 3) rfl
    go_wp2_with fail
    refine (HBq.out _).mono ?_
    rintro e wC ⟨rfl, bC⟩
    have HKc := Lib.hid (HKz.out.below bC (Nat.le_refl _))
    clear bC HKz HBq z0 z1 z2 z3
    go_upto_region 21 with (fail)
    refine wp_region_noPanic ?_
    refine wp_region_held_drew (S := fun w' => Below w.heap.size w w' ∧ w.heap.size ≤ w'.heap.size) (by kernel_rfl) (⟨HKc.out.2.1.drew, HKc.out.2.2⟩) (fun hHeld => ?_)
    refine wpAnyH_take (i := 0) (oi := { dst := some 119, op := Op.move (Operand.tmp 22), type := 29, pos := "outright.go:36", after := #[], guard := none }) (v := ?_) rfl (by kernel_rfl) (by kernel_rfl) (by kernel_rfl) (fun _ _ _ h => h) (Or.inl ⟨by rfl, ?_⟩) (by assumption) ?_
    rotate_left
    · (intro ww hSw; (try dsimp only at hSw); go_simp; try with_reducible rfl)
    (try simp only [Act.put, List.setIfInBounds_toArray, List.set_cons_zero, List.set_cons_succ])
    refine wpAnyH_take (i := 1) (oi := { dst := some 120, op := Op.binOp BinOp.eql 29 (Operand.tmp 119) (Operand.const Value.nilIface) 29, type := 4, pos := "outright.go:36", after := #[{ on := 0, ground := Ground.data }], guard := none }) (v := ?_) rfl (by kernel_rfl) (by kernel_rfl) (by kernel_rfl) (fun _ _ _ h => h) (Or.inl ⟨by rfl, ?_⟩) (by assumption) ?_
    rotate_left
    · (intro ww hSw; (try dsimp only at hSw); go_simp; try with_reducible rfl)
    (try simp only [Act.put, List.setIfInBounds_toArray, List.set_cons_zero, List.set_cons_succ])
    refine wpAnyH_take (i := 2) (oi := { dst := some 121, op := Op.move (Operand.tmp 120), type := 4, pos := "outright.go:36", after := #[{ on := 1, ground := Ground.data }], guard := none }) (v := ?_) rfl (by kernel_rfl) (by kernel_rfl) (by kernel_rfl) (fun _ _ _ h => h) (Or.inl ⟨by rfl, ?_⟩) (by assumption) ?_
    rotate_left
    · (intro ww hSw; (try dsimp only at hSw); go_simp; try with_reducible rfl)
    (try simp only [Act.put, List.setIfInBounds_toArray, List.set_cons_zero, List.set_cons_succ])
    refine wpAnyH_take (i := 3) (oi := { dst := some 122, op := Op.move (Operand.tmp 21), type := 9, pos := "outright.go:36", after := #[{ on := 2, ground := Ground.guard }], guard := some (2, true) }) (v := ?_) rfl (by kernel_rfl) (by kernel_rfl) (by kernel_rfl) (fun _ _ _ h => h) (Or.inl ⟨by rfl, ?_⟩) (by assumption) ?_
    rotate_left
    · (intro ww hSw; (try dsimp only at hSw); go_simp; try with_reducible rfl)
    (try simp only [Act.put, List.setIfInBounds_toArray, List.set_cons_zero, List.set_cons_succ])
    refine wpAnyH_take (i := 4) (oi := { dst := some 123, op := Op.call { callee := Callee.builtin Builtin.len, args := #[Operand.tmp 122], argTypes := #[9] }, type := 3, pos := "outright.go:36", after := #[{ on := 3, ground := Ground.data }, { on := 2, ground := Ground.guard }], guard := some (2, true) }) (v := ?_) rfl (by kernel_rfl) (by kernel_rfl) (by kernel_rfl) (fun _ _ _ h => h) (Or.inl ⟨by rfl, ?_⟩) (by assumption) ?_
    rotate_left
    · (intro ww hSw; (try dsimp only at hSw); go_simp; try with_reducible rfl)
    (try simp only [Act.put, List.setIfInBounds_toArray, List.set_cons_zero, List.set_cons_succ])
    refine wpAnyH_take (i := 5) (oi := { dst := some 124, op := Op.move (Operand.tmp 1), type := 9, pos := "outright.go:36", after := #[{ on := 2, ground := Ground.guard }], guard := some (2, true) }) (v := ?_) rfl (by kernel_rfl) (by kernel_rfl) (by kernel_rfl) (fun _ _ _ h => h) (Or.inl ⟨by rfl, ?_⟩) (by assumption) ?_
    rotate_left
    · (intro ww hSw; (try dsimp only at hSw); go_simp; try with_reducible rfl)
    (try simp only [Act.put, List.setIfInBounds_toArray, List.set_cons_zero, List.set_cons_succ])
    refine wpAnyH_take (i := 6) (oi := { dst := some 125, op := Op.call { callee := Callee.builtin Builtin.len, args := #[Operand.tmp 124], argTypes := #[9] }, type := 3, pos := "outright.go:36", after := #[{ on := 5, ground := Ground.data }, { on := 2, ground := Ground.guard }], guard := some (2, true) }) (v := ?_) rfl (by kernel_rfl) (by kernel_rfl) (by kernel_rfl) (fun _ _ _ h => h) (Or.inl ⟨by rfl, ?_⟩) (by assumption) ?_
    rotate_left
    · (intro ww hSw; (try dsimp only at hSw); go_simp; try with_reducible rfl)
    (try simp only [Act.put, List.setIfInBounds_toArray, List.set_cons_zero, List.set_cons_succ])
    refine wpAnyH_take (i := 7) (oi := { dst := some 126, op := Op.binOp BinOp.eql 3 (Operand.tmp 123) (Operand.tmp 125) 3, type := 4, pos := "outright.go:36", after := #[{ on := 4, ground := Ground.data }, { on := 6, ground := Ground.data }, { on := 2, ground := Ground.guard }], guard := some (2, true) }) (v := ?_) rfl (by kernel_rfl) (by kernel_rfl) (by kernel_rfl) (fun _ _ _ h => h) (Or.inl ⟨by rfl, ?_⟩) (by assumption) ?_
    rotate_left
    · (intro ww hSw; (try dsimp only at hSw); go_simp; try with_reducible rfl)
    (try simp only [Act.put, List.setIfInBounds_toArray, List.set_cons_zero, List.set_cons_succ])
    refine wpAnyH_take (i := 8) (oi := { dst := some 127, op := Op.pick (Operand.tmp 121) (Operand.tmp 126) (Operand.const (Value.bool false)), type := 4, pos := "outright.go:36", after := #[{ on := 2, ground := Ground.data }, { on := 7, ground := Ground.data }], guard := none }) (v := ?_) rfl (by kernel_rfl) (by kernel_rfl) (by kernel_rfl) (fun _ _ _ h => h) (Or.inl ⟨by rfl, ?_⟩) (by assumption) ?_
    rotate_left
    · (intro ww hSw; (try dsimp only at hSw); go_simp; try with_reducible rfl)
    (try simp only [Act.put, List.setIfInBounds_toArray, List.set_cons_zero, List.set_cons_succ])
    refine wpAnyH_take (i := 9) (oi := { dst := some 128, op := Op.move (Operand.tmp 127), type := 4, pos := "outright.go:36", after := #[{ on := 8, ground := Ground.data }, { on := 2, ground := Ground.chain }], guard := none }) (v := ?_) rfl (by kernel_rfl) (by kernel_rfl) (by kernel_rfl) (fun _ _ _ h => h) (Or.inl ⟨by rfl, ?_⟩) (by assumption) ?_
    rotate_left
    · (intro ww hSw; (try dsimp only at hSw); go_simp; try with_reducible rfl)
    (try simp only [Act.put, List.setIfInBounds_toArray, List.set_cons_zero, List.set_cons_succ])
    refine wpAnyH_take (i := 10) (oi := { dst := some 129, op := Op.move (Operand.tmp 1), type := 9, pos := "outright.go:36", after := #[{ on := 9, ground := Ground.guard }], guard := some (9, true) }) (v := ?_) rfl (by kernel_rfl) (by kernel_rfl) (by kernel_rfl) (fun _ _ _ h => h) (Or.inl ⟨by rfl, ?_⟩) (by assumption) ?_
    rotate_left
    · (intro ww hSw; (try dsimp only at hSw); go_simp; try with_reducible rfl)
    (try simp only [Act.put, List.setIfInBounds_toArray, List.set_cons_zero, List.set_cons_succ])
    refine wpAnyH_take (i := 11) (oi := { dst := some 130, op := Op.call { callee := Callee.builtin Builtin.len, args := #[Operand.tmp 129], argTypes := #[9] }, type := 3, pos := "outright.go:36", after := #[{ on := 10, ground := Ground.data }, { on := 9, ground := Ground.guard }], guard := some (9, true) }) (v := ?_) rfl (by kernel_rfl) (by kernel_rfl) (by kernel_rfl) (fun _ _ _ h => h) (Or.inl ⟨by rfl, ?_⟩) (by assumption) ?_
    rotate_left
    · (intro ww hSw; (try dsimp only at hSw); go_simp; try with_reducible rfl)
    (try simp only [Act.put, List.setIfInBounds_toArray, List.set_cons_zero, List.set_cons_succ])
    refine wpAnyH_take (i := 12) (oi := { dst := some 131, op := Op.binOp BinOp.geq 3 (Operand.tmp 130) (Operand.const (Value.int IntKind.i64 8)) 3, type := 4, pos := "outright.go:36", after := #[{ on := 11, ground := Ground.data }, { on := 9, ground := Ground.guard }], guard := some (9, true) }) (v := ?_) rfl (by kernel_rfl) (by kernel_rfl) (by kernel_rfl) (fun _ _ _ h => h) (Or.inl ⟨by rfl, ?_⟩) (by assumption) ?_
    rotate_left
    · (intro ww hSw; (try dsimp only at hSw); go_simp; try with_reducible rfl)
    (try simp only [Act.put, List.setIfInBounds_toArray, List.set_cons_zero, List.set_cons_succ])
    refine wpAnyH_take (i := 13) (oi := { dst := some 132, op := Op.pick (Operand.tmp 128) (Operand.tmp 131) (Operand.const (Value.bool false)), type := 4, pos := "outright.go:36", after := #[{ on := 9, ground := Ground.data }, { on := 12, ground := Ground.data }], guard := none }) (v := ?_) rfl (by kernel_rfl) (by kernel_rfl) (by kernel_rfl) (fun _ _ _ h => h) (Or.inl ⟨by rfl, ?_⟩) (by assumption) ?_
    rotate_left
    · (intro ww hSw; (try dsimp only at hSw); go_simp; try with_reducible rfl)
    (try simp only [Act.put, List.setIfInBounds_toArray, List.set_cons_zero, List.set_cons_succ])
    refine wpAnyH_take (i := 14) (oi := { dst := some 133, op := Op.move (Operand.tmp 132), type := 4, pos := "outright.go:36", after := #[{ on := 13, ground := Ground.data }, { on := 9, ground := Ground.chain }], guard := none }) (v := ?_) rfl (by kernel_rfl) (by kernel_rfl) (by kernel_rfl) (fun _ _ _ h => h) (Or.inl ⟨by rfl, ?_⟩) (by assumption) ?_
    rotate_left
    · (intro ww hSw; (try dsimp only at hSw); go_simp; try with_reducible rfl)
    (try simp only [Act.put, List.setIfInBounds_toArray, List.set_cons_zero, List.set_cons_succ])
    refine wpAnyH_take (i := 15) (oi := { dst := some 134, op := Op.move (Operand.tmp 21), type := 9, pos := "outright.go:36", after := #[{ on := 14, ground := Ground.guard }], guard := some (14, true) }) (v := ?_) rfl (by kernel_rfl) (by kernel_rfl) (by kernel_rfl) (fun _ _ _ h => h) (Or.inl ⟨by rfl, ?_⟩) (by assumption) ?_
    rotate_left
    · (intro ww hSw; (try dsimp only at hSw); go_simp; try with_reducible rfl)
    (try simp only [Act.put, List.setIfInBounds_toArray, List.set_cons_zero, List.set_cons_succ])
    refine wpAnyH_take (i := 16) (oi := { dst := some 135, op := Op.slice 9 (Operand.tmp 134) none (some (Operand.const (Value.int IntKind.i64 2))) none, type := 9, pos := "outright.go:36", after := #[{ on := 15, ground := Ground.data }, { on := 14, ground := Ground.guard }], guard := some (14, true) }) (v := ?_) rfl (by kernel_rfl) (by kernel_rfl) (by kernel_rfl) (fun _ _ _ h => h) (Or.inl ⟨by rfl, ?_⟩) (by assumption) ?_
    rotate_left
    · (intro ww hSw; (try dsimp only at hSw); go_simp; try with_reducible rfl)
    (try simp only [Act.put, List.setIfInBounds_toArray, List.set_cons_zero, List.set_cons_succ])
    refine wpAnyH_take (i := 17) (oi := { dst := some 136, op := Op.move (Operand.tmp 1), type := 9, pos := "outright.go:36", after := #[{ on := 14, ground := Ground.guard }], guard := some (14, true) }) (v := ?_) rfl (by kernel_rfl) (by kernel_rfl) (by kernel_rfl) (fun _ _ _ h => h) (Or.inl ⟨by rfl, ?_⟩) (by assumption) ?_
    rotate_left
    · (intro ww hSw; (try dsimp only at hSw); go_simp; try with_reducible rfl)
    (try simp only [Act.put, List.setIfInBounds_toArray, List.set_cons_zero, List.set_cons_succ])
    refine wpAnyH_take (i := 18) (oi := { dst := some 137, op := Op.slice 9 (Operand.tmp 136) none (some (Operand.const (Value.int IntKind.i64 2))) none, type := 9, pos := "outright.go:36", after := #[{ on := 17, ground := Ground.data }, { on := 14, ground := Ground.guard }], guard := some (14, true) }) (v := ?_) rfl (by kernel_rfl) (by kernel_rfl) (by kernel_rfl) (fun _ _ _ h => h) (Or.inl ⟨by rfl, ?_⟩) (by assumption) ?_
    rotate_left
    · (intro ww hSw; (try dsimp only at hSw); go_simp; try with_reducible rfl)
    (try simp only [Act.put, List.setIfInBounds_toArray, List.set_cons_zero, List.set_cons_succ])
    refine wpAnyH_take (i := 19) (oi := { dst := some 138, op := Op.binOp BinOp.eql 9 (Operand.tmp 135) (Operand.tmp 137) 9, type := 4, pos := "outright.go:36", after := #[{ on := 16, ground := Ground.data }, { on := 18, ground := Ground.data }, { on := 14, ground := Ground.guard }], guard := some (14, true) }) (v := ?_) rfl (by kernel_rfl) (by kernel_rfl) (by kernel_rfl) (fun _ _ _ h => h) (Or.inl ⟨by rfl, ?_⟩) (by assumption) ?_
    rotate_left
    · (intro ww hSw; (try dsimp only at hSw); go_simp; try with_reducible rfl)
    (try simp only [Act.put, List.setIfInBounds_toArray, List.set_cons_zero, List.set_cons_succ])
    refine wpAnyH_take (i := 20) (oi := { dst := some 139, op := Op.pick (Operand.tmp 133) (Operand.tmp 138) (Operand.const (Value.bool false)), type := 4, pos := "outright.go:36", after := #[{ on := 14, ground := Ground.data }, { on := 19, ground := Ground.data }], guard := none }) (v := ?_) rfl (by kernel_rfl) (by kernel_rfl) (by kernel_rfl) (fun _ _ _ h => h) (Or.inl ⟨by rfl, ?_⟩) (by assumption) ?_
    rotate_left
    · (intro ww hSw; (try dsimp only at hSw); go_simp; try with_reducible rfl)
    (try simp only [Act.put, List.setIfInBounds_toArray, List.set_cons_zero, List.set_cons_succ])
    refine wpAnyH_take (i := 21) (oi := { dst := some 140, op := Op.move (Operand.tmp 139), type := 4, pos := "outright.go:36", after := #[{ on := 20, ground := Ground.data }, { on := 14, ground := Ground.chain }], guard := none }) (v := ?_) rfl (by kernel_rfl) (by kernel_rfl) (by kernel_rfl) (fun _ _ _ h => h) (Or.inl ⟨by rfl, ?_⟩) (by assumption) ?_
    rotate_left
    · (intro ww hSw; (try dsimp only at hSw); go_simp; try with_reducible rfl)
    (try simp only [Act.put, List.setIfInBounds_toArray, List.set_cons_zero, List.set_cons_succ])
    refine wpAnyH_take (i := 22) (oi := { dst := some 141, op := Op.move (Operand.tmp 21), type := 9, pos := "outright.go:36", after := #[{ on := 21, ground := Ground.guard }], guard := some (21, true) }) (v := ?_) rfl (by kernel_rfl) (by kernel_rfl) (by kernel_rfl) (fun _ _ _ h => h) (Or.inl ⟨by rfl, ?_⟩) (by assumption) ?_
    rotate_left
    · (intro ww hSw; (try dsimp only at hSw); go_simp; try with_reducible rfl)
    (try simp only [Act.put, List.setIfInBounds_toArray, List.set_cons_zero, List.set_cons_succ])
    refine wpAnyH_take (i := 23) (oi := { dst := some 142, op := Op.slice 9 (Operand.tmp 141) (some (Operand.const (Value.int IntKind.i64 4))) none none, type := 9, pos := "outright.go:36", after := #[{ on := 22, ground := Ground.data }, { on := 21, ground := Ground.guard }], guard := some (21, true) }) (v := ?_) rfl (by kernel_rfl) (by kernel_rfl) (by kernel_rfl) (fun _ _ _ h => h) (Or.inl ⟨by rfl, ?_⟩) (by assumption) ?_
    rotate_left
    · (intro ww hSw; (try dsimp only at hSw); go_simp; try with_reducible rfl)
    (try simp only [Act.put, List.setIfInBounds_toArray, List.set_cons_zero, List.set_cons_succ])
    refine wpAnyH_take (i := 24) (oi := { dst := some 143, op := Op.move (Operand.tmp 1), type := 9, pos := "outright.go:36", after := #[{ on := 21, ground := Ground.guard }], guard := some (21, true) }) (v := ?_) rfl (by kernel_rfl) (by kernel_rfl) (by kernel_rfl) (fun _ _ _ h => h) (Or.inl ⟨by rfl, ?_⟩) (by assumption) ?_
    rotate_left
    · (intro ww hSw; (try dsimp only at hSw); go_simp; try with_reducible rfl)
    (try simp only [Act.put, List.setIfInBounds_toArray, List.set_cons_zero, List.set_cons_succ])
    refine wpAnyH_take (i := 25) (oi := { dst := some 144, op := Op.slice 9 (Operand.tmp 143) (some (Operand.const (Value.int IntKind.i64 4))) none none, type := 9, pos := "outright.go:36", after := #[{ on := 24, ground := Ground.data }, { on := 21, ground := Ground.guard }], guard := some (21, true) }) (v := ?_) rfl (by kernel_rfl) (by kernel_rfl) (by kernel_rfl) (fun _ _ _ h => h) (Or.inl ⟨by rfl, ?_⟩) (by assumption) ?_
    rotate_left
    · (intro ww hSw; (try dsimp only at hSw); go_simp; try with_reducible rfl)
    (try simp only [Act.put, List.setIfInBounds_toArray, List.set_cons_zero, List.set_cons_succ])
    refine wpAnyH_take (i := 26) (oi := { dst := some 145, op := Op.binOp BinOp.eql 9 (Operand.tmp 142) (Operand.tmp 144) 9, type := 4, pos := "outright.go:36", after := #[{ on := 23, ground := Ground.data }, { on := 25, ground := Ground.data }, { on := 21, ground := Ground.guard }], guard := some (21, true) }) (v := ?_) rfl (by kernel_rfl) (by kernel_rfl) (by kernel_rfl) (fun _ _ _ h => h) (Or.inl ⟨by rfl, ?_⟩) (by assumption) ?_
    rotate_left
    · (intro ww hSw; (try dsimp only at hSw); go_simp; try with_reducible rfl)
    (try simp only [Act.put, List.setIfInBounds_toArray, List.set_cons_zero, List.set_cons_succ])
    refine wpAnyH_take (i := 27) (oi := { dst := some 146, op := Op.pick (Operand.tmp 140) (Operand.tmp 145) (Operand.const (Value.bool false)), type := 4, pos := "outright.go:36", after := #[{ on := 21, ground := Ground.data }, { on := 26, ground := Ground.data }], guard := none }) (v := ?_) rfl (by kernel_rfl) (by kernel_rfl) (by kernel_rfl) (fun _ _ _ h => h) (Or.inl ⟨by rfl, ?_⟩) (by assumption) ?_
    rotate_left
    · (intro ww hSw; (try dsimp only at hSw); go_simp; try with_reducible rfl)
    (try simp only [Act.put, List.setIfInBounds_toArray, List.set_cons_zero, List.set_cons_succ])
    refine wpAnyH_take (i := 28) (oi := { dst := some 10, op := Op.assign (Operand.tmp 146), type := 4, pos := "outright.go:36", after := #[{ on := 27, ground := Ground.data }, { on := 21, ground := Ground.chain }, { on := 0, ground := Ground.phase }, { on := 1, ground := Ground.phase }, { on := 2, ground := Ground.phase }, { on := 3, ground := Ground.phase }, { on := 4, ground := Ground.phase }, { on := 5, ground := Ground.phase }, { on := 6, ground := Ground.phase }, { on := 7, ground := Ground.phase }, { on := 8, ground := Ground.phase }, { on := 9, ground := Ground.phase }, { on := 10, ground := Ground.phase }, { on := 11, ground := Ground.phase }, { on := 12, ground := Ground.phase }, { on := 13, ground := Ground.phase }, { on := 14, ground := Ground.phase }, { on := 15, ground := Ground.phase }, { on := 16, ground := Ground.phase }, { on := 17, ground := Ground.phase }, { on := 18, ground := Ground.phase }, { on := 19, ground := Ground.phase }, { on := 20, ground := Ground.phase }, { on := 21, ground := Ground.phase }, { on := 22, ground := Ground.phase }, { on := 23, ground := Ground.phase }, { on := 24, ground := Ground.phase }, { on := 25, ground := Ground.phase }, { on := 26, ground := Ground.phase }, { on := 27, ground := Ground.phase }], guard := none }) (v := ?_) rfl (by kernel_rfl) (by kernel_rfl) (by kernel_rfl) (fun _ _ _ h => h) (Or.inl ⟨by rfl, ?_⟩) (by assumption) ?_
    rotate_left
    · (intro ww hSw; (try dsimp only at hSw); go_simp; try with_reducible rfl)
    (try simp only [Act.put, List.setIfInBounds_toArray, List.set_cons_zero, List.set_cons_succ])
    refine wpAnyH_done (by kernel_rfl) ?_ _
    refine NoPanic.normal ?_
    have HE := Lib.hid (And.left hHeld)
    clear hHeld
    go_wp2_with fail
    go_ret
    exact ⟨rfl, HE.out⟩
  rw [hw] at he
  obtain rfl := he.nil
  have ho : d.out Q = d.bytes Q := by unfold Ms.out; rw [if_pos hw]
  rw [ho]
  have hXs : (d.bytes Q).size = 8 + d.da.size := form_size d _
  have HP : Hid (∀ W, Calls Try.prog 10 #[.string (d.bytes Q), .string Q] W fun e w' => e = .returned (.tuple #[.agg #[.int .i64 x0, .int .i64 x1, .int .u32 (x2 : Nat), .string x3], .nilIface]) ∧ Below W.heap.size W w') := Lib.hid (fun W => by
    refine (U.parse (d.bytes Q) Q W (by omega) hQp).mono ?_
    rintro e w' ⟨x, rfl, he, b⟩
    rw [bytes_code d Q hQe] at he
    have hm : mans Q (d.bytes Q) = mpkt (d.bytes Q) := by unfold mans; rw [if_pos (bytes_code d Q hQe)]
    obtain ⟨m0, m1, m2, m3⟩ := form_mpkt hw hx (d.sumN Q : Nat)
    have hbf : d.bytes Q = d.form (d.sumN Q : Nat) := rfl
    rw [he.nil, hm, hbf, m0, m1, m2, m3, HX.out.1, HX.out.2.1, HX.out.2.2.1, HX.out.2.2.2]
    exact ⟨rfl, b⟩)
  have HT := Lib.hid (fun (W : World) (K : Nat) (hK : K < (d.bytes Q).size) (y : UInt8) (hy : y ≠ (d.bytes Q)[K]'hK) => (show Calls Try.prog 10 #[.string (setB (d.bytes Q) K y), .string Q] W fun e w' => ∃ f o0 o1 o2 o3, e = .returned (.tuple #[.agg #[.int .i64 o0, .int .i64 o1, .int .u32 (o2 : Nat), .string o3], .iface 59 (.pointer (some ⟨f, 0, none⟩))]) ∧ Below W.heap.size W w' from by
    have hn := bytes_turned d Q hQe K hK y hy
    refine (U.parse (setB (d.bytes Q) K y) Q W (by rw [setB_size]; omega) hQp).mono ?_
    rintro e w' ⟨x, rfl, he, b⟩
    obtain ⟨f, rfl⟩ := errv_some he hn
    have hm : mans Q (setB (d.bytes Q) K y) = ms0 := by unfold mans; rw [if_neg hn]
    rw [hm]
    exact ⟨f, 0, 0, 0, ⟨#[]⟩, rfl, b⟩))
  have HS := Lib.hid (fun K y => show setB (d.bytes Q) K y = ⟨((d.bytes Q).data.toList.set K y).toArray⟩ from rfl)
  obtain ⟨X, hX⟩ : ∃ X, X = d.bytes Q := ⟨_, rfl⟩
  rw [← hX] at HP HT HS hXs
  rw [← hX]
  have hXz : X.size = 8 + x3.size := by rw [hXs, HX.out.2.2.2]
  have hN8 : 8 ≤ X.size := by omega
  have hN9 : X.size ≤ 78000 := by omega
  clear hX he ho hXs hw hd7 hx
  go_wp2_with fail
  refine (HP.out _).mono ?_
  rintro e w3 ⟨rfl, b3⟩
  have HK4 := Lib.hid ((HK2.out.below b3 (Nat.le_refl _)).new 26 ([.int .i64 x0, .int .i64 x1, .int .u32 (x2 : Nat), .string x3] : List Value))
  clear b3 HK2 HP
  generalize hw4 : w3.alloc (.cells #[.int .i64 x0, .int .i64 x1, .int .u32 (x2 : Nat), .string x3] 26) = w4 at *
  go_upto_region 9 with (fail)
  clear hw4
  have r0 := HK4.out.hd.at (i := 0) rfl
  have r1 := HK4.out.hd.at (i := 1) rfl
  have r2 := HK4.out.hd.at (i := 2) rfl
  have r3 := HK4.out.hd.at (i := 3) rfl
  have c0 := HK4.out.tl.hd.at (i := 0) rfl
  have c1 := HK4.out.tl.hd.at (i := 1) rfl
  have c2 := HK4.out.tl.hd.at (i := 2) rfl
  have c3 := HK4.out.tl.hd.at (i := 3) rfl
  have hnq := fun W => nqlMs x0 x1 (x2 : Nat) x3 W
  have kA : IntKind.i64.wrap (8 + (x3.size : Int)) = (X.size : Int) := by rw [IntWalk.i64_in _ (by omega)]; omega
  have HXZ := Lib.hid hXz
  clear hXz
  go_upto_region 11 with (fail)
  clear r0 r1 r2 r3 c0 c1 c2 c3 hnq kA
  have HB5 := Lib.hid HK4.out.2.1
  have HL5 := Lib.hid HK4.out.2.2
  clear HK4
  obtain ⟨K, hK, hKN⟩ : ∃ K : Nat, a % X.size = K ∧ K < X.size := ⟨a % X.size, rfl, Nat.mod_lt _ (by omega)⟩
  obtain ⟨r, hr, hr8⟩ : ∃ r : Nat, b % 8 = r ∧ r < 8 := ⟨b % 8, rfl, Nat.mod_lt _ (by omega)⟩
  have hm8 : 2 ^ r < 256 := Nat.pow_lt_pow_right (by decide) hr8
  obtain ⟨y, hy, hne, hyx⟩ := turn_bit (X[K]'hKN) (2 ^ r) _ rfl hm8 (Nat.two_pow_pos r)
  have HTk := Lib.hid (fun W => HT.out W K hKN y hne)
  have HSk := Lib.hid (HS.out K y)
  obtain ⟨g, cap2, w6, hconv, hrow, hb8⟩ := bytes_new X w4
  have HB6 := Lib.hid (HB5.out.trans (hb8.mono HL5.out))
  have HL6 := Lib.hid (Nat.le_trans HL5.out hb8.size)
  have HRow := Lib.hid hrow.1
  have HG := Lib.hid (Nat.le_trans HL5.out hrow.2)
  have hcell : w6.cell? ⟨g, K, none⟩ = some (.int .u8 (X[K].toNat : Int)) := (hrow.1 K (by simpa using hKN)).1
  have hfz := (hrow.1 K (by simpa using hKN)).2
  obtain ⟨m, hm⟩ : ∃ m : Nat, 2 ^ r = m := ⟨_, rfl⟩
  rw [hm] at hy hm8
  have hsh : IntKind.u8.wrap ((2 : Int) ^ r) = (m : Int) := by
    rw [show ((2 : Int) ^ r) = ((2 ^ r : Nat) : Int) by simp, hm]
    show (m : Int) % 256 = _
    omega
  have t1 : IntKind.i64.wrap (a : Int) = (a : Int) := IntWalk.i64_in _ (by omega)
  have t2 : (a : Int).tmod (X.size : Int) = (K : Int) := by rw [Int.tmod_eq_emod_of_nonneg (by omega)]; omega
  have t3 : (b : Int).tmod 8 = (r : Int) := by rw [Int.tmod_eq_emod_of_nonneg (by omega)]; omega
  have t4 : IntKind.u8.wrap (r : Int) = (r : Int) := IntWalk.u8_in _ (by omega)
  have t5 : IntKind.i64.wrap (K : Int) = (K : Int) := IntWalk.i64_in _ (by omega)
  have t6 : ((X.size : Int) == 0) = false := by rw [beq_eq_false_iff_ne]; omega
  have t7 : (K : Int) < (X.size : Int) := by omega
  have t8 : ¬ (X.size : Int) = 0 := by omega
  clear hrow hb8 HB5 HL5 hm hK hr hne HT HS hyx
  go_upto_region 14 with (fail)
  clear hsh hy hcell hfz hconv
  have hback : (convert 45 9 (.slice (some ⟨g, 0, none⟩) X.size cap2)).run Try.prog (w6.setCell ⟨g, K, none⟩ (.int .u8 (y.toNat : Int))) = .ok (.string (setB X K y)) (w6.setCell ⟨g, K, none⟩ (.int .u8 (y.toNat : Int))) := by
    rw [HSk.out]
    exact (HRow.out.set K (by rw [ba_size]; exact hKN) y _ rfl).str X.size cap2 (by rw [List.length_set, ba_size])
  have HB7 := Lib.hid (HB6.out.setCell (p := ⟨g, K, none⟩) HG.out (.int .u8 (y.toNat : Int)))
  have HL7 : Hid (w.heap.size ≤ (w6.setCell ⟨g, K, none⟩ (.int .u8 (y.toNat : Int))).heap.size) := Lib.hid (by have := HL6.out; simpa [World.setCell] using this)
  clear HB6 HL6 HRow HG
  generalize w6.setCell ⟨g, K, none⟩ (.int .u8 (y.toNat : Int)) = w7 at *
  generalize setB X K y = T at *
  go_wp2_with fail
  clear hback
  refine (HTk.out _).mono ?_
  rintro e w8 ⟨f, o0, o1, o2, o3, rfl, b8⟩
  have HKy := Lib.hid ((show Kp w w.heap.size [] w8 from ⟨fun x hx => (by cases hx), HB7.out.trans (b8.mono HL7.out), Nat.le_trans HL7.out b8.size⟩).new 26 ([.int .i64 o0, .int .i64 o1, .int .u32 (o2 : Nat), .string o3] : List Value))
  clear b8 HB7 HL7 HTk t1 t2 t3 t4 t5 t6 t7 t8 HSk
  generalize hw9 : w8.alloc (.cells #[.int .i64 o0, .int .i64 o1, .int .u32 (o2 : Nat), .string o3] 26) = w9 at *
  go_upto_region 17 with (fail)
  clear hw9
  have HPn := Lib.hid (fun (W : World) (h : mcode Q s ≠ 0) => (show Calls Try.prog 10 #[.string s, .string Q] W fun e w' => ∃ f o0 o1 o2 o3, (o0 = 0 ∧ o1 = 0 ∧ o2 = 0 ∧ o3 = ⟨#[]⟩) ∧ e = .returned (.tuple #[.agg #[.int .i64 o0, .int .i64 o1, .int .u32 (o2 : Nat), .string o3], .iface 59 (.pointer (some ⟨f, 0, none⟩))]) ∧ Below W.heap.size W w' from by
    refine (U.parse s Q W hs8 hQp).mono ?_
    rintro e w' ⟨x, rfl, he, b⟩
    obtain ⟨f, rfl⟩ := errv_some he h
    have hm : mans Q s = ms0 := by unfold mans; rw [if_neg h]
    rw [hm]
    exact ⟨f, 0, 0, 0, ⟨#[]⟩, ⟨rfl, rfl, rfl, rfl⟩, rfl, b⟩))
  have HPp := Lib.hid (fun (W : World) (h : mcode Q s = 0) => (show Calls Try.prog 10 #[.string s, .string Q] W fun e w' => e = .returned (.tuple #[.agg #[.int .i64 (mpkt s).kd, .int .i64 (mpkt s).cd, .int .u32 ((mpkt s).rs : Nat), .string (mpkt s).da], .nilIface]) ∧ Below W.heap.size W w' from by
    refine (U.parse s Q W hs8 hQp).mono ?_
    rintro e w' ⟨x, rfl, he, b⟩
    rw [h] at he
    have hm : mans Q s = mpkt s := by unfold mans; rw [if_pos h]
    rw [he.nil, hm]
    exact ⟨rfl, b⟩))
  have HBp := Lib.hid (fun (W : World) (h : 8 ≤ s.size) => (show Calls Try.prog 11 #[.agg #[.int .i64 (mpkt s).kd, .int .i64 (mpkt s).cd, .int .u32 ((mpkt s).rs : Nat), .string (mpkt s).da], .string Q] W fun e w' => e = .returned (.tuple #[.string ((mpkt s).bytes Q), .nilIface]) ∧ Below W.heap.size W w' from by
    have hf := mpkt_form s h 0
    have hda : (mpkt s).da.size ≤ 78000 := by show (s.extract 8 s.size).size ≤ 78000; simp; omega
    refine (U.bytes (mpkt s) Q W (mpkt_rs s) hda hQp).mono ?_
    rintro e w' ⟨x, rfl, he, b⟩
    rw [hf.1] at he
    have ho : (mpkt s).out Q = (mpkt s).bytes Q := by unfold Ms.out; rw [if_pos hf.1]
    rw [he.nil, ho]
    exact ⟨rfl, b⟩))
  by_cases hc : mcode Q s = 0
  case neg =>
    have HPq := Lib.hid (fun W => HPn.out W hc)
    clear hc HPn HPp HBp
    go_wp2_with fail
    refine (HPq.out _).mono ?_
    rintro e wA ⟨f, o0, o1, o2, o3, ho, rfl, bA⟩
    have hqz : ∀ W, (binOp .eql 26 (.agg #[.int .i64 o0, .int .i64 o1, .int .u32 (o2 : Nat), .string o3]) (.agg #[.int .i64 0, .int .i64 0, .int .u32 0, .string ⟨#[]⟩])).run Try.prog W = .ok (.bool true) W := fun W => by
      obtain ⟨rfl, rfl, rfl, rfl⟩ := ho
      exact eqlMs 0 0 0 ⟨#[]⟩ W
    clear ho
    have HKz := Lib.hid ((HKy.out.below bA (Nat.le_refl _)).new 26 ([.int .i64 o0, .int .i64 o1, .int .u32 (o2 : Nat), .string o3] : List Value))
    clear bA HKy HPq
    generalize hwB : wA.alloc (.cells #[.int .i64 o0, .int .i64 o1, .int .u32 (o2 : Nat), .string o3] 26) = wB at *
    go_upto_region 18 with (fail)
    clear hwB
    have z0 := HKz.out.hd.at (i := 0) rfl
    have z1 := HKz.out.hd.at (i := 1) rfl
    have z2 := HKz.out.hd.at (i := 2) rfl
    have z3 := HKz.out.hd.at (i := 3) rfl
    go_wp2_with fail
    go_ret
    exact ⟨rfl, HKz.out.2.1⟩
  have h8 : 8 ≤ s.size := by
    unfold mcode at hc
    split at hc
    · cases hc
    · omega
  have HPq := Lib.hid (fun W => HPp.out W hc)
  have HBq := Lib.hid (fun W => HBp.out W h8)
  have HF := mpkt_form s h8 ((mpkt s).sumN Q : Nat)
  obtain ⟨_, f1, f2, f3⟩ := HF
  have hY : (mpkt s).bytes Q = (mpkt s).form ((mpkt s).sumN Q : Nat) := rfl
  rw [← hY] at f1 f2 f3
  clear hc HPn HPp HBp hY
  generalize (mpkt s).kd = y0 at *
  generalize (mpkt s).cd = y1 at *
  generalize (mpkt s).rs = y2 at *
  generalize (mpkt s).da = y3 at *
  generalize (mpkt s).bytes Q = Y at *
  have f4 : Y.extract 4 Y.size = s.extract 4 s.size := by rw [f1]; exact f3
  obtain ⟨S2, hS2⟩ : ∃ M, s.extract 0 2 = M := ⟨_, rfl⟩
  obtain ⟨S4, hS4⟩ : ∃ M, s.extract 4 s.size = M := ⟨_, rfl⟩
  rw [hS2] at f2
  rw [hS4] at f3 f4
  have g1 : (((Y.size : Nat) : Int) == ((s.size : Nat) : Int)) = true := by rw [f1, beq_iff_eq]
  have g2 : (8 : Int) ≤ (s.size : Int) := by omega
  have g2d := decide_eq_true g2
  have g3 : (2 : Int) ≤ (s.size : Int) := by omega
  have g4 : (4 : Int) ≤ (s.size : Int) := by omega
  have g5 : (2 : Int) ≤ (Y.size : Int) := by omega
  have g6 : (4 : Int) ≤ (Y.size : Int) := by omega
  have HYs := Lib.hid f1
  have Hf3 := Lib.hid f3
  clear f1 f3 h8
  go_wp2_with fail
  refine (HPq.out _).mono ?_
  rintro e wA ⟨rfl, bA⟩
  have HKz := Lib.hid ((HKy.out.below bA (Nat.le_refl _)).new 26 ([.int .i64 y0, .int .i64 y1, .int .u32 (y2 : Nat), .string y3] : List Value))
  clear bA HKy HPq
  generalize hwB : wA.alloc (.cells #[.int .i64 y0, .int .i64 y1, .int .u32 (y2 : Nat), .string y3] 26) = wB at *
  go_upto_region 18 with (fail)
  clear hwB
  have z0 := HKz.out.hd.at (i := 0) rfl
  have z1 := HKz.out.hd.at (i := 1) rfl
  have z2 := HKz.out.hd.at (i := 2) rfl
  have z3 := HKz.out.hd.at (i := 3) rfl
  go_wp2_with fail
  refine (HBq.out _).mono ?_
  rintro e wC ⟨rfl, bC⟩
  have HKc := Lib.hid (HKz.out.below bC (Nat.le_refl _))
  clear bC HKz HBq z0 z1 z2 z3
  go_upto_region 21 with (fail)
  refine wp_region_noPanic ?_
  refine wp_region_held_drew (S := fun w' => Below w.heap.size w w' ∧ w.heap.size ≤ w'.heap.size) (by kernel_rfl) (⟨HKc.out.2.1.drew, HKc.out.2.2⟩) (fun hHeld => ?_)
  refine wpAnyH_take (i := 0) (oi := { dst := some 119, op := Op.move (Operand.tmp 22), type := 29, pos := "outright.go:36", after := #[], guard := none }) (v := ?_) rfl (by kernel_rfl) (by kernel_rfl) (by kernel_rfl) (fun _ _ _ h => h) (Or.inl ⟨by rfl, ?_⟩) (by assumption) ?_
  rotate_left
  · (intro ww hSw; (try dsimp only at hSw); go_simp; try with_reducible rfl)
  (try simp only [Act.put, List.setIfInBounds_toArray, List.set_cons_zero, List.set_cons_succ])
  refine wpAnyH_take (i := 1) (oi := { dst := some 120, op := Op.binOp BinOp.eql 29 (Operand.tmp 119) (Operand.const Value.nilIface) 29, type := 4, pos := "outright.go:36", after := #[{ on := 0, ground := Ground.data }], guard := none }) (v := ?_) rfl (by kernel_rfl) (by kernel_rfl) (by kernel_rfl) (fun _ _ _ h => h) (Or.inl ⟨by rfl, ?_⟩) (by assumption) ?_
  rotate_left
  · (intro ww hSw; (try dsimp only at hSw); go_simp; try with_reducible rfl)
  (try simp only [Act.put, List.setIfInBounds_toArray, List.set_cons_zero, List.set_cons_succ])
  refine wpAnyH_take (i := 2) (oi := { dst := some 121, op := Op.move (Operand.tmp 120), type := 4, pos := "outright.go:36", after := #[{ on := 1, ground := Ground.data }], guard := none }) (v := ?_) rfl (by kernel_rfl) (by kernel_rfl) (by kernel_rfl) (fun _ _ _ h => h) (Or.inl ⟨by rfl, ?_⟩) (by assumption) ?_
  rotate_left
  · (intro ww hSw; (try dsimp only at hSw); go_simp; try with_reducible rfl)
  (try simp only [Act.put, List.setIfInBounds_toArray, List.set_cons_zero, List.set_cons_succ])
  refine wpAnyH_take (i := 3) (oi := { dst := some 122, op := Op.move (Operand.tmp 21), type := 9, pos := "outright.go:36", after := #[{ on := 2, ground := Ground.guard }], guard := some (2, true) }) (v := ?_) rfl (by kernel_rfl) (by kernel_rfl) (by kernel_rfl) (fun _ _ _ h => h) (Or.inl ⟨by rfl, ?_⟩) (by assumption) ?_
  rotate_left
  · (intro ww hSw; (try dsimp only at hSw); go_simp; try with_reducible rfl)
  (try simp only [Act.put, List.setIfInBounds_toArray, List.set_cons_zero, List.set_cons_succ])
  refine wpAnyH_take (i := 4) (oi := { dst := some 123, op := Op.call { callee := Callee.builtin Builtin.len, args := #[Operand.tmp 122], argTypes := #[9] }, type := 3, pos := "outright.go:36", after := #[{ on := 3, ground := Ground.data }, { on := 2, ground := Ground.guard }], guard := some (2, true) }) (v := ?_) rfl (by kernel_rfl) (by kernel_rfl) (by kernel_rfl) (fun _ _ _ h => h) (Or.inl ⟨by rfl, ?_⟩) (by assumption) ?_
  rotate_left
  · (intro ww hSw; (try dsimp only at hSw); go_simp; try with_reducible rfl)
  (try simp only [Act.put, List.setIfInBounds_toArray, List.set_cons_zero, List.set_cons_succ])
  refine wpAnyH_take (i := 5) (oi := { dst := some 124, op := Op.move (Operand.tmp 1), type := 9, pos := "outright.go:36", after := #[{ on := 2, ground := Ground.guard }], guard := some (2, true) }) (v := ?_) rfl (by kernel_rfl) (by kernel_rfl) (by kernel_rfl) (fun _ _ _ h => h) (Or.inl ⟨by rfl, ?_⟩) (by assumption) ?_
  rotate_left
  · (intro ww hSw; (try dsimp only at hSw); go_simp; try with_reducible rfl)
  (try simp only [Act.put, List.setIfInBounds_toArray, List.set_cons_zero, List.set_cons_succ])
  refine wpAnyH_take (i := 6) (oi := { dst := some 125, op := Op.call { callee := Callee.builtin Builtin.len, args := #[Operand.tmp 124], argTypes := #[9] }, type := 3, pos := "outright.go:36", after := #[{ on := 5, ground := Ground.data }, { on := 2, ground := Ground.guard }], guard := some (2, true) }) (v := ?_) rfl (by kernel_rfl) (by kernel_rfl) (by kernel_rfl) (fun _ _ _ h => h) (Or.inl ⟨by rfl, ?_⟩) (by assumption) ?_
  rotate_left
  · (intro ww hSw; (try dsimp only at hSw); go_simp; try with_reducible rfl)
  (try simp only [Act.put, List.setIfInBounds_toArray, List.set_cons_zero, List.set_cons_succ])
  refine wpAnyH_take (i := 7) (oi := { dst := some 126, op := Op.binOp BinOp.eql 3 (Operand.tmp 123) (Operand.tmp 125) 3, type := 4, pos := "outright.go:36", after := #[{ on := 4, ground := Ground.data }, { on := 6, ground := Ground.data }, { on := 2, ground := Ground.guard }], guard := some (2, true) }) (v := ?_) rfl (by kernel_rfl) (by kernel_rfl) (by kernel_rfl) (fun _ _ _ h => h) (Or.inl ⟨by rfl, ?_⟩) (by assumption) ?_
  rotate_left
  · (intro ww hSw; (try dsimp only at hSw); go_simp; try with_reducible rfl)
  (try simp only [Act.put, List.setIfInBounds_toArray, List.set_cons_zero, List.set_cons_succ])
  refine wpAnyH_take (i := 8) (oi := { dst := some 127, op := Op.pick (Operand.tmp 121) (Operand.tmp 126) (Operand.const (Value.bool false)), type := 4, pos := "outright.go:36", after := #[{ on := 2, ground := Ground.data }, { on := 7, ground := Ground.data }], guard := none }) (v := ?_) rfl (by kernel_rfl) (by kernel_rfl) (by kernel_rfl) (fun _ _ _ h => h) (Or.inl ⟨by rfl, ?_⟩) (by assumption) ?_
  rotate_left
  · (intro ww hSw; (try dsimp only at hSw); go_simp; try with_reducible rfl)
  (try simp only [Act.put, List.setIfInBounds_toArray, List.set_cons_zero, List.set_cons_succ])
  refine wpAnyH_take (i := 9) (oi := { dst := some 128, op := Op.move (Operand.tmp 127), type := 4, pos := "outright.go:36", after := #[{ on := 8, ground := Ground.data }, { on := 2, ground := Ground.chain }], guard := none }) (v := ?_) rfl (by kernel_rfl) (by kernel_rfl) (by kernel_rfl) (fun _ _ _ h => h) (Or.inl ⟨by rfl, ?_⟩) (by assumption) ?_
  rotate_left
  · (intro ww hSw; (try dsimp only at hSw); go_simp; try with_reducible rfl)
  (try simp only [Act.put, List.setIfInBounds_toArray, List.set_cons_zero, List.set_cons_succ])
  refine wpAnyH_take (i := 10) (oi := { dst := some 129, op := Op.move (Operand.tmp 1), type := 9, pos := "outright.go:36", after := #[{ on := 9, ground := Ground.guard }], guard := some (9, true) }) (v := ?_) rfl (by kernel_rfl) (by kernel_rfl) (by kernel_rfl) (fun _ _ _ h => h) (Or.inl ⟨by rfl, ?_⟩) (by assumption) ?_
  rotate_left
  · (intro ww hSw; (try dsimp only at hSw); go_simp; try with_reducible rfl)
  (try simp only [Act.put, List.setIfInBounds_toArray, List.set_cons_zero, List.set_cons_succ])
  refine wpAnyH_take (i := 11) (oi := { dst := some 130, op := Op.call { callee := Callee.builtin Builtin.len, args := #[Operand.tmp 129], argTypes := #[9] }, type := 3, pos := "outright.go:36", after := #[{ on := 10, ground := Ground.data }, { on := 9, ground := Ground.guard }], guard := some (9, true) }) (v := ?_) rfl (by kernel_rfl) (by kernel_rfl) (by kernel_rfl) (fun _ _ _ h => h) (Or.inl ⟨by rfl, ?_⟩) (by assumption) ?_
  rotate_left
  · (intro ww hSw; (try dsimp only at hSw); go_simp; try with_reducible rfl)
  (try simp only [Act.put, List.setIfInBounds_toArray, List.set_cons_zero, List.set_cons_succ])
  refine wpAnyH_take (i := 12) (oi := { dst := some 131, op := Op.binOp BinOp.geq 3 (Operand.tmp 130) (Operand.const (Value.int IntKind.i64 8)) 3, type := 4, pos := "outright.go:36", after := #[{ on := 11, ground := Ground.data }, { on := 9, ground := Ground.guard }], guard := some (9, true) }) (v := ?_) rfl (by kernel_rfl) (by kernel_rfl) (by kernel_rfl) (fun _ _ _ h => h) (Or.inl ⟨by rfl, ?_⟩) (by assumption) ?_
  rotate_left
  · (intro ww hSw; (try dsimp only at hSw); go_simp; try with_reducible rfl)
  (try simp only [Act.put, List.setIfInBounds_toArray, List.set_cons_zero, List.set_cons_succ])
  refine wpAnyH_take (i := 13) (oi := { dst := some 132, op := Op.pick (Operand.tmp 128) (Operand.tmp 131) (Operand.const (Value.bool false)), type := 4, pos := "outright.go:36", after := #[{ on := 9, ground := Ground.data }, { on := 12, ground := Ground.data }], guard := none }) (v := ?_) rfl (by kernel_rfl) (by kernel_rfl) (by kernel_rfl) (fun _ _ _ h => h) (Or.inl ⟨by rfl, ?_⟩) (by assumption) ?_
  rotate_left
  · (intro ww hSw; (try dsimp only at hSw); go_simp; try with_reducible rfl)
  (try simp only [Act.put, List.setIfInBounds_toArray, List.set_cons_zero, List.set_cons_succ])
  refine wpAnyH_take (i := 14) (oi := { dst := some 133, op := Op.move (Operand.tmp 132), type := 4, pos := "outright.go:36", after := #[{ on := 13, ground := Ground.data }, { on := 9, ground := Ground.chain }], guard := none }) (v := ?_) rfl (by kernel_rfl) (by kernel_rfl) (by kernel_rfl) (fun _ _ _ h => h) (Or.inl ⟨by rfl, ?_⟩) (by assumption) ?_
  rotate_left
  · (intro ww hSw; (try dsimp only at hSw); go_simp; try with_reducible rfl)
  (try simp only [Act.put, List.setIfInBounds_toArray, List.set_cons_zero, List.set_cons_succ])
  refine wpAnyH_take (i := 15) (oi := { dst := some 134, op := Op.move (Operand.tmp 21), type := 9, pos := "outright.go:36", after := #[{ on := 14, ground := Ground.guard }], guard := some (14, true) }) (v := ?_) rfl (by kernel_rfl) (by kernel_rfl) (by kernel_rfl) (fun _ _ _ h => h) (Or.inl ⟨by rfl, ?_⟩) (by assumption) ?_
  rotate_left
  · (intro ww hSw; (try dsimp only at hSw); go_simp; try with_reducible rfl)
  (try simp only [Act.put, List.setIfInBounds_toArray, List.set_cons_zero, List.set_cons_succ])
  refine wpAnyH_take (i := 16) (oi := { dst := some 135, op := Op.slice 9 (Operand.tmp 134) none (some (Operand.const (Value.int IntKind.i64 2))) none, type := 9, pos := "outright.go:36", after := #[{ on := 15, ground := Ground.data }, { on := 14, ground := Ground.guard }], guard := some (14, true) }) (v := ?_) rfl (by kernel_rfl) (by kernel_rfl) (by kernel_rfl) (fun _ _ _ h => h) (Or.inl ⟨by rfl, ?_⟩) (by assumption) ?_
  rotate_left
  · (intro ww hSw; (try dsimp only at hSw); go_simp; try with_reducible rfl)
  (try simp only [Act.put, List.setIfInBounds_toArray, List.set_cons_zero, List.set_cons_succ])
  refine wpAnyH_take (i := 17) (oi := { dst := some 136, op := Op.move (Operand.tmp 1), type := 9, pos := "outright.go:36", after := #[{ on := 14, ground := Ground.guard }], guard := some (14, true) }) (v := ?_) rfl (by kernel_rfl) (by kernel_rfl) (by kernel_rfl) (fun _ _ _ h => h) (Or.inl ⟨by rfl, ?_⟩) (by assumption) ?_
  rotate_left
  · (intro ww hSw; (try dsimp only at hSw); go_simp; try with_reducible rfl)
  (try simp only [Act.put, List.setIfInBounds_toArray, List.set_cons_zero, List.set_cons_succ])
  refine wpAnyH_take (i := 18) (oi := { dst := some 137, op := Op.slice 9 (Operand.tmp 136) none (some (Operand.const (Value.int IntKind.i64 2))) none, type := 9, pos := "outright.go:36", after := #[{ on := 17, ground := Ground.data }, { on := 14, ground := Ground.guard }], guard := some (14, true) }) (v := ?_) rfl (by kernel_rfl) (by kernel_rfl) (by kernel_rfl) (fun _ _ _ h => h) (Or.inl ⟨by rfl, ?_⟩) (by assumption) ?_
  rotate_left
  · (intro ww hSw; (try dsimp only at hSw); go_simp; try with_reducible rfl)
  (try simp only [Act.put, List.setIfInBounds_toArray, List.set_cons_zero, List.set_cons_succ])
  refine wpAnyH_take (i := 19) (oi := { dst := some 138, op := Op.binOp BinOp.eql 9 (Operand.tmp 135) (Operand.tmp 137) 9, type := 4, pos := "outright.go:36", after := #[{ on := 16, ground := Ground.data }, { on := 18, ground := Ground.data }, { on := 14, ground := Ground.guard }], guard := some (14, true) }) (v := ?_) rfl (by kernel_rfl) (by kernel_rfl) (by kernel_rfl) (fun _ _ _ h => h) (Or.inl ⟨by rfl, ?_⟩) (by assumption) ?_
  rotate_left
  · (intro ww hSw; (try dsimp only at hSw); go_simp; try with_reducible rfl)
  (try simp only [Act.put, List.setIfInBounds_toArray, List.set_cons_zero, List.set_cons_succ])
  refine wpAnyH_take (i := 20) (oi := { dst := some 139, op := Op.pick (Operand.tmp 133) (Operand.tmp 138) (Operand.const (Value.bool false)), type := 4, pos := "outright.go:36", after := #[{ on := 14, ground := Ground.data }, { on := 19, ground := Ground.data }], guard := none }) (v := ?_) rfl (by kernel_rfl) (by kernel_rfl) (by kernel_rfl) (fun _ _ _ h => h) (Or.inl ⟨by rfl, ?_⟩) (by assumption) ?_
  rotate_left
  · (intro ww hSw; (try dsimp only at hSw); go_simp; try with_reducible rfl)
  (try simp only [Act.put, List.setIfInBounds_toArray, List.set_cons_zero, List.set_cons_succ])
  refine wpAnyH_take (i := 21) (oi := { dst := some 140, op := Op.move (Operand.tmp 139), type := 4, pos := "outright.go:36", after := #[{ on := 20, ground := Ground.data }, { on := 14, ground := Ground.chain }], guard := none }) (v := ?_) rfl (by kernel_rfl) (by kernel_rfl) (by kernel_rfl) (fun _ _ _ h => h) (Or.inl ⟨by rfl, ?_⟩) (by assumption) ?_
  rotate_left
  · (intro ww hSw; (try dsimp only at hSw); go_simp; try with_reducible rfl)
  (try simp only [Act.put, List.setIfInBounds_toArray, List.set_cons_zero, List.set_cons_succ])
  refine wpAnyH_take (i := 22) (oi := { dst := some 141, op := Op.move (Operand.tmp 21), type := 9, pos := "outright.go:36", after := #[{ on := 21, ground := Ground.guard }], guard := some (21, true) }) (v := ?_) rfl (by kernel_rfl) (by kernel_rfl) (by kernel_rfl) (fun _ _ _ h => h) (Or.inl ⟨by rfl, ?_⟩) (by assumption) ?_
  rotate_left
  · (intro ww hSw; (try dsimp only at hSw); go_simp; try with_reducible rfl)
  (try simp only [Act.put, List.setIfInBounds_toArray, List.set_cons_zero, List.set_cons_succ])
  refine wpAnyH_take (i := 23) (oi := { dst := some 142, op := Op.slice 9 (Operand.tmp 141) (some (Operand.const (Value.int IntKind.i64 4))) none none, type := 9, pos := "outright.go:36", after := #[{ on := 22, ground := Ground.data }, { on := 21, ground := Ground.guard }], guard := some (21, true) }) (v := ?_) rfl (by kernel_rfl) (by kernel_rfl) (by kernel_rfl) (fun _ _ _ h => h) (Or.inl ⟨by rfl, ?_⟩) (by assumption) ?_
  rotate_left
  · (intro ww hSw; (try dsimp only at hSw); go_simp; try with_reducible rfl)
  (try simp only [Act.put, List.setIfInBounds_toArray, List.set_cons_zero, List.set_cons_succ])
  refine wpAnyH_take (i := 24) (oi := { dst := some 143, op := Op.move (Operand.tmp 1), type := 9, pos := "outright.go:36", after := #[{ on := 21, ground := Ground.guard }], guard := some (21, true) }) (v := ?_) rfl (by kernel_rfl) (by kernel_rfl) (by kernel_rfl) (fun _ _ _ h => h) (Or.inl ⟨by rfl, ?_⟩) (by assumption) ?_
  rotate_left
  · (intro ww hSw; (try dsimp only at hSw); go_simp; try with_reducible rfl)
  (try simp only [Act.put, List.setIfInBounds_toArray, List.set_cons_zero, List.set_cons_succ])
  refine wpAnyH_take (i := 25) (oi := { dst := some 144, op := Op.slice 9 (Operand.tmp 143) (some (Operand.const (Value.int IntKind.i64 4))) none none, type := 9, pos := "outright.go:36", after := #[{ on := 24, ground := Ground.data }, { on := 21, ground := Ground.guard }], guard := some (21, true) }) (v := ?_) rfl (by kernel_rfl) (by kernel_rfl) (by kernel_rfl) (fun _ _ _ h => h) (Or.inl ⟨by rfl, ?_⟩) (by assumption) ?_
  rotate_left
  · (intro ww hSw; (try dsimp only at hSw); go_simp; try with_reducible rfl)
  (try simp only [Act.put, List.setIfInBounds_toArray, List.set_cons_zero, List.set_cons_succ])
  refine wpAnyH_take (i := 26) (oi := { dst := some 145, op := Op.binOp BinOp.eql 9 (Operand.tmp 142) (Operand.tmp 144) 9, type := 4, pos := "outright.go:36", after := #[{ on := 23, ground := Ground.data }, { on := 25, ground := Ground.data }, { on := 21, ground := Ground.guard }], guard := some (21, true) }) (v := ?_) rfl (by kernel_rfl) (by kernel_rfl) (by kernel_rfl) (fun _ _ _ h => h) (Or.inl ⟨by rfl, ?_⟩) (by assumption) ?_
  rotate_left
  · (intro ww hSw; (try dsimp only at hSw); go_simp; try with_reducible rfl)
  (try simp only [Act.put, List.setIfInBounds_toArray, List.set_cons_zero, List.set_cons_succ])
  refine wpAnyH_take (i := 27) (oi := { dst := some 146, op := Op.pick (Operand.tmp 140) (Operand.tmp 145) (Operand.const (Value.bool false)), type := 4, pos := "outright.go:36", after := #[{ on := 21, ground := Ground.data }, { on := 26, ground := Ground.data }], guard := none }) (v := ?_) rfl (by kernel_rfl) (by kernel_rfl) (by kernel_rfl) (fun _ _ _ h => h) (Or.inl ⟨by rfl, ?_⟩) (by assumption) ?_
  rotate_left
  · (intro ww hSw; (try dsimp only at hSw); go_simp; try with_reducible rfl)
  (try simp only [Act.put, List.setIfInBounds_toArray, List.set_cons_zero, List.set_cons_succ])
  refine wpAnyH_take (i := 28) (oi := { dst := some 10, op := Op.assign (Operand.tmp 146), type := 4, pos := "outright.go:36", after := #[{ on := 27, ground := Ground.data }, { on := 21, ground := Ground.chain }, { on := 0, ground := Ground.phase }, { on := 1, ground := Ground.phase }, { on := 2, ground := Ground.phase }, { on := 3, ground := Ground.phase }, { on := 4, ground := Ground.phase }, { on := 5, ground := Ground.phase }, { on := 6, ground := Ground.phase }, { on := 7, ground := Ground.phase }, { on := 8, ground := Ground.phase }, { on := 9, ground := Ground.phase }, { on := 10, ground := Ground.phase }, { on := 11, ground := Ground.phase }, { on := 12, ground := Ground.phase }, { on := 13, ground := Ground.phase }, { on := 14, ground := Ground.phase }, { on := 15, ground := Ground.phase }, { on := 16, ground := Ground.phase }, { on := 17, ground := Ground.phase }, { on := 18, ground := Ground.phase }, { on := 19, ground := Ground.phase }, { on := 20, ground := Ground.phase }, { on := 21, ground := Ground.phase }, { on := 22, ground := Ground.phase }, { on := 23, ground := Ground.phase }, { on := 24, ground := Ground.phase }, { on := 25, ground := Ground.phase }, { on := 26, ground := Ground.phase }, { on := 27, ground := Ground.phase }], guard := none }) (v := ?_) rfl (by kernel_rfl) (by kernel_rfl) (by kernel_rfl) (fun _ _ _ h => h) (Or.inl ⟨by rfl, ?_⟩) (by assumption) ?_
  rotate_left
  · (intro ww hSw; (try dsimp only at hSw); go_simp; try with_reducible rfl)
  (try simp only [Act.put, List.setIfInBounds_toArray, List.set_cons_zero, List.set_cons_succ])
  refine wpAnyH_done (by kernel_rfl) ?_ _
  refine NoPanic.normal ?_
  have HE := Lib.hid (And.left hHeld)
  clear hHeld
  go_wp2_with fail
  go_ret
  exact ⟨rfl, HE.out⟩
end Go.Proofs.Ytmfolkbmkfifcaa
