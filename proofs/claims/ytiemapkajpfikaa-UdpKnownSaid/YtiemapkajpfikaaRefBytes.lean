/-
  Proved here: what the document's two and Bytes answer.
  Conditions: Data of at most 70000 bytes, pseudo heads of at most 1000.
-/
import Derived.Test.YtiemapkajpfikaaRefCheck
namespace Go.Proofs.Ytiemapkajpfikaa
open Go.RowKit

/-- A number's two bytes. -/
def tw (x : Int) : ByteArray := strOfNums [x / 256, x % 256]
theorem tw_size (x : Int) : (tw x).size = 2 := rfl
set_option maxRecDepth 100000 in
theorem rtwo_any (x : Int) (w : World) (h0 : 0 ≤ x) (h1 : x ≤ 65535) :
    Calls Try.prog 31 #[.int .i64 x] w fun e w' => e = .returned (.string (tw x)) ∧ Below w.heap.size w w' := by
  have HT := Lib.hid (show tw x = strOfNums [x / 256, x % 256] from rfl)
  have k1 : x.tdiv 256 = x / 256 := Int.tdiv_eq_ediv_of_nonneg h0
  have k2 : x.tmod 256 = x % 256 := Int.tmod_eq_emod_of_nonneg h0
  have k3 : IntKind.i64.wrap (x / 256) = x / 256 := IntWalk.i64_in _ (by omega)
  have k4 : IntKind.i64.wrap (x % 256) = x % 256 := IntWalk.i64_in _ (by omega)
  have k5 : IntKind.u8.wrap (x / 256) = x / 256 := IntWalk.u8_in _ (by omega)
  have k6 : IntKind.u8.wrap (x % 256) = x % 256 := IntWalk.u8_in _ (by omega)
  have hcv := conv2
  go_enter Try.func31, Try.ntmps31
  go_wp2_with fail
  go_ret
  exact ⟨by rw [HT.out]; rfl, (Below.refl _ _).alloc (Nat.le_refl _) _⟩
/-- Why a datagram has no bytes: a code, or 0. -/
def Dg.why (d : Dg) : Int := if d.fr < 0 ∨ 65535 < d.fr ∨ d.dst < 0 ∨ 65535 < d.dst then 13 else if 65527 < d.data.size then 3 else 0
def Dg.ahead (d : Dg) : ByteArray := tw d.fr ++ tw d.dst ++ tw (8 + (d.data.size : Int))
/-- The sum that its bytes bear. -/
def Dg.sumN (d : Dg) (ps : ByteArray) : Nat := sumL (ps ++ d.ahead ++ tw 0 ++ d.data).data.toList
def Dg.sum1 (d : Dg) (ps : ByteArray) : Int := if d.sumN ps = 0 then 65535 else (d.sumN ps : Nat)
def Dg.bytes (d : Dg) (ps : ByteArray) : ByteArray := d.ahead ++ tw (d.sum1 ps) ++ d.data
/-- The bytes, or none. -/
def Dg.out (d : Dg) (ps : ByteArray) : ByteArray := if d.why = 0 then d.bytes ps else ⟨#[]⟩
theorem why_zero {d : Dg} (h : d.why = 0) : (0 ≤ d.fr ∧ d.fr ≤ 65535) ∧ (0 ≤ d.dst ∧ d.dst ≤ 65535) ∧ d.data.size ≤ 65527 := by
  unfold Dg.why at h
  split at h
  · cases h
  · split at h
    · cases h
    · omega
theorem ahead_size (d : Dg) : d.ahead.size = 6 := by
  unfold Dg.ahead
  rw [dcat_len, dcat_len, tw_size, tw_size, tw_size]
theorem sum1_le (d : Dg) (ps : ByteArray) : 0 ≤ d.sum1 ps ∧ d.sum1 ps ≤ 65535 := by
  unfold Dg.sum1
  have : d.sumN ps ≤ 65535 := sumL_le _
  split <;> omega
theorem cell_kept {w w' : World} {p : Addr} {v : Value} (h : w.cell? p = some v) (hb : Below w.heap.size w w') : w'.cell? p = some v := (hb.cell (World.block_lt_of_cell? w p h)).trans h
theorem two_strs {a b : ByteArray} {c : Int} (h : a = b) : Ending.returned (.tuple #[.string a, .int .i64 c]) = Ending.returned (.tuple #[.string b, .int .i64 c]) := by rw [h]
set_option maxRecDepth 100000 in
theorem rbytes_bad (d : Dg) (ps : ByteArray) (w : World) (hd : d.data.size ≤ 70000) (h : d.why ≠ 0) :
    Calls Try.prog 16 #[.agg #[.int .i64 d.fr, .int .i64 d.dst, .int .i64 d.sm, .string d.data], .string ps] w fun e w' => e = .returned (.tuple #[.string ⟨#[]⟩, .int .i64 d.why]) ∧ Below w.heap.size w w' := by
  obtain ⟨x0, x1, x2, x3⟩ := d
  dsimp only at hd
  have HW := Lib.hid (show (Dg.mk x0 x1 x2 x3).why = if x0 < 0 ∨ 65535 < x0 ∨ x1 < 0 ∨ 65535 < x1 then 13 else if 65527 < x3.size then 3 else 0 from rfl)
  have HN := Lib.hid h
  clear h
  dsimp only
  generalize (Dg.mk x0 x1 x2 x3).why = c at *
  go_enter Try.func16, Try.ntmps16
  by_cases a0 : x0 < 0
  · have d0 := decide_eq_true a0
    have HT : Hid (c = 13) := Lib.hid (by rw [HW.out, if_pos (.inl a0)])
    go_wp2_with fail
    go_ret2
    exact ⟨by rw [HT.out]; rfl, (Below.refl _ _).alloc (Nat.le_refl _) _⟩
  · have d0 := decide_eq_false a0
    by_cases a1 : 65535 < x0
    · have d1 := decide_eq_true a1
      have HT : Hid (c = 13) := Lib.hid (by rw [HW.out, if_pos (.inr (.inl a1))])
      go_wp2_with fail
      go_ret2
      exact ⟨by rw [HT.out]; rfl, (Below.refl _ _).alloc (Nat.le_refl _) _⟩
    · have d1 := decide_eq_false a1
      by_cases a2 : x1 < 0
      · have d2 := decide_eq_true a2
        have HT : Hid (c = 13) := Lib.hid (by rw [HW.out, if_pos (.inr (.inr (.inl a2)))])
        go_wp2_with fail
        go_ret2
        exact ⟨by rw [HT.out]; rfl, (Below.refl _ _).alloc (Nat.le_refl _) _⟩
      · have d2 := decide_eq_false a2
        by_cases a3 : 65535 < x1
        · have d3 := decide_eq_true a3
          have HT : Hid (c = 13) := Lib.hid (by rw [HW.out, if_pos (.inr (.inr (.inr a3)))])
          go_wp2_with fail
          go_ret2
          exact ⟨by rw [HT.out]; rfl, (Below.refl _ _).alloc (Nat.le_refl _) _⟩
        · have d3 := decide_eq_false a3
          by_cases a4 : 65527 < x3.size
          · have i4 : (65527 : Int) < (x3.size : Int) := by omega
            have d4 := decide_eq_true i4
            have HT : Hid (c = 3) := Lib.hid (by rw [HW.out, if_neg (by omega), if_pos a4])
            clear a4
            go_wp2_with fail
            go_ret2
            exact ⟨by rw [HT.out]; rfl, (Below.refl _ _).alloc (Nat.le_refl _) _⟩
          · exact absurd (by rw [HW.out, if_neg (by omega), if_neg a4]) HN.out
set_option maxRecDepth 100000 in
set_option maxHeartbeats 1000000 in
theorem rbytes_ok (d : Dg) (ps : ByteArray) (w : World) (hp : ps.size ≤ 1000) (h : d.why = 0) :
    Calls Try.prog 16 #[.agg #[.int .i64 d.fr, .int .i64 d.dst, .int .i64 d.sm, .string d.data], .string ps] w fun e w' => e = .returned (.tuple #[.string (d.bytes ps), .int .i64 0]) ∧ Below w.heap.size w w' := by
  obtain ⟨⟨p0, p1⟩, ⟨q0, q1⟩, hz⟩ := why_zero h
  have has := ahead_size d
  have HA := Lib.hid (show tw d.fr ++ tw d.dst ++ tw (8 + (d.data.size : Int)) = d.ahead from rfl)
  have HBy := Lib.hid (show d.bytes ps = d.ahead ++ tw (d.sum1 ps) ++ d.data from rfl)
  have HS1 : Hid (d.sum1 ps = if d.sumN ps = 0 then (65535 : Int) else ((d.sumN ps : Nat) : Int)) := Lib.hid rfl
  have hle := sumL_le (ps ++ d.ahead ++ tw 0 ++ d.data).data.toList
  have HO : Hid (∀ W, Calls Try.prog 30 #[.string (ps ++ d.ahead ++ tw 0 ++ d.data)] W fun e w' => e = .returned (.int .i64 (d.sumN ps : Nat)) ∧ Below W.heap.size W w') := Lib.hid (fun W => rof_any _ W (by rw [dcat_len, dcat_len, dcat_len, has, tw_size]; omega))
  have T1 := Lib.hid (fun W => rtwo_any d.fr W p0 p1)
  have T2 := Lib.hid (fun W => rtwo_any d.dst W q0 q1)
  have T3 := Lib.hid (fun W => rtwo_any (8 + (d.data.size : Int)) W (by omega) (by omega))
  have T4 := Lib.hid (fun W => rtwo_any 0 W (by omega) (by omega))
  have T5 : Hid (∀ W, Calls Try.prog 31 #[.int .i64 (d.sum1 ps)] W fun e w' => e = .returned (.string (tw (d.sum1 ps))) ∧ Below W.heap.size W w') := Lib.hid (fun W => rtwo_any (d.sum1 ps) W (sum1_le d ps).1 (sum1_le d ps).2)
  generalize d.bytes ps = BB at *
  generalize d.sum1 ps = s1 at *
  generalize d.sumN ps = n at *
  generalize d.ahead = ah at *
  obtain ⟨x0, x1, x2, x3⟩ := d
  dsimp only at *
  have d0 : decide (x0 < 0) = false := decide_eq_false (by omega)
  have d1 : decide (65535 < x0) = false := decide_eq_false (by omega)
  have d2 : decide (x1 < 0) = false := decide_eq_false (by omega)
  have d3 : decide (65535 < x1) = false := decide_eq_false (by omega)
  have a0 : ¬ x0 < 0 := by omega
  have a1 : ¬ 65535 < x0 := by omega
  have a2 : ¬ x1 < 0 := by omega
  have a3 : ¬ 65535 < x1 := by omega
  have a4 : ¬ (65527 : Int) < (x3.size : Int) := by omega
  have d4 : decide ((65527 : Int) < (x3.size : Int)) = false := decide_eq_false a4
  have kw : IntKind.i64.wrap (8 + (x3.size : Int)) = 8 + (x3.size : Int) := IntWalk.i64_in _ (by omega)
  have hk0 : Bk (w.alloc (.cells #[.int .i64 x0, .int .i64 x1, .int .i64 x2, .string x3] 23)) w.heap.size 23 ([.int .i64 x0, .int .i64 x1, .int .i64 x2, .string x3] : List Value).toArray := bk_new _ _ _
  have hb0 : Below w.heap.size w (w.alloc (.cells #[.int .i64 x0, .int .i64 x1, .int .i64 x2, .string x3] 23)) := (Below.refl _ _).alloc (Nat.le_refl _) _
  have c0 := hk0.at (i := 0) rfl
  have c1 := hk0.at (i := 1) rfl
  have c3 := hk0.at (i := 3) rfl
  have HL := Lib.hid hk0.lt
  have HB0 := Lib.hid hb0
  clear h p0 p1 q0 q1 hle hk0 hb0
  generalize hw1 : w.alloc (.cells #[.int .i64 x0, .int .i64 x1, .int .i64 x2, .string x3] 23) = w1 at *
  go_enter Try.func16, Try.ntmps16
  go_upto_region 1 with (fail)
  clear hw1
  have zc := dcat_len
  have zt := tw_size
  have z1 : ¬ 9223372036854775807 < ps.size + 6 := by omega
  have z2 : ¬ 9223372036854775807 < ps.size + 6 + 2 := by omega
  have z2b : ¬ 9223372036854775807 < ps.size + 8 := by omega
  have z3 : ¬ 9223372036854775807 < ps.size + 6 + 2 + x3.size := by omega
  have z3b : ¬ 9223372036854775807 < ps.size + 8 + x3.size := by omega
  have z4 : ¬ 9223372036854775807 < 6 + 2 + x3.size := by omega
  have z4b : ¬ 9223372036854775807 < 8 + x3.size := by omega
  go_upto_region 5 with (fail)
  refine wp_region_noPanic ?_
  refine wp_region_held_drew (S := fun w' => Below w.heap.size w w' ∧ w.heap.size ≤ w'.heap.size ∧ w'.cell? ⟨w.heap.size, 0, none⟩ = some (.int .i64 x0) ∧ w'.cell? ⟨w.heap.size, 1, none⟩ = some (.int .i64 x1) ∧ w'.cell? ⟨w.heap.size, 3, none⟩ = some (.string x3)) (by kernel_rfl) (⟨HB0.out.drew, Nat.le_of_lt HL.out, c0, c1, c3⟩) (fun hHeld => ?_)
  refine wpAnyH_take (i := 0) (oi := { dst := some 30, op := Op.fieldAddr 23 (Operand.tmp 2) 0, type := 0, pos := "ref.go:57", after := #[], guard := none }) (v := ?_) rfl (by kernel_rfl) (by kernel_rfl) (by kernel_rfl) (fun _ _ _ h => h) (Or.inl ⟨by rfl, ?_⟩) (by assumption) ?_
  rotate_left
  · (intro ww hSw; (try dsimp only at hSw); go_simp; try with_reducible rfl)
  (try simp only [Act.put, List.setIfInBounds_toArray, List.set_cons_zero, List.set_cons_succ])
  refine wpAnyH_take (i := 1) (oi := { dst := some 31, op := Op.load 3 (Operand.tmp 30), type := 3, pos := "ref.go:57", after := #[{ on := 0, ground := Ground.data }], guard := none }) (v := ?_) rfl (by kernel_rfl) (by kernel_rfl) (by kernel_rfl) (fun _ _ _ h => h) (Or.inl ⟨by rfl, ?_⟩) (by assumption) ?_
  rotate_left
  · (intro ww hSw; (try dsimp only at hSw); go_simp; try with_reducible rfl)
  (try simp only [Act.put, List.setIfInBounds_toArray, List.set_cons_zero, List.set_cons_succ])
  refine wpAnyH_take (i := 3) (oi := { dst := some 33, op := Op.fieldAddr 23 (Operand.tmp 2) 1, type := 0, pos := "ref.go:57", after := #[], guard := none }) (v := ?_) rfl (by kernel_rfl) (by kernel_rfl) (by kernel_rfl) (fun _ _ _ h => h) (Or.inl ⟨by rfl, ?_⟩) (by assumption) ?_
  rotate_left
  · (intro ww hSw; (try dsimp only at hSw); go_simp; try with_reducible rfl)
  (try simp only [Act.put, List.setIfInBounds_toArray, List.set_cons_zero, List.set_cons_succ])
  refine wpAnyH_take (i := 4) (oi := { dst := some 34, op := Op.load 3 (Operand.tmp 33), type := 3, pos := "ref.go:57", after := #[{ on := 3, ground := Ground.data }], guard := none }) (v := ?_) rfl (by kernel_rfl) (by kernel_rfl) (by kernel_rfl) (fun _ _ _ h => h) (Or.inl ⟨by rfl, ?_⟩) (by assumption) ?_
  rotate_left
  · (intro ww hSw; (try dsimp only at hSw); go_simp; try with_reducible rfl)
  (try simp only [Act.put, List.setIfInBounds_toArray, List.set_cons_zero, List.set_cons_succ])
  refine wpAnyH_take (i := 7) (oi := { dst := some 37, op := Op.fieldAddr 23 (Operand.tmp 2) 3, type := 0, pos := "ref.go:57", after := #[], guard := none }) (v := ?_) rfl (by kernel_rfl) (by kernel_rfl) (by kernel_rfl) (fun _ _ _ h => h) (Or.inl ⟨by rfl, ?_⟩) (by assumption) ?_
  rotate_left
  · (intro ww hSw; (try dsimp only at hSw); go_simp; try with_reducible rfl)
  (try simp only [Act.put, List.setIfInBounds_toArray, List.set_cons_zero, List.set_cons_succ])
  refine wpAnyH_take (i := 8) (oi := { dst := some 38, op := Op.load 9 (Operand.tmp 37), type := 9, pos := "ref.go:57", after := #[{ on := 7, ground := Ground.data }], guard := none }) (v := ?_) rfl (by kernel_rfl) (by kernel_rfl) (by kernel_rfl) (fun _ _ _ h => h) (Or.inl ⟨by rfl, ?_⟩) (by assumption) ?_
  rotate_left
  · (intro ww hSw; (try dsimp only at hSw); go_simp; try with_reducible rfl)
  (try simp only [Act.put, List.setIfInBounds_toArray, List.set_cons_zero, List.set_cons_succ])
  refine wpAnyH_take (i := 9) (oi := { dst := some 39, op := Op.call { callee := Callee.builtin Builtin.len, args := #[Operand.tmp 38], argTypes := #[9] }, type := 3, pos := "ref.go:57", after := #[{ on := 8, ground := Ground.data }], guard := none }) (v := ?_) rfl (by kernel_rfl) (by kernel_rfl) (by kernel_rfl) (fun _ _ _ h => h) (Or.inl ⟨by rfl, ?_⟩) (by assumption) ?_
  rotate_left
  · (intro ww hSw; (try dsimp only at hSw); go_simp; try with_reducible rfl)
  (try simp only [Act.put, List.setIfInBounds_toArray, List.set_cons_zero, List.set_cons_succ])
  refine wpAnyH_take (i := 10) (oi := { dst := some 40, op := Op.binOp BinOp.add 3 (Operand.const (Value.int IntKind.i64 8)) (Operand.tmp 39) 3, type := 3, pos := "ref.go:57", after := #[{ on := 9, ground := Ground.data }], guard := none }) (v := ?_) rfl (by kernel_rfl) (by kernel_rfl) (by kernel_rfl) (fun _ _ _ h => h) (Or.inl ⟨by rfl, ?_⟩) (by assumption) ?_
  rotate_left
  · (intro ww hSw; (try dsimp only at hSw); go_simp; try with_reducible rfl)
  (try simp only [Act.put, List.setIfInBounds_toArray, List.set_cons_zero, List.set_cons_succ])
  refine wpAnyH_ready (rs := [2]) (by kernel_rfl) (by simp) ?_
  refine AllReadyH.cons (o := { dst := some 32, op := Op.call { callee := Callee.value (Operand.func 31), args := #[Operand.tmp 31], argTypes := #[3] }, type := 9, pos := "ref.go:57", after := #[{ on := 1, ground := Ground.data }], guard := none }) rfl (fun K hK => ?_) AllReadyH.nil
  go_simp
  ((with_reducible refine (T1.out _).mono ?_); rintro e w9 ⟨rfl, hb9⟩)
  refine hK.out _ _ (⟨hHeld.1.trans (hb9.mono hHeld.2.1), Nat.le_trans hHeld.2.1 hb9.size, cell_kept hHeld.2.2.1 hb9, cell_kept hHeld.2.2.2.1 hb9, cell_kept hHeld.2.2.2.2 hb9⟩) (fun hHeld => ?_)
  clear hK K
  (try simp only [Act.put, List.setIfInBounds_toArray, List.set_cons_zero, List.set_cons_succ])
  refine wpAnyH_ready (rs := [5]) (by kernel_rfl) (by simp) ?_
  refine AllReadyH.cons (o := { dst := some 35, op := Op.call { callee := Callee.value (Operand.func 31), args := #[Operand.tmp 34], argTypes := #[3] }, type := 9, pos := "ref.go:57", after := #[{ on := 4, ground := Ground.data }, { on := 2, ground := Ground.chain }], guard := none }) rfl (fun K hK => ?_) AllReadyH.nil
  go_simp
  ((with_reducible refine (T2.out _).mono ?_); rintro e w9 ⟨rfl, hb9⟩)
  refine hK.out _ _ (⟨hHeld.1.trans (hb9.mono hHeld.2.1), Nat.le_trans hHeld.2.1 hb9.size, cell_kept hHeld.2.2.1 hb9, cell_kept hHeld.2.2.2.1 hb9, cell_kept hHeld.2.2.2.2 hb9⟩) (fun hHeld => ?_)
  clear hK K
  (try simp only [Act.put, List.setIfInBounds_toArray, List.set_cons_zero, List.set_cons_succ])
  refine wpAnyH_take (i := 6) (oi := { dst := some 36, op := Op.binOp BinOp.add 9 (Operand.tmp 32) (Operand.tmp 35) 9, type := 9, pos := "ref.go:57", after := #[{ on := 2, ground := Ground.data }, { on := 5, ground := Ground.data }], guard := none }) (v := ?_) rfl (by kernel_rfl) (by kernel_rfl) (by kernel_rfl) (fun _ _ _ h => h) (Or.inl ⟨by rfl, ?_⟩) (by assumption) ?_
  rotate_left
  · (intro ww hSw; (try dsimp only at hSw); go_simp; try with_reducible rfl)
  (try simp only [Act.put, List.setIfInBounds_toArray, List.set_cons_zero, List.set_cons_succ])
  refine wpAnyH_ready (rs := [11]) (by kernel_rfl) (by simp) ?_
  refine AllReadyH.cons (o := { dst := some 41, op := Op.call { callee := Callee.value (Operand.func 31), args := #[Operand.tmp 40], argTypes := #[3] }, type := 9, pos := "ref.go:57", after := #[{ on := 10, ground := Ground.data }, { on := 5, ground := Ground.chain }], guard := none }) rfl (fun K hK => ?_) AllReadyH.nil
  go_simp
  ((with_reducible refine (T3.out _).mono ?_); rintro e w9 ⟨rfl, hb9⟩)
  refine hK.out _ _ (⟨hHeld.1.trans (hb9.mono hHeld.2.1), Nat.le_trans hHeld.2.1 hb9.size, cell_kept hHeld.2.2.1 hb9, cell_kept hHeld.2.2.2.1 hb9, cell_kept hHeld.2.2.2.2 hb9⟩) (fun hHeld => ?_)
  clear hK K
  (try simp only [Act.put, List.setIfInBounds_toArray, List.set_cons_zero, List.set_cons_succ])
  refine wpAnyH_take (i := 12) (oi := { dst := some 42, op := Op.binOp BinOp.add 9 (Operand.tmp 36) (Operand.tmp 41) 9, type := 9, pos := "ref.go:57", after := #[{ on := 6, ground := Ground.data }, { on := 11, ground := Ground.data }], guard := none }) (v := ?_) rfl (by kernel_rfl) (by kernel_rfl) (by kernel_rfl) (fun _ _ _ h => h) (Or.inl ⟨by rfl, ?_⟩) (by assumption) ?_
  rotate_left
  · (intro ww hSw; (try dsimp only at hSw); go_simp; try with_reducible rfl)
  (try simp only [Act.put, List.setIfInBounds_toArray, List.set_cons_zero, List.set_cons_succ])
  refine wpAnyH_take (i := 13) (oi := { dst := some 6, op := Op.assign (Operand.tmp 42), type := 9, pos := "ref.go:57", after := #[{ on := 12, ground := Ground.data }, { on := 11, ground := Ground.chain }, { on := 0, ground := Ground.phase }, { on := 1, ground := Ground.phase }, { on := 2, ground := Ground.phase }, { on := 3, ground := Ground.phase }, { on := 4, ground := Ground.phase }, { on := 5, ground := Ground.phase }, { on := 6, ground := Ground.phase }, { on := 7, ground := Ground.phase }, { on := 8, ground := Ground.phase }, { on := 9, ground := Ground.phase }, { on := 10, ground := Ground.phase }, { on := 11, ground := Ground.phase }, { on := 12, ground := Ground.phase }], guard := none }) (v := ?_) rfl (by kernel_rfl) (by kernel_rfl) (by kernel_rfl) (fun _ _ _ h => h) (Or.inl ⟨by rfl, ?_⟩) (by assumption) ?_
  rotate_left
  · (intro ww hSw; (try dsimp only at hSw); go_simp; try with_reducible rfl)
  (try simp only [Act.put, List.setIfInBounds_toArray, List.set_cons_zero, List.set_cons_succ])
  refine wpAnyH_done (by kernel_rfl) ?_ _
  refine NoPanic.normal ?_
  have HH := Lib.hid hHeld
  clear hHeld T1 T2 T3 kw
  rw [HA.out]
  go_upto_region 6 with (fail)
  refine wp_region_noPanic ?_
  refine wp_region_held_drew (S := fun w' => Below w.heap.size w w' ∧ w.heap.size ≤ w'.heap.size ∧ w'.cell? ⟨w.heap.size, 0, none⟩ = some (.int .i64 x0) ∧ w'.cell? ⟨w.heap.size, 1, none⟩ = some (.int .i64 x1) ∧ w'.cell? ⟨w.heap.size, 3, none⟩ = some (.string x3)) (by kernel_rfl) (⟨HH.out.1.drew, HH.out.2⟩) (fun hHeld => ?_)
  refine wpAnyH_take (i := 0) (oi := { dst := some 43, op := Op.move (Operand.tmp 1), type := 9, pos := "ref.go:58", after := #[], guard := none }) (v := ?_) rfl (by kernel_rfl) (by kernel_rfl) (by kernel_rfl) (fun _ _ _ h => h) (Or.inl ⟨by rfl, ?_⟩) (by assumption) ?_
  rotate_left
  · (intro ww hSw; (try dsimp only at hSw); go_simp; try with_reducible rfl)
  (try simp only [Act.put, List.setIfInBounds_toArray, List.set_cons_zero, List.set_cons_succ])
  refine wpAnyH_take (i := 1) (oi := { dst := some 44, op := Op.move (Operand.tmp 6), type := 9, pos := "ref.go:58", after := #[], guard := none }) (v := ?_) rfl (by kernel_rfl) (by kernel_rfl) (by kernel_rfl) (fun _ _ _ h => h) (Or.inl ⟨by rfl, ?_⟩) (by assumption) ?_
  rotate_left
  · (intro ww hSw; (try dsimp only at hSw); go_simp; try with_reducible rfl)
  (try simp only [Act.put, List.setIfInBounds_toArray, List.set_cons_zero, List.set_cons_succ])
  refine wpAnyH_take (i := 2) (oi := { dst := some 45, op := Op.binOp BinOp.add 9 (Operand.tmp 43) (Operand.tmp 44) 9, type := 9, pos := "ref.go:58", after := #[{ on := 0, ground := Ground.data }, { on := 1, ground := Ground.data }], guard := none }) (v := ?_) rfl (by kernel_rfl) (by kernel_rfl) (by kernel_rfl) (fun _ _ _ h => h) (Or.inl ⟨by rfl, ?_⟩) (by assumption) ?_
  rotate_left
  · (intro ww hSw; (try dsimp only at hSw); go_simp; try with_reducible rfl)
  (try simp only [Act.put, List.setIfInBounds_toArray, List.set_cons_zero, List.set_cons_succ])
  refine wpAnyH_take (i := 5) (oi := { dst := some 48, op := Op.fieldAddr 23 (Operand.tmp 2) 3, type := 0, pos := "ref.go:58", after := #[], guard := none }) (v := ?_) rfl (by kernel_rfl) (by kernel_rfl) (by kernel_rfl) (fun _ _ _ h => h) (Or.inl ⟨by rfl, ?_⟩) (by assumption) ?_
  rotate_left
  · (intro ww hSw; (try dsimp only at hSw); go_simp; try with_reducible rfl)
  (try simp only [Act.put, List.setIfInBounds_toArray, List.set_cons_zero, List.set_cons_succ])
  refine wpAnyH_take (i := 6) (oi := { dst := some 49, op := Op.load 9 (Operand.tmp 48), type := 9, pos := "ref.go:58", after := #[{ on := 5, ground := Ground.data }], guard := none }) (v := ?_) rfl (by kernel_rfl) (by kernel_rfl) (by kernel_rfl) (fun _ _ _ h => h) (Or.inl ⟨by rfl, ?_⟩) (by assumption) ?_
  rotate_left
  · (intro ww hSw; (try dsimp only at hSw); go_simp; try with_reducible rfl)
  (try simp only [Act.put, List.setIfInBounds_toArray, List.set_cons_zero, List.set_cons_succ])
  refine wpAnyH_ready (rs := [3]) (by kernel_rfl) (by simp) ?_
  refine AllReadyH.cons (o := { dst := some 46, op := Op.call { callee := Callee.value (Operand.func 31), args := #[Operand.const (Value.int IntKind.i64 0)], argTypes := #[3] }, type := 9, pos := "ref.go:58", after := #[], guard := none }) rfl (fun K hK => ?_) AllReadyH.nil
  go_simp
  ((with_reducible refine (T4.out _).mono ?_); rintro e w9 ⟨rfl, hb9⟩)
  refine hK.out _ _ (⟨hHeld.1.trans (hb9.mono hHeld.2.1), Nat.le_trans hHeld.2.1 hb9.size, cell_kept hHeld.2.2.1 hb9, cell_kept hHeld.2.2.2.1 hb9, cell_kept hHeld.2.2.2.2 hb9⟩) (fun hHeld => ?_)
  clear hK K
  (try simp only [Act.put, List.setIfInBounds_toArray, List.set_cons_zero, List.set_cons_succ])
  refine wpAnyH_take (i := 4) (oi := { dst := some 47, op := Op.binOp BinOp.add 9 (Operand.tmp 45) (Operand.tmp 46) 9, type := 9, pos := "ref.go:58", after := #[{ on := 2, ground := Ground.data }, { on := 3, ground := Ground.data }], guard := none }) (v := ?_) rfl (by kernel_rfl) (by kernel_rfl) (by kernel_rfl) (fun _ _ _ h => h) (Or.inl ⟨by rfl, ?_⟩) (by assumption) ?_
  rotate_left
  · (intro ww hSw; (try dsimp only at hSw); go_simp; try with_reducible rfl)
  (try simp only [Act.put, List.setIfInBounds_toArray, List.set_cons_zero, List.set_cons_succ])
  refine wpAnyH_take (i := 7) (oi := { dst := some 50, op := Op.binOp BinOp.add 9 (Operand.tmp 47) (Operand.tmp 49) 9, type := 9, pos := "ref.go:58", after := #[{ on := 4, ground := Ground.data }, { on := 6, ground := Ground.data }], guard := none }) (v := ?_) rfl (by kernel_rfl) (by kernel_rfl) (by kernel_rfl) (fun _ _ _ h => h) (Or.inl ⟨by rfl, ?_⟩) (by assumption) ?_
  rotate_left
  · (intro ww hSw; (try dsimp only at hSw); go_simp; try with_reducible rfl)
  (try simp only [Act.put, List.setIfInBounds_toArray, List.set_cons_zero, List.set_cons_succ])
  refine wpAnyH_ready (rs := [8]) (by kernel_rfl) (by simp) ?_
  refine AllReadyH.cons (o := { dst := some 51, op := Op.call { callee := Callee.value (Operand.func 30), args := #[Operand.tmp 50], argTypes := #[9] }, type := 3, pos := "ref.go:58", after := #[{ on := 7, ground := Ground.data }, { on := 3, ground := Ground.chain }], guard := none }) rfl (fun K hK => ?_) AllReadyH.nil
  go_simp
  ((with_reducible refine (HO.out _).mono ?_); rintro e w9 ⟨rfl, hb9⟩)
  refine hK.out _ _ (⟨hHeld.1.trans (hb9.mono hHeld.2.1), Nat.le_trans hHeld.2.1 hb9.size, cell_kept hHeld.2.2.1 hb9, cell_kept hHeld.2.2.2.1 hb9, cell_kept hHeld.2.2.2.2 hb9⟩) (fun hHeld => ?_)
  clear hK K
  (try simp only [Act.put, List.setIfInBounds_toArray, List.set_cons_zero, List.set_cons_succ])
  refine wpAnyH_take (i := 9) (oi := { dst := some 7, op := Op.assign (Operand.tmp 51), type := 3, pos := "ref.go:58", after := #[{ on := 8, ground := Ground.data }, { on := 8, ground := Ground.chain }, { on := 0, ground := Ground.phase }, { on := 1, ground := Ground.phase }, { on := 2, ground := Ground.phase }, { on := 3, ground := Ground.phase }, { on := 4, ground := Ground.phase }, { on := 5, ground := Ground.phase }, { on := 6, ground := Ground.phase }, { on := 7, ground := Ground.phase }, { on := 8, ground := Ground.phase }], guard := none }) (v := ?_) rfl (by kernel_rfl) (by kernel_rfl) (by kernel_rfl) (fun _ _ _ h => h) (Or.inl ⟨by rfl, ?_⟩) (by assumption) ?_
  rotate_left
  · (intro ww hSw; (try dsimp only at hSw); go_simp; try with_reducible rfl)
  (try simp only [Act.put, List.setIfInBounds_toArray, List.set_cons_zero, List.set_cons_succ])
  refine wpAnyH_done (by kernel_rfl) ?_ _
  refine NoPanic.normal ?_
  have HH2 := Lib.hid hHeld
  clear hHeld T4 HO HH
  by_cases hn : n = 0
  · have m : (((n : Nat) : Int) == 0) = true := by rw [hn]; rfl
    have hs1 : s1 = 65535 := by rw [HS1.out, if_pos hn]
    rw [hs1] at T5 HBy
    have HBy := HBy
    clear hn HS1 hs1
    go_upto_region 9 with (fail)
    refine wp_region_noPanic ?_
    refine wp_region_held_drew (S := fun w' => Below w.heap.size w w' ∧ w.heap.size ≤ w'.heap.size ∧ w'.cell? ⟨w.heap.size, 0, none⟩ = some (.int .i64 x0) ∧ w'.cell? ⟨w.heap.size, 1, none⟩ = some (.int .i64 x1) ∧ w'.cell? ⟨w.heap.size, 3, none⟩ = some (.string x3)) (by kernel_rfl) (⟨HH2.out.1.drew, HH2.out.2⟩) (fun hHeld => ?_)
    refine wpAnyH_take (i := 0) (oi := { dst := some 54, op := Op.move (Operand.tmp 6), type := 9, pos := "ref.go:62", after := #[], guard := none }) (v := ?_) rfl (by kernel_rfl) (by kernel_rfl) (by kernel_rfl) (fun _ _ _ h => h) (Or.inl ⟨by rfl, ?_⟩) (by assumption) ?_
    rotate_left
    · (intro ww hSw; (try dsimp only at hSw); go_simp; try with_reducible rfl)
    (try simp only [Act.put, List.setIfInBounds_toArray, List.set_cons_zero, List.set_cons_succ])
    refine wpAnyH_take (i := 1) (oi := { dst := some 55, op := Op.move (Operand.tmp 7), type := 3, pos := "ref.go:62", after := #[], guard := none }) (v := ?_) rfl (by kernel_rfl) (by kernel_rfl) (by kernel_rfl) (fun _ _ _ h => h) (Or.inl ⟨by rfl, ?_⟩) (by assumption) ?_
    rotate_left
    · (intro ww hSw; (try dsimp only at hSw); go_simp; try with_reducible rfl)
    (try simp only [Act.put, List.setIfInBounds_toArray, List.set_cons_zero, List.set_cons_succ])
    refine wpAnyH_take (i := 4) (oi := { dst := some 58, op := Op.fieldAddr 23 (Operand.tmp 2) 3, type := 0, pos := "ref.go:62", after := #[], guard := none }) (v := ?_) rfl (by kernel_rfl) (by kernel_rfl) (by kernel_rfl) (fun _ _ _ h => h) (Or.inl ⟨by rfl, ?_⟩) (by assumption) ?_
    rotate_left
    · (intro ww hSw; (try dsimp only at hSw); go_simp; try with_reducible rfl)
    (try simp only [Act.put, List.setIfInBounds_toArray, List.set_cons_zero, List.set_cons_succ])
    refine wpAnyH_take (i := 5) (oi := { dst := some 59, op := Op.load 9 (Operand.tmp 58), type := 9, pos := "ref.go:62", after := #[{ on := 4, ground := Ground.data }], guard := none }) (v := ?_) rfl (by kernel_rfl) (by kernel_rfl) (by kernel_rfl) (fun _ _ _ h => h) (Or.inl ⟨by rfl, ?_⟩) (by assumption) ?_
    rotate_left
    · (intro ww hSw; (try dsimp only at hSw); go_simp; try with_reducible rfl)
    (try simp only [Act.put, List.setIfInBounds_toArray, List.set_cons_zero, List.set_cons_succ])
    refine wpAnyH_ready (rs := [2]) (by kernel_rfl) (by simp) ?_
    refine AllReadyH.cons (o := { dst := some 56, op := Op.call { callee := Callee.value (Operand.func 31), args := #[Operand.tmp 55], argTypes := #[3] }, type := 9, pos := "ref.go:62", after := #[{ on := 1, ground := Ground.data }], guard := none }) rfl (fun K hK => ?_) AllReadyH.nil
    go_simp
    ((with_reducible refine (T5.out _).mono ?_); rintro e w9 ⟨rfl, hb9⟩)
    refine hK.out _ _ (⟨hHeld.1.trans (hb9.mono hHeld.2.1), Nat.le_trans hHeld.2.1 hb9.size, cell_kept hHeld.2.2.1 hb9, cell_kept hHeld.2.2.2.1 hb9, cell_kept hHeld.2.2.2.2 hb9⟩) (fun hHeld => ?_)
    clear hK K
    (try simp only [Act.put, List.setIfInBounds_toArray, List.set_cons_zero, List.set_cons_succ])
    refine wpAnyH_take (i := 3) (oi := { dst := some 57, op := Op.binOp BinOp.add 9 (Operand.tmp 54) (Operand.tmp 56) 9, type := 9, pos := "ref.go:62", after := #[{ on := 0, ground := Ground.data }, { on := 2, ground := Ground.data }], guard := none }) (v := ?_) rfl (by kernel_rfl) (by kernel_rfl) (by kernel_rfl) (fun _ _ _ h => h) (Or.inl ⟨by rfl, ?_⟩) (by assumption) ?_
    rotate_left
    · (intro ww hSw; (try dsimp only at hSw); go_simp; try with_reducible rfl)
    (try simp only [Act.put, List.setIfInBounds_toArray, List.set_cons_zero, List.set_cons_succ])
    refine wpAnyH_take (i := 6) (oi := { dst := some 60, op := Op.binOp BinOp.add 9 (Operand.tmp 57) (Operand.tmp 59) 9, type := 9, pos := "ref.go:62", after := #[{ on := 3, ground := Ground.data }, { on := 5, ground := Ground.data }], guard := none }) (v := ?_) rfl (by kernel_rfl) (by kernel_rfl) (by kernel_rfl) (fun _ _ _ h => h) (Or.inl ⟨by rfl, ?_⟩) (by assumption) ?_
    rotate_left
    · (intro ww hSw; (try dsimp only at hSw); go_simp; try with_reducible rfl)
    (try simp only [Act.put, List.setIfInBounds_toArray, List.set_cons_zero, List.set_cons_succ])
    refine wpAnyH_take (i := 7) (oi := { dst := some 4, op := Op.assign (Operand.tmp 60), type := 9, pos := "ref.go:62", after := #[{ on := 6, ground := Ground.data }, { on := 2, ground := Ground.chain }, { on := 0, ground := Ground.phase }, { on := 1, ground := Ground.phase }, { on := 2, ground := Ground.phase }, { on := 3, ground := Ground.phase }, { on := 4, ground := Ground.phase }, { on := 5, ground := Ground.phase }, { on := 6, ground := Ground.phase }], guard := none }) (v := ?_) rfl (by kernel_rfl) (by kernel_rfl) (by kernel_rfl) (fun _ _ _ h => h) (Or.inl ⟨by rfl, ?_⟩) (by assumption) ?_
    rotate_left
    · (intro ww hSw; (try dsimp only at hSw); go_simp; try with_reducible rfl)
    (try simp only [Act.put, List.setIfInBounds_toArray, List.set_cons_zero, List.set_cons_succ])
    refine wpAnyH_take (i := 8) (oi := { dst := some 5, op := Op.assign (Operand.const (Value.int IntKind.i64 0)), type := 3, pos := "ref.go:62", after := #[{ on := 7, ground := Ground.chain }, { on := 0, ground := Ground.phase }, { on := 1, ground := Ground.phase }, { on := 2, ground := Ground.phase }, { on := 3, ground := Ground.phase }, { on := 4, ground := Ground.phase }, { on := 5, ground := Ground.phase }, { on := 6, ground := Ground.phase }, { on := 7, ground := Ground.phase }], guard := none }) (v := ?_) rfl (by kernel_rfl) (by kernel_rfl) (by kernel_rfl) (fun _ _ _ h => h) (Or.inl ⟨by rfl, ?_⟩) (by assumption) ?_
    rotate_left
    · (intro ww hSw; (try dsimp only at hSw); go_simp; try with_reducible rfl)
    (try simp only [Act.put, List.setIfInBounds_toArray, List.set_cons_zero, List.set_cons_succ])
    refine wpAnyH_done (by kernel_rfl) ?_ _
    refine NoPanic.normal ?_
    have HE := Lib.hid (And.left hHeld)
    clear hHeld
    go_wp2_with fail
    go_ret2
    exact ⟨two_strs HBy.out.symm, HE.out⟩
  · have m : (((n : Nat) : Int) == 0) = false := by rw [beq_eq_false_iff_ne]; omega
    have hs1 : s1 = (n : Nat) := by rw [HS1.out, if_neg hn]
    rw [hs1] at T5 HBy
    clear hn HS1 hs1
    go_upto_region 9 with (fail)
    refine wp_region_noPanic ?_
    refine wp_region_held_drew (S := fun w' => Below w.heap.size w w' ∧ w.heap.size ≤ w'.heap.size ∧ w'.cell? ⟨w.heap.size, 0, none⟩ = some (.int .i64 x0) ∧ w'.cell? ⟨w.heap.size, 1, none⟩ = some (.int .i64 x1) ∧ w'.cell? ⟨w.heap.size, 3, none⟩ = some (.string x3)) (by kernel_rfl) (⟨HH2.out.1.drew, HH2.out.2⟩) (fun hHeld => ?_)
    refine wpAnyH_take (i := 0) (oi := { dst := some 54, op := Op.move (Operand.tmp 6), type := 9, pos := "ref.go:62", after := #[], guard := none }) (v := ?_) rfl (by kernel_rfl) (by kernel_rfl) (by kernel_rfl) (fun _ _ _ h => h) (Or.inl ⟨by rfl, ?_⟩) (by assumption) ?_
    rotate_left
    · (intro ww hSw; (try dsimp only at hSw); go_simp; try with_reducible rfl)
    (try simp only [Act.put, List.setIfInBounds_toArray, List.set_cons_zero, List.set_cons_succ])
    refine wpAnyH_take (i := 1) (oi := { dst := some 55, op := Op.move (Operand.tmp 7), type := 3, pos := "ref.go:62", after := #[], guard := none }) (v := ?_) rfl (by kernel_rfl) (by kernel_rfl) (by kernel_rfl) (fun _ _ _ h => h) (Or.inl ⟨by rfl, ?_⟩) (by assumption) ?_
    rotate_left
    · (intro ww hSw; (try dsimp only at hSw); go_simp; try with_reducible rfl)
    (try simp only [Act.put, List.setIfInBounds_toArray, List.set_cons_zero, List.set_cons_succ])
    refine wpAnyH_take (i := 4) (oi := { dst := some 58, op := Op.fieldAddr 23 (Operand.tmp 2) 3, type := 0, pos := "ref.go:62", after := #[], guard := none }) (v := ?_) rfl (by kernel_rfl) (by kernel_rfl) (by kernel_rfl) (fun _ _ _ h => h) (Or.inl ⟨by rfl, ?_⟩) (by assumption) ?_
    rotate_left
    · (intro ww hSw; (try dsimp only at hSw); go_simp; try with_reducible rfl)
    (try simp only [Act.put, List.setIfInBounds_toArray, List.set_cons_zero, List.set_cons_succ])
    refine wpAnyH_take (i := 5) (oi := { dst := some 59, op := Op.load 9 (Operand.tmp 58), type := 9, pos := "ref.go:62", after := #[{ on := 4, ground := Ground.data }], guard := none }) (v := ?_) rfl (by kernel_rfl) (by kernel_rfl) (by kernel_rfl) (fun _ _ _ h => h) (Or.inl ⟨by rfl, ?_⟩) (by assumption) ?_
    rotate_left
    · (intro ww hSw; (try dsimp only at hSw); go_simp; try with_reducible rfl)
    (try simp only [Act.put, List.setIfInBounds_toArray, List.set_cons_zero, List.set_cons_succ])
    refine wpAnyH_ready (rs := [2]) (by kernel_rfl) (by simp) ?_
    refine AllReadyH.cons (o := { dst := some 56, op := Op.call { callee := Callee.value (Operand.func 31), args := #[Operand.tmp 55], argTypes := #[3] }, type := 9, pos := "ref.go:62", after := #[{ on := 1, ground := Ground.data }], guard := none }) rfl (fun K hK => ?_) AllReadyH.nil
    go_simp
    ((with_reducible refine (T5.out _).mono ?_); rintro e w9 ⟨rfl, hb9⟩)
    refine hK.out _ _ (⟨hHeld.1.trans (hb9.mono hHeld.2.1), Nat.le_trans hHeld.2.1 hb9.size, cell_kept hHeld.2.2.1 hb9, cell_kept hHeld.2.2.2.1 hb9, cell_kept hHeld.2.2.2.2 hb9⟩) (fun hHeld => ?_)
    clear hK K
    (try simp only [Act.put, List.setIfInBounds_toArray, List.set_cons_zero, List.set_cons_succ])
    refine wpAnyH_take (i := 3) (oi := { dst := some 57, op := Op.binOp BinOp.add 9 (Operand.tmp 54) (Operand.tmp 56) 9, type := 9, pos := "ref.go:62", after := #[{ on := 0, ground := Ground.data }, { on := 2, ground := Ground.data }], guard := none }) (v := ?_) rfl (by kernel_rfl) (by kernel_rfl) (by kernel_rfl) (fun _ _ _ h => h) (Or.inl ⟨by rfl, ?_⟩) (by assumption) ?_
    rotate_left
    · (intro ww hSw; (try dsimp only at hSw); go_simp; try with_reducible rfl)
    (try simp only [Act.put, List.setIfInBounds_toArray, List.set_cons_zero, List.set_cons_succ])
    refine wpAnyH_take (i := 6) (oi := { dst := some 60, op := Op.binOp BinOp.add 9 (Operand.tmp 57) (Operand.tmp 59) 9, type := 9, pos := "ref.go:62", after := #[{ on := 3, ground := Ground.data }, { on := 5, ground := Ground.data }], guard := none }) (v := ?_) rfl (by kernel_rfl) (by kernel_rfl) (by kernel_rfl) (fun _ _ _ h => h) (Or.inl ⟨by rfl, ?_⟩) (by assumption) ?_
    rotate_left
    · (intro ww hSw; (try dsimp only at hSw); go_simp; try with_reducible rfl)
    (try simp only [Act.put, List.setIfInBounds_toArray, List.set_cons_zero, List.set_cons_succ])
    refine wpAnyH_take (i := 7) (oi := { dst := some 4, op := Op.assign (Operand.tmp 60), type := 9, pos := "ref.go:62", after := #[{ on := 6, ground := Ground.data }, { on := 2, ground := Ground.chain }, { on := 0, ground := Ground.phase }, { on := 1, ground := Ground.phase }, { on := 2, ground := Ground.phase }, { on := 3, ground := Ground.phase }, { on := 4, ground := Ground.phase }, { on := 5, ground := Ground.phase }, { on := 6, ground := Ground.phase }], guard := none }) (v := ?_) rfl (by kernel_rfl) (by kernel_rfl) (by kernel_rfl) (fun _ _ _ h => h) (Or.inl ⟨by rfl, ?_⟩) (by assumption) ?_
    rotate_left
    · (intro ww hSw; (try dsimp only at hSw); go_simp; try with_reducible rfl)
    (try simp only [Act.put, List.setIfInBounds_toArray, List.set_cons_zero, List.set_cons_succ])
    refine wpAnyH_take (i := 8) (oi := { dst := some 5, op := Op.assign (Operand.const (Value.int IntKind.i64 0)), type := 3, pos := "ref.go:62", after := #[{ on := 7, ground := Ground.chain }, { on := 0, ground := Ground.phase }, { on := 1, ground := Ground.phase }, { on := 2, ground := Ground.phase }, { on := 3, ground := Ground.phase }, { on := 4, ground := Ground.phase }, { on := 5, ground := Ground.phase }, { on := 6, ground := Ground.phase }, { on := 7, ground := Ground.phase }], guard := none }) (v := ?_) rfl (by kernel_rfl) (by kernel_rfl) (by kernel_rfl) (fun _ _ _ h => h) (Or.inl ⟨by rfl, ?_⟩) (by assumption) ?_
    rotate_left
    · (intro ww hSw; (try dsimp only at hSw); go_simp; try with_reducible rfl)
    (try simp only [Act.put, List.setIfInBounds_toArray, List.set_cons_zero, List.set_cons_succ])
    refine wpAnyH_done (by kernel_rfl) ?_ _
    refine NoPanic.normal ?_
    have HE := Lib.hid (And.left hHeld)
    clear hHeld
    go_wp2_with fail
    go_ret2
    exact ⟨two_strs HBy.out.symm, HE.out⟩
theorem rbytes_any (d : Dg) (ps : ByteArray) (w : World) (hd : d.data.size ≤ 70000) (hp : ps.size ≤ 1000) :
    Calls Try.prog 16 #[.agg #[.int .i64 d.fr, .int .i64 d.dst, .int .i64 d.sm, .string d.data], .string ps] w fun e w' => e = .returned (.tuple #[.string (d.out ps), .int .i64 d.why]) ∧ Below w.heap.size w w' := by
  unfold Dg.out
  by_cases h : d.why = 0
  · rw [if_pos h, h]
    exact rbytes_ok d ps w hp h
  · rw [if_neg h]
    exact rbytes_bad d ps w hd h
end Go.Proofs.Ytiemapkajpfikaa
