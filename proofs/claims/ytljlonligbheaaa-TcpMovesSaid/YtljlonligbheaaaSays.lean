/-
  Proved here: what tcp.Bytes answers; with that what the program's functions answer (tSays).
  Conditions: Raw of at most 70000 bytes, pseudo heads of at most 1000.
-/
import Derived.Test.YtljlonligbheaaaSaysBytes
namespace Go.Proofs.Ytljlonligbheaaa
open Go.RowKit

set_option maxRecDepth 100000 in
theorem bytes_bad (x0 x1 x2 : Int) (x3 ps : ByteArray) (w : World) (hs : x3.size ≤ 70000) (h : (Sg.mk x0 x1 x2 x3).why ≠ 0) :
    Calls Try.prog 12 #[.agg #[.int .i64 x0, .int .i64 x1, .int .i64 x2, .string x3], .string ps] w fun e w' => ∃ x, e = .returned (.tuple #[.string ⟨#[]⟩, x]) ∧ ErrV w.heap.size (Sg.mk x0 x1 x2 x3).why x w' ∧ Below w.heap.size w w' := by
  have HR := Lib.hid (fun W => refusal_any x0 x1 x2 x3 W hs)
  have HN := Lib.hid h
  have m : ((Sg.mk x0 x1 x2 x3).why != 0) = true := by rw [bne_iff_ne]; exact h
  clear h hs
  generalize (Sg.mk x0 x1 x2 x3).why = c at *
  have HD0 := Lib.hid (DS.new w x0 x1 x2 x3)
  go_enter Try.func12, Try.ntmps12
  go_wp2_with fail
  refine (HR.out _).mono ?_
  rintro e w1 ⟨rfl, b1⟩
  have HD1 := Lib.hid (HD0.out.below b1)
  clear b1 HD0 HR
  go_wp2_with fail
  refine (fault_any c _).mono ?_
  rintro e w2 ⟨rfl, hw2⟩
  have HE := Lib.hid (show ErrV w.heap.size c _ w2 from hw2 ▸ err_new c HN.out HD1.out.2.1)
  have HB := Lib.hid (show Below w.heap.size w w2 from hw2 ▸ HD1.out.1.alloc HD1.out.2.1 _)
  clear hw2
  go_wp2_with fail
  go_ret2
  exact ⟨_, rfl, HE.out, HB.out⟩
theorem of_four (a b c d : ByteArray) (w : World) (h : a.size + (b.size + (c.size + d.size)) ≤ 1099511627776) :
    Calls Try.prog 32 #[.slice (some ⟨w.heap.size, 0, none⟩) 4 4] (w.alloc (.cells #[.string a, .string b, .string c, .string d] 9)) fun e w' => e = .returned (.int .i64 (sumL (a ++ (b ++ c ++ d)).data.toList : Nat)) ∧ Below w.heap.size w w' := by
  have := of4 w a b c d h
  rwa [show allOf [a, b, c, d] = (a ++ (b ++ c ++ d)).data.toList by simp [allOf]] at this
set_option maxRecDepth 100000 in
set_option maxHeartbeats 1000000 in
theorem bytes_ok (x0 x1 x2 : Int) (x3 ps : ByteArray) (w : World) (hs : x3.size ≤ 70000) (hp : ps.size ≤ 1000) (h : (Sg.mk x0 x1 x2 x3).why = 0) :
    Calls Try.prog 12 #[.agg #[.int .i64 x0, .int .i64 x1, .int .i64 x2, .string x3], .string ps] w fun e w' => e = .returned (.tuple #[.string ((Sg.mk x0 x1 x2 x3).bytes ps), .nilIface]) ∧ Below w.heap.size w w' := by
  have hwz := why_zero h
  dsimp only at hwz
  obtain ⟨hz, ⟨p0, p1⟩, ⟨q0, q1⟩⟩ := hwz
  have h20 := (tcode_ok hz).1
  have hsl := sumN_le (Sg.mk x0 x1 x2 x3) ps
  have A1 := Lib.hid (fun W => bigc2 x0 W p0 (by omega))
  have A2 := Lib.hid (fun W => bigc2 x1 W q0 (by omega))
  have A3 := Lib.hid (fun W => bigc2 0 W (by decide) (by decide))
  have A4 := Lib.hid (fun W => bigc2 ((Sg.mk x0 x1 x2 x3).sumN ps : Nat) W (by omega) (by omega))
  have HBy : Hid ((Sg.mk x0 x1 x2 x3).bytes ps = tw x0 ++ tw x1 ++ x3.extract 4 16 ++ tw ((Sg.mk x0 x1 x2 x3).sumN ps : Nat) ++ x3.extract 18 x3.size) := Lib.hid rfl
  have HR : Hid (∀ W, Calls Try.prog 30 #[.agg #[.int .i64 x0, .int .i64 x1, .int .i64 x2, .string x3]] W fun e w' => e = .returned (.int .i64 0) ∧ Below W.heap.size W w') := Lib.hid (fun W => h ▸ refusal_any x0 x1 x2 x3 W hs)
  have HO : Hid (∀ W, Calls Try.prog 32 #[.slice (some ⟨W.heap.size, 0, none⟩) 4 4] (W.alloc (.cells #[.string ps, .string (tw x0 ++ tw x1 ++ x3.extract 4 16), .string (tw 0), .string (x3.extract 18 x3.size)] 9)) fun e w' => e = .returned (.int .i64 ((Sg.mk x0 x1 x2 x3).sumN ps : Nat)) ∧ Below W.heap.size W w') := Lib.hid (fun W => of_four ps (tw x0 ++ tw x1 ++ x3.extract 4 16) (tw 0) (x3.extract 18 x3.size) W (by rw [dcat_len, dcat_len, tw_size, tw_size, tw_size]; simp; omega))
  have zx : (x3.extract 4 16).size = 12 := by simp; omega
  have zy : (x3.extract 18 x3.size).size = x3.size - 18 := by simp
  have za : (tw x0 ++ tw x1 ++ x3.extract 4 16).size = 16 := by rw [dcat_len, dcat_len, zx]; rfl
  generalize (Sg.mk x0 x1 x2 x3).bytes ps = BB at *
  generalize (Sg.mk x0 x1 x2 x3).sumN ps = n at *
  have HD0 := Lib.hid (DS.new w x0 x1 x2 x3)
  have zc := dcat_len
  have zt := tw_size
  have i16 : (16 : Int) ≤ (x3.size : Int) := by omega
  have i18 : (18 : Int) ≤ (x3.size : Int) := by omega
  have z4 : ¬ 9223372036854775807 < 18 + (x3.size - 18) := by omega
  clear h p0 p1 q0 q1 hz hsl hp hs
  go_enter Try.func12, Try.ntmps12
  go_wp2_with fail
  refine (HR.out _).mono ?_
  rintro e w1 ⟨rfl, b1⟩
  have HD1 := Lib.hid (HD0.out.below b1)
  clear b1 HD0 HR
  go_upto_region 4 with (fail)
  refine wp_region_noPanic ?_
  refine wp_region_held_drew (S := fun w' => Below w.heap.size w w' ∧ w.heap.size ≤ w'.heap.size ∧ w'.cell? ⟨w.heap.size, 0, none⟩ = some (.int .i64 x0) ∧ w'.cell? ⟨w.heap.size, 1, none⟩ = some (.int .i64 x1) ∧ w'.cell? ⟨w.heap.size, 2, none⟩ = some (.int .i64 x2) ∧ w'.cell? ⟨w.heap.size, 3, none⟩ = some (.string x3)) (by kernel_rfl) (DS.drew HD1.out) (fun hHeld => ?_)
  refine wpAnyH_take (i := 0) (oi := { dst := some 16, op := Op.fieldAddr 23 (Operand.tmp 2) 0, type := 0, pos := "tcp.go:77", after := #[], guard := none }) (v := ?_) rfl (by kernel_rfl) (by kernel_rfl) (by kernel_rfl) (fun _ _ _ h => h) (Or.inl ⟨by rfl, ?_⟩) (by assumption) ?_
  rotate_left
  · (intro ww hSw; (try dsimp only at hSw); go_simp; try with_reducible rfl)
  (try simp only [Act.put, List.setIfInBounds_toArray, List.set_cons_zero, List.set_cons_succ])
  refine wpAnyH_take (i := 1) (oi := { dst := some 17, op := Op.load 3 (Operand.tmp 16), type := 3, pos := "tcp.go:77", after := #[{ on := 0, ground := Ground.data }], guard := none }) (v := ?_) rfl (by kernel_rfl) (by kernel_rfl) (by kernel_rfl) (fun _ _ _ h => h) (Or.inl ⟨by rfl, ?_⟩) (by assumption) ?_
  rotate_left
  · (intro ww hSw; (try dsimp only at hSw); go_simp; try with_reducible rfl)
  (try simp only [Act.put, List.setIfInBounds_toArray, List.set_cons_zero, List.set_cons_succ])
  refine wpAnyH_take (i := 3) (oi := { dst := some 19, op := Op.fieldAddr 23 (Operand.tmp 2) 1, type := 0, pos := "tcp.go:77", after := #[], guard := none }) (v := ?_) rfl (by kernel_rfl) (by kernel_rfl) (by kernel_rfl) (fun _ _ _ h => h) (Or.inl ⟨by rfl, ?_⟩) (by assumption) ?_
  rotate_left
  · (intro ww hSw; (try dsimp only at hSw); go_simp; try with_reducible rfl)
  (try simp only [Act.put, List.setIfInBounds_toArray, List.set_cons_zero, List.set_cons_succ])
  refine wpAnyH_take (i := 4) (oi := { dst := some 20, op := Op.load 3 (Operand.tmp 19), type := 3, pos := "tcp.go:77", after := #[{ on := 3, ground := Ground.data }], guard := none }) (v := ?_) rfl (by kernel_rfl) (by kernel_rfl) (by kernel_rfl) (fun _ _ _ h => h) (Or.inl ⟨by rfl, ?_⟩) (by assumption) ?_
  rotate_left
  · (intro ww hSw; (try dsimp only at hSw); go_simp; try with_reducible rfl)
  (try simp only [Act.put, List.setIfInBounds_toArray, List.set_cons_zero, List.set_cons_succ])
  refine wpAnyH_take (i := 7) (oi := { dst := some 23, op := Op.fieldAddr 23 (Operand.tmp 2) 3, type := 0, pos := "tcp.go:77", after := #[], guard := none }) (v := ?_) rfl (by kernel_rfl) (by kernel_rfl) (by kernel_rfl) (fun _ _ _ h => h) (Or.inl ⟨by rfl, ?_⟩) (by assumption) ?_
  rotate_left
  · (intro ww hSw; (try dsimp only at hSw); go_simp; try with_reducible rfl)
  (try simp only [Act.put, List.setIfInBounds_toArray, List.set_cons_zero, List.set_cons_succ])
  refine wpAnyH_take (i := 8) (oi := { dst := some 24, op := Op.load 9 (Operand.tmp 23), type := 9, pos := "tcp.go:77", after := #[{ on := 7, ground := Ground.data }], guard := none }) (v := ?_) rfl (by kernel_rfl) (by kernel_rfl) (by kernel_rfl) (fun _ _ _ h => h) (Or.inl ⟨by rfl, ?_⟩) (by assumption) ?_
  rotate_left
  · (intro ww hSw; (try dsimp only at hSw); go_simp; try with_reducible rfl)
  (try simp only [Act.put, List.setIfInBounds_toArray, List.set_cons_zero, List.set_cons_succ])
  refine wpAnyH_take (i := 9) (oi := { dst := some 25, op := Op.slice 9 (Operand.tmp 24) (some (Operand.const (Value.int IntKind.i64 4))) (some (Operand.const (Value.int IntKind.i64 16))) none, type := 9, pos := "tcp.go:77", after := #[{ on := 8, ground := Ground.data }], guard := none }) (v := ?_) rfl (by kernel_rfl) (by kernel_rfl) (by kernel_rfl) (fun _ _ _ h => h) (Or.inl ⟨by rfl, ?_⟩) (by assumption) ?_
  rotate_left
  · (intro ww hSw; (try dsimp only at hSw); go_simp; try with_reducible rfl)
  (try simp only [Act.put, List.setIfInBounds_toArray, List.set_cons_zero, List.set_cons_succ])
  refine wpAnyH_ready (rs := [2]) (by kernel_rfl) (by simp) ?_
  refine AllReadyH.cons (o := { dst := some 18, op := Op.call { callee := Callee.value (Operand.func 31), args := #[Operand.tmp 17], argTypes := #[3] }, type := 9, pos := "tcp.go:77", after := #[{ on := 1, ground := Ground.data }], guard := none }) rfl (fun K hK => ?_) AllReadyH.nil
  go_simp
  ((with_reducible refine (A1.out _).mono ?_); rintro e w9 ⟨rfl, hb9⟩)
  refine hK.out _ _ (DS.below hHeld hb9) (fun hHeld => ?_)
  clear hK K
  (try simp only [Act.put, List.setIfInBounds_toArray, List.set_cons_zero, List.set_cons_succ])
  refine wpAnyH_ready (rs := [5]) (by kernel_rfl) (by simp) ?_
  refine AllReadyH.cons (o := { dst := some 21, op := Op.call { callee := Callee.value (Operand.func 31), args := #[Operand.tmp 20], argTypes := #[3] }, type := 9, pos := "tcp.go:77", after := #[{ on := 4, ground := Ground.data }, { on := 2, ground := Ground.chain }], guard := none }) rfl (fun K hK => ?_) AllReadyH.nil
  go_simp
  ((with_reducible refine (A2.out _).mono ?_); rintro e w9 ⟨rfl, hb9⟩)
  refine hK.out _ _ (DS.below hHeld hb9) (fun hHeld => ?_)
  clear hK K
  (try simp only [Act.put, List.setIfInBounds_toArray, List.set_cons_zero, List.set_cons_succ])
  refine wpAnyH_take (i := 6) (oi := { dst := some 22, op := Op.binOp BinOp.add 9 (Operand.tmp 18) (Operand.tmp 21) 9, type := 9, pos := "tcp.go:77", after := #[{ on := 2, ground := Ground.data }, { on := 5, ground := Ground.data }], guard := none }) (v := ?_) rfl (by kernel_rfl) (by kernel_rfl) (by kernel_rfl) (fun _ _ _ h => h) (Or.inl ⟨by rfl, ?_⟩) (by assumption) ?_
  rotate_left
  · (intro ww hSw; (try dsimp only at hSw); go_simp; try with_reducible rfl)
  (try simp only [Act.put, List.setIfInBounds_toArray, List.set_cons_zero, List.set_cons_succ])
  refine wpAnyH_take (i := 10) (oi := { dst := some 26, op := Op.binOp BinOp.add 9 (Operand.tmp 22) (Operand.tmp 25) 9, type := 9, pos := "tcp.go:77", after := #[{ on := 6, ground := Ground.data }, { on := 9, ground := Ground.data }], guard := none }) (v := ?_) rfl (by kernel_rfl) (by kernel_rfl) (by kernel_rfl) (fun _ _ _ h => h) (Or.inl ⟨by rfl, ?_⟩) (by assumption) ?_
  rotate_left
  · (intro ww hSw; (try dsimp only at hSw); go_simp; try with_reducible rfl)
  (try simp only [Act.put, List.setIfInBounds_toArray, List.set_cons_zero, List.set_cons_succ])
  refine wpAnyH_take (i := 11) (oi := { dst := some 7, op := Op.assign (Operand.tmp 26), type := 9, pos := "tcp.go:77", after := #[{ on := 10, ground := Ground.data }, { on := 5, ground := Ground.chain }, { on := 0, ground := Ground.phase }, { on := 1, ground := Ground.phase }, { on := 2, ground := Ground.phase }, { on := 3, ground := Ground.phase }, { on := 4, ground := Ground.phase }, { on := 5, ground := Ground.phase }, { on := 6, ground := Ground.phase }, { on := 7, ground := Ground.phase }, { on := 8, ground := Ground.phase }, { on := 9, ground := Ground.phase }, { on := 10, ground := Ground.phase }], guard := none }) (v := ?_) rfl (by kernel_rfl) (by kernel_rfl) (by kernel_rfl) (fun _ _ _ h => h) (Or.inl ⟨by rfl, ?_⟩) (by assumption) ?_
  rotate_left
  · (intro ww hSw; (try dsimp only at hSw); go_simp; try with_reducible rfl)
  (try simp only [Act.put, List.setIfInBounds_toArray, List.set_cons_zero, List.set_cons_succ])
  refine wpAnyH_done (by kernel_rfl) ?_ _
  refine NoPanic.normal ?_
  have HD2 := Lib.hid (show DS w w.heap.size x0 x1 x2 x3 _ from hHeld)
  have c3 := hHeld.2.2.2.2.2
  clear hHeld HD1 A1 A2
  go_wp2_with fail
  refine (A3.out _).mono ?_
  rintro e w5 ⟨rfl, b5⟩
  have HB5 := Lib.hid (HD2.out.1.trans (b5.mono HD2.out.2.1))
  have HS5 := Lib.hid (Nat.le_trans HD2.out.2.1 b5.size)
  clear b5 HD2 A3 c3
  go_wp2_with fail
  refine (HO.out _).mono ?_
  rintro e w6 ⟨rfl, b6⟩
  have HB6 := Lib.hid (HB5.out.trans (b6.mono HS5.out))
  have HS6 := Lib.hid (Nat.le_trans HS5.out b6.size)
  clear b6 HB5 HS5 HO
  go_wp2_with fail
  refine (A4.out _).mono ?_
  rintro e w7 ⟨rfl, b7⟩
  have HB7 := Lib.hid (HB6.out.trans (b7.mono HS6.out))
  clear b7 HB6 HS6 A4
  go_wp2_with fail
  go_ret2
  exact ⟨by rw [HBy.out]; rfl, HB7.out⟩
theorem tSays : TSays where
  parse := parse_any
  check := check_any
  bytes := fun d ps W hs hp => by
    obtain ⟨x0, x1, x2, x3⟩ := d
    unfold Sg.out
    by_cases h : (Sg.mk x0 x1 x2 x3).why = 0
    · rw [if_pos h, h]
      refine (bytes_ok x0 x1 x2 x3 ps W hs hp h).mono ?_
      rintro e w' ⟨rfl, b⟩
      exact ⟨_, rfl, err_none, b⟩
    · rw [if_neg h]
      exact bytes_bad x0 x1 x2 x3 ps W hs h
end Go.Proofs.Ytljlonligbheaaa
