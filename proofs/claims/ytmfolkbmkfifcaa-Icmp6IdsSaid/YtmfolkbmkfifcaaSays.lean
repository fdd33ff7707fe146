/-
  Proved here: what the program's Bytes answers; with that what its five functions answer (mSays).
  Conditions: data of at most 78000 bytes; Rest fits its places.
-/
import Derived.Test.YtmfolkbmkfifcaaSaysBytes
namespace Go.Proofs.Ytmfolkbmkfifcaa
open Go.RowKit

theorem of_five (p a b c d : ByteArray) (w : World) (h : p.size + (a.size + (b.size + (c.size + d.size))) ≤ 1099511627776) :
    Calls Try.prog 27 #[.slice (some ⟨w.heap.size, 0, none⟩) 5 5] (w.alloc (.cells #[.string p, .string a, .string b, .string c, .string d] 9)) fun e w' => e = .returned (.int .i64 (sumL (p ++ (a ++ b ++ (c ++ d))).data.toList : Nat)) ∧ Below w.heap.size w w' := by
  have := of_new w [p, a, b, c, d] (by simp) (by rw [len_all5]; omega)
  rwa [show allOf [p, a, b, c, d] = (p ++ (a ++ b ++ (c ++ d))).data.toList by simp [allOf]] at this
theorem two_nums (a b : Int) : strOfNums [a] ++ strOfNums [b] = strOfNums [a, b] := rfl
set_option maxRecDepth 100000 in
set_option maxHeartbeats 1000000 in
theorem bytes_ok (x0 x1 : Int) (x2 : Nat) (x3 ps : ByteArray) (w : World) (hx : x2 < 4294967296) (hs : x3.size ≤ 78000) (hp : ps.size ≤ 1000) (h : (Ms.mk x0 x1 x2 x3).why = 0) :
    Calls Try.prog 11 #[.agg #[.int .i64 x0, .int .i64 x1, .int .u32 (x2 : Nat), .string x3], .string ps] w fun e w' => e = .returned (.tuple #[.string ((Ms.mk x0 x1 x2 x3).bytes ps), .nilIface]) ∧ Below w.heap.size w w' := by
  have hwz := why_zero h
  dsimp only at hwz
  obtain ⟨⟨p0, p1⟩, ⟨q0, q1⟩⟩ := hwz
  have hsl := sumN_le (Ms.mk x0 x1 x2 x3) ps
  have hwb := why_byte x0 x1 x2 x3
  rw [h] at hwb
  have HA := Lib.hid (fun W => isByte_any x0 W)
  have HB := Lib.hid (fun W => isByte_any x1 W)
  have B0 : byteB x0 = true := by unfold byteB; rw [decide_eq_true p0, decide_eq_true p1]; rfl
  have B1 : byteB x1 = true := by unfold byteB; rw [decide_eq_true q0, decide_eq_true q1]; rfl
  rw [B0] at HA
  rw [B1] at HB
  have A1 := Lib.hid (fun W => bigc1 x0 W p0 (by omega))
  have A2 := Lib.hid (fun W => bigc1 x1 W q0 (by omega))
  have A3 := Lib.hid (fun W => bigc4 (x2 : Nat) W (by omega) (by omega))
  have A4 := Lib.hid (fun W => bigc2 0 W (by decide) (by decide))
  have A5 := Lib.hid (fun W => bigc2 ((Ms.mk x0 x1 x2 x3).sumN ps : Nat) W (by omega) (by omega))
  have HBy : Hid ((Ms.mk x0 x1 x2 x3).bytes ps = strOfNums [x0] ++ strOfNums [x1] ++ tw ((Ms.mk x0 x1 x2 x3).sumN ps : Nat) ++ strOfNums [((x2 : Nat) : Int) / 16777216, ((x2 : Nat) : Int) / 65536 % 256, ((x2 : Nat) : Int) / 256 % 256, ((x2 : Nat) : Int) % 256] ++ x3) := Lib.hid (by rw [two_nums, ByteArray.append_assoc]; rfl)
  have HO : Hid (∀ W, Calls Try.prog 27 #[.slice (some ⟨W.heap.size, 0, none⟩) 5 5] (W.alloc (.cells #[.string ps, .string (strOfNums [x0] ++ strOfNums [x1]), .string (tw 0), .string (strOfNums [((x2 : Nat) : Int) / 16777216, ((x2 : Nat) : Int) / 65536 % 256, ((x2 : Nat) : Int) / 256 % 256, ((x2 : Nat) : Int) % 256]), .string x3] 9)) fun e w' => e = .returned (.int .i64 ((Ms.mk x0 x1 x2 x3).sumN ps : Nat)) ∧ Below W.heap.size W w') := Lib.hid (fun W => by
    have hh := of_five ps (strOfNums [x0] ++ strOfNums [x1]) (tw 0) (strOfNums [((x2 : Nat) : Int) / 16777216, ((x2 : Nat) : Int) / 65536 % 256, ((x2 : Nat) : Int) / 256 % 256, ((x2 : Nat) : Int) % 256]) x3 W (by rw [dcat_len]; show _ + (1 + 1 + (2 + (4 + _))) ≤ _; omega)
    have e : ps ++ ((strOfNums [x0] ++ strOfNums [x1]) ++ tw 0 ++ (strOfNums [((x2 : Nat) : Int) / 16777216, ((x2 : Nat) : Int) / 65536 % 256, ((x2 : Nat) : Int) / 256 % 256, ((x2 : Nat) : Int) % 256] ++ x3)) = ps ++ (Ms.mk x0 x1 x2 x3).form 0 := rfl
    rw [e] at hh
    exact hh)
  have zc := dcat_len
  have zt := tw_size
  have s0 : (strOfNums [x0]).size = 1 := rfl
  have s1 : (strOfNums [x1]).size = 1 := rfl
  have s2 : (strOfNums [((x2 : Nat) : Int) / 16777216, ((x2 : Nat) : Int) / 65536 % 256, ((x2 : Nat) : Int) / 256 % 256, ((x2 : Nat) : Int) % 256]).size = 4 := rfl
  generalize (Ms.mk x0 x1 x2 x3).bytes ps = BB at *
  generalize (Ms.mk x0 x1 x2 x3).sumN ps = n at *
  generalize strOfNums [((x2 : Nat) : Int) / 16777216, ((x2 : Nat) : Int) / 65536 % 256, ((x2 : Nat) : Int) / 256 % 256, ((x2 : Nat) : Int) % 256] = F at *
  generalize strOfNums [x0] = a0 at *
  generalize strOfNums [x1] = a1 at *
  have z5 : ¬ 9223372036854775807 < 8 + x3.size := by omega
  have k0 : IntKind.i64.wrap ((x2 : Nat) : Int) = ((x2 : Nat) : Int) := IntWalk.i64_in _ (by omega)
  have HD0 := Lib.hid (DS.new w x0 x1 x2 x3)
  clear h p0 p1 q0 q1 hsl hwb B0 B1 hx
  go_enter Try.func11, Try.ntmps11
  go_upto_region 1 with (fail)
  generalize w.alloc (.cells #[.int .i64 x0, .int .i64 x1, .int .u32 (x2 : Nat), .string x3] 26) = w1 at *
  have c0 := HD0.out.2.2.1
  have c1 := HD0.out.2.2.2.1
  go_wp2_with fail
  refine (HA.out _).mono ?_
  rintro e w1b ⟨rfl, rfl⟩
  go_wp2_with fail
  refine (HB.out _).mono ?_
  rintro e w1b ⟨rfl, rfl⟩
  clear c0 c1 HA HB
  go_upto_region 3 with (fail)
  refine wp_region_noPanic ?_
  refine wp_region_held_drew (S := fun w' => Below w.heap.size w w' ∧ w.heap.size ≤ w'.heap.size ∧ w'.cell? ⟨w.heap.size, 0, none⟩ = some (.int .i64 x0) ∧ w'.cell? ⟨w.heap.size, 1, none⟩ = some (.int .i64 x1) ∧ w'.cell? ⟨w.heap.size, 2, none⟩ = some (.int .u32 (x2 : Nat)) ∧ w'.cell? ⟨w.heap.size, 3, none⟩ = some (.string x3)) (by kernel_rfl) (DS.drew HD0.out) (fun hHeld => ?_)
  refine wpAnyH_take (i := 0) (oi := { dst := some 20, op := Op.fieldAddr 26 (Operand.tmp 2) 0, type := 0, pos := "icmp6.go:57", after := #[], guard := none }) (v := ?_) rfl (by kernel_rfl) (by kernel_rfl) (by kernel_rfl) (fun _ _ _ h => h) (Or.inl ⟨by rfl, ?_⟩) (by assumption) ?_
  rotate_left
  · (intro ww hSw; (try dsimp only at hSw); go_simp; try with_reducible rfl)
  (try simp only [Act.put, List.setIfInBounds_toArray, List.set_cons_zero, List.set_cons_succ])
  refine wpAnyH_take (i := 1) (oi := { dst := some 21, op := Op.load 3 (Operand.tmp 20), type := 3, pos := "icmp6.go:57", after := #[{ on := 0, ground := Ground.data }], guard := none }) (v := ?_) rfl (by kernel_rfl) (by kernel_rfl) (by kernel_rfl) (fun _ _ _ h => h) (Or.inl ⟨by rfl, ?_⟩) (by assumption) ?_
  rotate_left
  · (intro ww hSw; (try dsimp only at hSw); go_simp; try with_reducible rfl)
  (try simp only [Act.put, List.setIfInBounds_toArray, List.set_cons_zero, List.set_cons_succ])
  refine wpAnyH_take (i := 3) (oi := { dst := some 23, op := Op.fieldAddr 26 (Operand.tmp 2) 1, type := 0, pos := "icmp6.go:57", after := #[], guard := none }) (v := ?_) rfl (by kernel_rfl) (by kernel_rfl) (by kernel_rfl) (fun _ _ _ h => h) (Or.inl ⟨by rfl, ?_⟩) (by assumption) ?_
  rotate_left
  · (intro ww hSw; (try dsimp only at hSw); go_simp; try with_reducible rfl)
  (try simp only [Act.put, List.setIfInBounds_toArray, List.set_cons_zero, List.set_cons_succ])
  refine wpAnyH_take (i := 4) (oi := { dst := some 24, op := Op.load 3 (Operand.tmp 23), type := 3, pos := "icmp6.go:57", after := #[{ on := 3, ground := Ground.data }], guard := none }) (v := ?_) rfl (by kernel_rfl) (by kernel_rfl) (by kernel_rfl) (fun _ _ _ h => h) (Or.inl ⟨by rfl, ?_⟩) (by assumption) ?_
  rotate_left
  · (intro ww hSw; (try dsimp only at hSw); go_simp; try with_reducible rfl)
  (try simp only [Act.put, List.setIfInBounds_toArray, List.set_cons_zero, List.set_cons_succ])
  refine wpAnyH_ready (rs := [2]) (by kernel_rfl) (by simp) ?_
  refine AllReadyH.cons (o := { dst := some 22, op := Op.call { callee := Callee.value (Operand.func 26), args := #[Operand.tmp 21, Operand.const (Value.int IntKind.i64 1)], argTypes := #[3, 3] }, type := 9, pos := "icmp6.go:57", after := #[{ on := 1, ground := Ground.data }], guard := none }) rfl (fun K hK => ?_) AllReadyH.nil
  go_simp
  ((with_reducible refine (A1.out _).mono ?_); rintro e w9 ⟨rfl, hb9⟩)
  refine hK.out _ _ (DS.below hHeld hb9) (fun hHeld => ?_)
  clear hK K
  (try simp only [Act.put, List.setIfInBounds_toArray, List.set_cons_zero, List.set_cons_succ])
  refine wpAnyH_ready (rs := [5]) (by kernel_rfl) (by simp) ?_
  refine AllReadyH.cons (o := { dst := some 25, op := Op.call { callee := Callee.value (Operand.func 26), args := #[Operand.tmp 24, Operand.const (Value.int IntKind.i64 1)], argTypes := #[3, 3] }, type := 9, pos := "icmp6.go:57", after := #[{ on := 4, ground := Ground.data }, { on := 2, ground := Ground.chain }], guard := none }) rfl (fun K hK => ?_) AllReadyH.nil
  go_simp
  ((with_reducible refine (A2.out _).mono ?_); rintro e w9 ⟨rfl, hb9⟩)
  refine hK.out _ _ (DS.below hHeld hb9) (fun hHeld => ?_)
  clear hK K
  (try simp only [Act.put, List.setIfInBounds_toArray, List.set_cons_zero, List.set_cons_succ])
  refine wpAnyH_take (i := 6) (oi := { dst := some 26, op := Op.binOp BinOp.add 9 (Operand.tmp 22) (Operand.tmp 25) 9, type := 9, pos := "icmp6.go:57", after := #[{ on := 2, ground := Ground.data }, { on := 5, ground := Ground.data }], guard := none }) (v := ?_) rfl (by kernel_rfl) (by kernel_rfl) (by kernel_rfl) (fun _ _ _ h => h) (Or.inl ⟨by rfl, ?_⟩) (by assumption) ?_
  rotate_left
  · (intro ww hSw; (try dsimp only at hSw); go_simp; try with_reducible rfl)
  (try simp only [Act.put, List.setIfInBounds_toArray, List.set_cons_zero, List.set_cons_succ])
  refine wpAnyH_take (i := 7) (oi := { dst := some 6, op := Op.assign (Operand.tmp 26), type := 9, pos := "icmp6.go:57", after := #[{ on := 6, ground := Ground.data }, { on := 5, ground := Ground.chain }, { on := 0, ground := Ground.phase }, { on := 1, ground := Ground.phase }, { on := 2, ground := Ground.phase }, { on := 3, ground := Ground.phase }, { on := 4, ground := Ground.phase }, { on := 5, ground := Ground.phase }, { on := 6, ground := Ground.phase }], guard := none }) (v := ?_) rfl (by kernel_rfl) (by kernel_rfl) (by kernel_rfl) (fun _ _ _ h => h) (Or.inl ⟨by rfl, ?_⟩) (by assumption) ?_
  rotate_left
  · (intro ww hSw; (try dsimp only at hSw); go_simp; try with_reducible rfl)
  (try simp only [Act.put, List.setIfInBounds_toArray, List.set_cons_zero, List.set_cons_succ])
  refine wpAnyH_done (by kernel_rfl) ?_ _
  refine NoPanic.normal ?_
  have HD2 := Lib.hid (show DS w w.heap.size x0 x1 x2 x3 _ from hHeld)
  have c2 := hHeld.2.2.2.2.1
  clear hHeld HD0 A1 A2
  go_wp2_with fail
  refine (A3.out _).mono ?_
  rintro e w5 ⟨rfl, b5⟩
  have HD3 := Lib.hid (HD2.out.below b5)
  clear b5 HD2 A3 c2
  go_upto_region 5 with (fail)
  refine wp_region_noPanic ?_
  refine wp_region_held_drew (S := fun w' => Below w.heap.size w w' ∧ w.heap.size ≤ w'.heap.size ∧ w'.cell? ⟨w.heap.size, 0, none⟩ = some (.int .i64 x0) ∧ w'.cell? ⟨w.heap.size, 1, none⟩ = some (.int .i64 x1) ∧ w'.cell? ⟨w.heap.size, 2, none⟩ = some (.int .u32 (x2 : Nat)) ∧ w'.cell? ⟨w.heap.size, 3, none⟩ = some (.string x3)) (by kernel_rfl) (DS.drew HD3.out) (fun hHeld => ?_)
  refine wpAnyH_take (i := 0) (oi := { dst := some 31, op := Op.move (Operand.tmp 1), type := 9, pos := "icmp6.go:59", after := #[], guard := none }) (v := ?_) rfl (by kernel_rfl) (by kernel_rfl) (by kernel_rfl) (fun _ _ _ h => h) (Or.inl ⟨by rfl, ?_⟩) (by assumption) ?_
  rotate_left
  · (intro ww hSw; (try dsimp only at hSw); go_simp; try with_reducible rfl)
  (try simp only [Act.put, List.setIfInBounds_toArray, List.set_cons_zero, List.set_cons_succ])
  refine wpAnyH_take (i := 1) (oi := { dst := some 32, op := Op.move (Operand.tmp 6), type := 9, pos := "icmp6.go:59", after := #[], guard := none }) (v := ?_) rfl (by kernel_rfl) (by kernel_rfl) (by kernel_rfl) (fun _ _ _ h => h) (Or.inl ⟨by rfl, ?_⟩) (by assumption) ?_
  rotate_left
  · (intro ww hSw; (try dsimp only at hSw); go_simp; try with_reducible rfl)
  (try simp only [Act.put, List.setIfInBounds_toArray, List.set_cons_zero, List.set_cons_succ])
  refine wpAnyH_take (i := 3) (oi := { dst := some 34, op := Op.move (Operand.tmp 7), type := 9, pos := "icmp6.go:59", after := #[], guard := none }) (v := ?_) rfl (by kernel_rfl) (by kernel_rfl) (by kernel_rfl) (fun _ _ _ h => h) (Or.inl ⟨by rfl, ?_⟩) (by assumption) ?_
  rotate_left
  · (intro ww hSw; (try dsimp only at hSw); go_simp; try with_reducible rfl)
  (try simp only [Act.put, List.setIfInBounds_toArray, List.set_cons_zero, List.set_cons_succ])
  refine wpAnyH_take (i := 4) (oi := { dst := some 35, op := Op.fieldAddr 26 (Operand.tmp 2) 3, type := 0, pos := "icmp6.go:59", after := #[], guard := none }) (v := ?_) rfl (by kernel_rfl) (by kernel_rfl) (by kernel_rfl) (fun _ _ _ h => h) (Or.inl ⟨by rfl, ?_⟩) (by assumption) ?_
  rotate_left
  · (intro ww hSw; (try dsimp only at hSw); go_simp; try with_reducible rfl)
  (try simp only [Act.put, List.setIfInBounds_toArray, List.set_cons_zero, List.set_cons_succ])
  refine wpAnyH_take (i := 5) (oi := { dst := some 36, op := Op.load 9 (Operand.tmp 35), type := 9, pos := "icmp6.go:59", after := #[{ on := 4, ground := Ground.data }], guard := none }) (v := ?_) rfl (by kernel_rfl) (by kernel_rfl) (by kernel_rfl) (fun _ _ _ h => h) (Or.inl ⟨by rfl, ?_⟩) (by assumption) ?_
  rotate_left
  · (intro ww hSw; (try dsimp only at hSw); go_simp; try with_reducible rfl)
  (try simp only [Act.put, List.setIfInBounds_toArray, List.set_cons_zero, List.set_cons_succ])
  refine wpAnyH_ready (rs := [2]) (by kernel_rfl) (by simp) ?_
  refine AllReadyH.cons (o := { dst := some 33, op := Op.call { callee := Callee.value (Operand.func 26), args := #[Operand.const (Value.int IntKind.i64 0), Operand.const (Value.int IntKind.i64 2)], argTypes := #[3, 3] }, type := 9, pos := "icmp6.go:59", after := #[], guard := none }) rfl (fun K hK => ?_) AllReadyH.nil
  go_simp
  ((with_reducible refine (A4.out _).mono ?_); rintro e w9 ⟨rfl, hb9⟩)
  refine hK.out _ _ (DS.below hHeld hb9) (fun hHeld => ?_)
  clear hK K
  (try simp only [Act.put, List.setIfInBounds_toArray, List.set_cons_zero, List.set_cons_succ])
  have HSv := Lib.hid (show DS w w.heap.size x0 x1 x2 x3 _ from hHeld)
  refine wpAnyH_ready (rs := [6]) (by kernel_rfl) (by simp) ?_
  refine AllReadyH.cons (o := { dst := some 37, op := Op.buildSlice 66 5 #[(0, Operand.tmp 31), (1, Operand.tmp 32), (2, Operand.tmp 33), (3, Operand.tmp 34), (4, Operand.tmp 36)], type := 66, pos := "icmp6.go:59", after := #[{ on := 0, ground := Ground.data }, { on := 1, ground := Ground.data }, { on := 2, ground := Ground.data }, { on := 3, ground := Ground.data }, { on := 5, ground := Ground.data }], guard := none }) rfl (fun K hK => ?_) AllReadyH.nil
  go_simp
  refine hK.out _ _ (DS.alloc HSv.out _) (fun hHeld => ?_)
  clear hK K
  (try simp only [Act.put, List.setIfInBounds_toArray, List.set_cons_zero, List.set_cons_succ])
  refine wpAnyH_ready (rs := [7]) (by kernel_rfl) (by simp) ?_
  refine AllReadyH.cons (o := { dst := some 38, op := Op.call { callee := Callee.value (Operand.func 27), args := #[Operand.tmp 37], argTypes := #[66] }, type := 3, pos := "icmp6.go:59", after := #[{ on := 6, ground := Ground.data }, { on := 2, ground := Ground.chain }], guard := none }) rfl (fun K hK => ?_) AllReadyH.nil
  go_simp
  ((with_reducible refine (HO.out _).mono ?_); rintro e w9 ⟨rfl, hb9⟩)
  refine hK.out _ _ (DS.below HSv.out hb9) (fun hHeld => ?_)
  clear hK K
  (try simp only [Act.put, List.setIfInBounds_toArray, List.set_cons_zero, List.set_cons_succ])
  refine wpAnyH_take (i := 8) (oi := { dst := some 8, op := Op.assign (Operand.tmp 38), type := 3, pos := "icmp6.go:59", after := #[{ on := 7, ground := Ground.data }, { on := 7, ground := Ground.chain }, { on := 0, ground := Ground.phase }, { on := 1, ground := Ground.phase }, { on := 2, ground := Ground.phase }, { on := 3, ground := Ground.phase }, { on := 4, ground := Ground.phase }, { on := 5, ground := Ground.phase }, { on := 6, ground := Ground.phase }, { on := 7, ground := Ground.phase }], guard := none }) (v := ?_) rfl (by kernel_rfl) (by kernel_rfl) (by kernel_rfl) (fun _ _ _ h => h) (Or.inl ⟨by rfl, ?_⟩) (by assumption) ?_
  rotate_left
  · (intro ww hSw; (try dsimp only at hSw); go_simp; try with_reducible rfl)
  (try simp only [Act.put, List.setIfInBounds_toArray, List.set_cons_zero, List.set_cons_succ])
  refine wpAnyH_done (by kernel_rfl) ?_ _
  refine NoPanic.normal ?_
  have HD4 := Lib.hid (show DS w w.heap.size x0 x1 x2 x3 _ from hHeld)
  clear hHeld HSv HD3 A4 HO
  go_upto_region 6 with (fail)
  refine wp_region_noPanic ?_
  refine wp_region_held_drew (S := fun w' => Below w.heap.size w w' ∧ w.heap.size ≤ w'.heap.size ∧ w'.cell? ⟨w.heap.size, 0, none⟩ = some (.int .i64 x0) ∧ w'.cell? ⟨w.heap.size, 1, none⟩ = some (.int .i64 x1) ∧ w'.cell? ⟨w.heap.size, 2, none⟩ = some (.int .u32 (x2 : Nat)) ∧ w'.cell? ⟨w.heap.size, 3, none⟩ = some (.string x3)) (by kernel_rfl) (DS.drew HD4.out) (fun hHeld => ?_)
  refine wpAnyH_take (i := 0) (oi := { dst := some 39, op := Op.move (Operand.tmp 6), type := 9, pos := "icmp6.go:60", after := #[], guard := none }) (v := ?_) rfl (by kernel_rfl) (by kernel_rfl) (by kernel_rfl) (fun _ _ _ h => h) (Or.inl ⟨by rfl, ?_⟩) (by assumption) ?_
  rotate_left
  · (intro ww hSw; (try dsimp only at hSw); go_simp; try with_reducible rfl)
  (try simp only [Act.put, List.setIfInBounds_toArray, List.set_cons_zero, List.set_cons_succ])
  refine wpAnyH_take (i := 1) (oi := { dst := some 40, op := Op.move (Operand.tmp 8), type := 3, pos := "icmp6.go:60", after := #[], guard := none }) (v := ?_) rfl (by kernel_rfl) (by kernel_rfl) (by kernel_rfl) (fun _ _ _ h => h) (Or.inl ⟨by rfl, ?_⟩) (by assumption) ?_
  rotate_left
  · (intro ww hSw; (try dsimp only at hSw); go_simp; try with_reducible rfl)
  (try simp only [Act.put, List.setIfInBounds_toArray, List.set_cons_zero, List.set_cons_succ])
  refine wpAnyH_take (i := 4) (oi := { dst := some 43, op := Op.move (Operand.tmp 7), type := 9, pos := "icmp6.go:60", after := #[], guard := none }) (v := ?_) rfl (by kernel_rfl) (by kernel_rfl) (by kernel_rfl) (fun _ _ _ h => h) (Or.inl ⟨by rfl, ?_⟩) (by assumption) ?_
  rotate_left
  · (intro ww hSw; (try dsimp only at hSw); go_simp; try with_reducible rfl)
  (try simp only [Act.put, List.setIfInBounds_toArray, List.set_cons_zero, List.set_cons_succ])
  refine wpAnyH_take (i := 6) (oi := { dst := some 45, op := Op.fieldAddr 26 (Operand.tmp 2) 3, type := 0, pos := "icmp6.go:60", after := #[], guard := none }) (v := ?_) rfl (by kernel_rfl) (by kernel_rfl) (by kernel_rfl) (fun _ _ _ h => h) (Or.inl ⟨by rfl, ?_⟩) (by assumption) ?_
  rotate_left
  · (intro ww hSw; (try dsimp only at hSw); go_simp; try with_reducible rfl)
  (try simp only [Act.put, List.setIfInBounds_toArray, List.set_cons_zero, List.set_cons_succ])
  refine wpAnyH_take (i := 7) (oi := { dst := some 46, op := Op.load 9 (Operand.tmp 45), type := 9, pos := "icmp6.go:60", after := #[{ on := 6, ground := Ground.data }], guard := none }) (v := ?_) rfl (by kernel_rfl) (by kernel_rfl) (by kernel_rfl) (fun _ _ _ h => h) (Or.inl ⟨by rfl, ?_⟩) (by assumption) ?_
  rotate_left
  · (intro ww hSw; (try dsimp only at hSw); go_simp; try with_reducible rfl)
  (try simp only [Act.put, List.setIfInBounds_toArray, List.set_cons_zero, List.set_cons_succ])
  refine wpAnyH_ready (rs := [2]) (by kernel_rfl) (by simp) ?_
  refine AllReadyH.cons (o := { dst := some 41, op := Op.call { callee := Callee.value (Operand.func 26), args := #[Operand.tmp 40, Operand.const (Value.int IntKind.i64 2)], argTypes := #[3, 3] }, type := 9, pos := "icmp6.go:60", after := #[{ on := 1, ground := Ground.data }], guard := none }) rfl (fun K hK => ?_) AllReadyH.nil
  go_simp
  ((with_reducible refine (A5.out _).mono ?_); rintro e w9 ⟨rfl, hb9⟩)
  refine hK.out _ _ (DS.below hHeld hb9) (fun hHeld => ?_)
  clear hK K
  (try simp only [Act.put, List.setIfInBounds_toArray, List.set_cons_zero, List.set_cons_succ])
  refine wpAnyH_take (i := 3) (oi := { dst := some 42, op := Op.binOp BinOp.add 9 (Operand.tmp 39) (Operand.tmp 41) 9, type := 9, pos := "icmp6.go:60", after := #[{ on := 0, ground := Ground.data }, { on := 2, ground := Ground.data }], guard := none }) (v := ?_) rfl (by kernel_rfl) (by kernel_rfl) (by kernel_rfl) (fun _ _ _ h => h) (Or.inl ⟨by rfl, ?_⟩) (by assumption) ?_
  rotate_left
  · (intro ww hSw; (try dsimp only at hSw); go_simp; try with_reducible rfl)
  (try simp only [Act.put, List.setIfInBounds_toArray, List.set_cons_zero, List.set_cons_succ])
  refine wpAnyH_take (i := 5) (oi := { dst := some 44, op := Op.binOp BinOp.add 9 (Operand.tmp 42) (Operand.tmp 43) 9, type := 9, pos := "icmp6.go:60", after := #[{ on := 3, ground := Ground.data }, { on := 4, ground := Ground.data }], guard := none }) (v := ?_) rfl (by kernel_rfl) (by kernel_rfl) (by kernel_rfl) (fun _ _ _ h => h) (Or.inl ⟨by rfl, ?_⟩) (by assumption) ?_
  rotate_left
  · (intro ww hSw; (try dsimp only at hSw); go_simp; try with_reducible rfl)
  (try simp only [Act.put, List.setIfInBounds_toArray, List.set_cons_zero, List.set_cons_succ])
  refine wpAnyH_take (i := 8) (oi := { dst := some 47, op := Op.binOp BinOp.add 9 (Operand.tmp 44) (Operand.tmp 46) 9, type := 9, pos := "icmp6.go:60", after := #[{ on := 5, ground := Ground.data }, { on := 7, ground := Ground.data }], guard := none }) (v := ?_) rfl (by kernel_rfl) (by kernel_rfl) (by kernel_rfl) (fun _ _ _ h => h) (Or.inl ⟨by rfl, ?_⟩) (by assumption) ?_
  rotate_left
  · (intro ww hSw; (try dsimp only at hSw); go_simp; try with_reducible rfl)
  (try simp only [Act.put, List.setIfInBounds_toArray, List.set_cons_zero, List.set_cons_succ])
  refine wpAnyH_take (i := 9) (oi := { dst := some 4, op := Op.assign (Operand.tmp 47), type := 9, pos := "icmp6.go:60", after := #[{ on := 8, ground := Ground.data }, { on := 2, ground := Ground.chain }, { on := 0, ground := Ground.phase }, { on := 1, ground := Ground.phase }, { on := 2, ground := Ground.phase }, { on := 3, ground := Ground.phase }, { on := 4, ground := Ground.phase }, { on := 5, ground := Ground.phase }, { on := 6, ground := Ground.phase }, { on := 7, ground := Ground.phase }, { on := 8, ground := Ground.phase }], guard := none }) (v := ?_) rfl (by kernel_rfl) (by kernel_rfl) (by kernel_rfl) (fun _ _ _ h => h) (Or.inl ⟨by rfl, ?_⟩) (by assumption) ?_
  rotate_left
  · (intro ww hSw; (try dsimp only at hSw); go_simp; try with_reducible rfl)
  (try simp only [Act.put, List.setIfInBounds_toArray, List.set_cons_zero, List.set_cons_succ])
  refine wpAnyH_take (i := 10) (oi := { dst := some 5, op := Op.assign (Operand.const Value.nilIface), type := 29, pos := "icmp6.go:60", after := #[{ on := 9, ground := Ground.chain }, { on := 0, ground := Ground.phase }, { on := 1, ground := Ground.phase }, { on := 2, ground := Ground.phase }, { on := 3, ground := Ground.phase }, { on := 4, ground := Ground.phase }, { on := 5, ground := Ground.phase }, { on := 6, ground := Ground.phase }, { on := 7, ground := Ground.phase }, { on := 8, ground := Ground.phase }, { on := 9, ground := Ground.phase }], guard := none }) (v := ?_) rfl (by kernel_rfl) (by kernel_rfl) (by kernel_rfl) (fun _ _ _ h => h) (Or.inl ⟨by rfl, ?_⟩) (by assumption) ?_
  rotate_left
  · (intro ww hSw; (try dsimp only at hSw); go_simp; try with_reducible rfl)
  (try simp only [Act.put, List.setIfInBounds_toArray, List.set_cons_zero, List.set_cons_succ])
  refine wpAnyH_done (by kernel_rfl) ?_ _
  refine NoPanic.normal ?_
  have HB7 := Lib.hid (And.left hHeld)
  clear hHeld HD4 A5
  go_wp2_with fail
  go_ret2
  exact ⟨by rw [HBy.out]; rfl, HB7.out⟩
theorem mSays : MSays where
  parse := parse_any
  bytes := fun d ps W hx hs hp => by
    obtain ⟨x0, x1, x2, x3⟩ := d
    unfold Ms.out
    by_cases h : (Ms.mk x0 x1 x2 x3).why = 0
    · rw [if_pos h, h]
      refine (bytes_ok x0 x1 x2 x3 ps W hx hs hp h).mono ?_
      rintro e w' ⟨rfl, b⟩
      exact ⟨_, rfl, err_none, b⟩
    · rw [if_neg h]
      exact bytes_bad x0 x1 x2 x3 ps W h
  echo := fun d W hx => echo_any d.kd d.cd d.rs d.da W hx
  withId := fun d id W hx _ _ => with_any d.kd d.cd d.rs d.da id W hx
  fails := fun d W _ => fail_any d.kd d.cd d.rs d.da W
end Go.Proofs.Ytmfolkbmkfifcaa
