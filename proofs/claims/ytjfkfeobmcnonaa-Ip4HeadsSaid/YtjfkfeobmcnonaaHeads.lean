/-
  Proved here: the law Ip4Heads answers true, and leaves old memory as it was.
  Conditions: none.
-/
import Derived.Test.YtjfkfeobmcnonaaReads
namespace Go.Proofs.Ytjfkfeobmcnonaa
open Go.RowKit

theorem and_u8 (x : Nat) (hx : x < 256) : bits .and .u8 ((x : Nat) : Int) 15 = (x : Int) % 16 := by
  have h1 : (BitVec.ofInt 8 ((x : Nat) : Int)).toNat = x := by
    rw [BitVec.ofInt_natCast, BitVec.toNat_ofNat]; exact Nat.mod_eq_of_lt (by omega)
  have h2 : (BitVec.ofInt 8 (15 : Int)).toNat = 2 ^ 4 - 1 := by decide
  show IntKind.u8.wrap ((BitVec.ofInt 8 ((x : Nat) : Int) &&& BitVec.ofInt 8 (15 : Int)).toNat : Int) = _
  rw [BitVec.toNat_and, h1, h2, Nat.and_two_pow_sub_one_eq_mod]
  have : x % 2 ^ 4 < 16 := Nat.mod_lt _ (by decide)
  have e : IntKind.u8.wrap ((x % 2 ^ 4 : Nat) : Int) = ((x % 2 ^ 4 : Nat) : Int) := by
    show (((x % 2 ^ 4 : Nat) : Int)) % 256 = _
    omega
  rw [e]
  omega
def LB (w0 : World) (B : Nat) (w : World) : Prop := Below B w0 w ∧ B ≤ w.heap.size
theorem LB.below {w0 w w' : World} {B C : Nat} (h : LB w0 B w) (hb : Below C w w') (hC : w.heap.size ≤ C) : LB w0 B w' := ⟨h.1.trans (hb.mono (Nat.le_trans h.2 hC)), Nat.le_trans h.2 hb.size⟩
set_option maxRecDepth 100000 in
set_option maxHeartbeats 400000 in
theorem ip4Heads_long (s : ByteArray) (w : World) (h : 70000 < s.size) :
    Calls Try.prog 6 #[.string s] w fun e w' => e = .returned (.bool true) ∧ Below w.heap.size w w' := by
  go_enter Try.func6, Try.ntmps6
  go_wp2_with fail
  refine (awake_true w).mono ?_
  rintro e w1 ⟨rfl, b1⟩
  have HBw1 := Lib.hid b1
  clear b1
  go_wp2_with fail
  go_ret
  exact ⟨rfl, HBw1.out⟩
set_option maxRecDepth 100000 in
set_option maxHeartbeats 400000 in
theorem ip4Heads_short (s : ByteArray) (w : World) (h : s.size < 20) :
    Calls Try.prog 6 #[.string s] w fun e w' => e = .returned (.bool true) ∧ Below w.heap.size w w' := by
  go_enter Try.func6, Try.ntmps6
  go_wp2_with fail
  refine (awake_true w).mono ?_
  rintro e w1 ⟨rfl, b1⟩
  have HBw1 := Lib.hid b1
  clear b1
  go_wp2_with fail
  go_ret
  exact ⟨rfl, HBw1.out⟩
set_option maxRecDepth 100000 in
set_option maxHeartbeats 400000 in
theorem ip4Heads_plain (s : ByteArray) (w : World) (h : s.size ≤ 70000) (h20 : 20 ≤ s.size) (hn : hdN s < 20 ∨ 20 ≤ hdN s ∧ s.size < hdN s) :
    Calls Try.prog 6 #[.string s] w fun e w' => e = .returned (.bool true) ∧ Below w.heap.size w w' := by
  have h00 : 0 < s.size := by omega
  have h8 := s[0].toNat_lt
  have ha := and_u8 s[0].toNat h8
  have hN : (4 : Int) * ((s[0].toNat : Int) % 16) = ((hdN s : Nat) : Int) := by rw [← byN_at s 0 h00]; unfold hdN; omega
  have hn60 := hdN_le s
  generalize hdN s = N at *
  rcases hn with hn | ⟨hn, hn2⟩
  all_goals
    go_enter Try.func6, Try.ntmps6
    go_wp2_with fail
    refine (awake_true w).mono ?_
    rintro e w1 ⟨rfl, b1⟩
    have HBw1 := Lib.hid b1
    clear b1
    go_wp2_with fail
    refine (ip4Reads_any s _).mono ?_
    rintro e w2 ⟨rfl, b2⟩
    have HBw2 := Lib.hid (HBw1.out.trans (b2.mono HBw1.out.size))
    clear b2
    go_wp2_with fail
    go_ret
    exact ⟨rfl, HBw2.out⟩
set_option maxRecDepth 100000 in
set_option maxHeartbeats 400000 in
theorem ip4Heads_right (s : ByteArray) (w : World) (h : s.size ≤ 70000) (h20 : 20 ≤ s.size) (hn : 20 ≤ hdN s) (hn2 : hdN s ≤ s.size) :
    Calls Try.prog 6 #[.string s] w fun e w' => e = .returned (.bool true) ∧ Below w.heap.size w w' := by
  have h00 : 0 < s.size := by omega
  have h8 := s[0].toNat_lt
  have ha := and_u8 s[0].toNat h8
  have hN : (4 : Int) * ((s[0].toNat : Int) % 16) = ((hdN s : Nat) : Int) := by rw [← byN_at s 0 h00]; unfold hdN; omega
  have hn60 := hdN_le s
  have HOf := Lib.hid (fun W => rof_any (s.extract 0 10 ++ ⟨#[0, 0]⟩ ++ s.extract 12 (hdN s)) W (by rw [ByteArray.size_append, ByteArray.size_append, show (⟨#[0, 0]⟩ : ByteArray).size = 2 from rfl, ByteArray.size_extract, ByteArray.size_extract]; omega))
  have hq := sumL_le (s.extract 0 10 ++ ⟨#[0, 0]⟩ ++ s.extract 12 (hdN s)).data.toList
  generalize sumL (s.extract 0 10 ++ ⟨#[0, 0]⟩ ++ s.extract 12 (hdN s)).data.toList = Q at *
  generalize hdN s = N at *
  go_enter Try.func6, Try.ntmps6
  go_wp2_with fail
  refine (awake_true w).mono ?_
  rintro e w1 ⟨rfl, b1⟩
  have HBw1 := Lib.hid b1
  clear b1
  go_wp2_with fail
  obtain ⟨K, hK⟩ : ∃ K, N = 12 + K := ⟨N - 12, by omega⟩
  obtain ⟨J, hJ⟩ : ∃ J, s.size = 12 + J := ⟨s.size - 12, by omega⟩
  have za : (s.extract 0 10).size = 10 := by simp; omega
  have zb : (s.extract 12 N).size = K := by simp; omega
  have zd : (s.extract 12 s.size).size = J := by simp; omega
  have zo1 : ¬ 9223372036854775807 < 12 + K := by omega
  have zo2 : ¬ 9223372036854775807 < 12 + J := by omega
  have zc := cat_len
  have zs := fun x y : Int => (show (strOfNums [x, y]).size = 2 from rfl)
  have p1 : (10 : Int) ≤ (s.size : Int) := by omega
  have p2 : (12 : Int) ≤ (N : Int) := by omega
  have p3 : (N : Int) ≤ (s.size : Int) := by omega
  have p4 : (12 : Int) ≤ (s.size : Int) := by omega
  have HJK := Lib.hid (And.intro hK hJ)
  clear hK hJ
  obtain ⟨B, hBd⟩ : ∃ B, B = w.heap.size := ⟨_, rfl⟩
  have hL : LB w B w1 := by rw [hBd]; exact ⟨HBw1.out, HBw1.out.size⟩
  have HBd := Lib.hid hBd
  clear hBd HBw1
  refine wp_region_noPanic ?_
  refine wp_region_held_drew (S := fun w' => LB w B w') (by kernel_rfl) (hL.below ((Below.refl w1.heap.size w1).drew) (Nat.le_refl _)) (fun hHeld => ?_)
  refine wpAnyH_take (i := 0) (oi := { dst := some 30, op := Op.move (Operand.tmp 0), type := 9, pos := "law.go:73", after := #[], guard := none }) (v := ?_) rfl (by kernel_rfl) (by kernel_rfl) (by kernel_rfl) (fun _ _ _ h => h) (Or.inl ⟨by rfl, ?_⟩) (by assumption) ?_
  rotate_left
  · (intro ww hSw; (try dsimp only at hSw); go_simp; try with_reducible rfl)
  (try simp only [Act.put, List.setIfInBounds_toArray, List.set_cons_zero, List.set_cons_succ])
  refine wpAnyH_take (i := 1) (oi := { dst := some 31, op := Op.slice 9 (Operand.tmp 30) none (some (Operand.const (Value.int IntKind.i64 10))) none, type := 9, pos := "law.go:73", after := #[{ on := 0, ground := Ground.data }], guard := none }) (v := ?_) rfl (by kernel_rfl) (by kernel_rfl) (by kernel_rfl) (fun _ _ _ h => h) (Or.inl ⟨by rfl, ?_⟩) (by assumption) ?_
  rotate_left
  · (intro ww hSw; (try dsimp only at hSw); go_simp; try with_reducible rfl)
  (try simp only [Act.put, List.setIfInBounds_toArray, List.set_cons_zero, List.set_cons_succ])
  refine wpAnyH_take (i := 2) (oi := { dst := some 32, op := Op.binOp BinOp.add 9 (Operand.tmp 31) (Operand.const (Value.string { data := #[0, 0] })) 9, type := 9, pos := "law.go:73", after := #[{ on := 1, ground := Ground.data }], guard := none }) (v := ?_) rfl (by kernel_rfl) (by kernel_rfl) (by kernel_rfl) (fun _ _ _ h => h) (Or.inl ⟨by rfl, ?_⟩) (by assumption) ?_
  rotate_left
  · (intro ww hSw; (try dsimp only at hSw); go_simp; try with_reducible rfl)
  (try simp only [Act.put, List.setIfInBounds_toArray, List.set_cons_zero, List.set_cons_succ])
  refine wpAnyH_take (i := 3) (oi := { dst := some 33, op := Op.move (Operand.tmp 0), type := 9, pos := "law.go:73", after := #[], guard := none }) (v := ?_) rfl (by kernel_rfl) (by kernel_rfl) (by kernel_rfl) (fun _ _ _ h => h) (Or.inl ⟨by rfl, ?_⟩) (by assumption) ?_
  rotate_left
  · (intro ww hSw; (try dsimp only at hSw); go_simp; try with_reducible rfl)
  (try simp only [Act.put, List.setIfInBounds_toArray, List.set_cons_zero, List.set_cons_succ])
  refine wpAnyH_take (i := 4) (oi := { dst := some 34, op := Op.move (Operand.tmp 3), type := 3, pos := "law.go:73", after := #[], guard := none }) (v := ?_) rfl (by kernel_rfl) (by kernel_rfl) (by kernel_rfl) (fun _ _ _ h => h) (Or.inl ⟨by rfl, ?_⟩) (by assumption) ?_
  rotate_left
  · (intro ww hSw; (try dsimp only at hSw); go_simp; try with_reducible rfl)
  (try simp only [Act.put, List.setIfInBounds_toArray, List.set_cons_zero, List.set_cons_succ])
  refine wpAnyH_take (i := 5) (oi := { dst := some 35, op := Op.slice 9 (Operand.tmp 33) (some (Operand.const (Value.int IntKind.i64 12))) (some (Operand.tmp 34)) none, type := 9, pos := "law.go:73", after := #[{ on := 3, ground := Ground.data }, { on := 4, ground := Ground.data }], guard := none }) (v := ?_) rfl (by kernel_rfl) (by kernel_rfl) (by kernel_rfl) (fun _ _ _ h => h) (Or.inl ⟨by rfl, ?_⟩) (by assumption) ?_
  rotate_left
  · (intro ww hSw; (try dsimp only at hSw); go_simp; try with_reducible rfl)
  (try simp only [Act.put, List.setIfInBounds_toArray, List.set_cons_zero, List.set_cons_succ])
  refine wpAnyH_take (i := 6) (oi := { dst := some 36, op := Op.binOp BinOp.add 9 (Operand.tmp 32) (Operand.tmp 35) 9, type := 9, pos := "law.go:73", after := #[{ on := 2, ground := Ground.data }, { on := 5, ground := Ground.data }], guard := none }) (v := ?_) rfl (by kernel_rfl) (by kernel_rfl) (by kernel_rfl) (fun _ _ _ h => h) (Or.inl ⟨by rfl, ?_⟩) (by assumption) ?_
  rotate_left
  · (intro ww hSw; (try dsimp only at hSw); go_simp; try with_reducible rfl)
  (try simp only [Act.put, List.setIfInBounds_toArray, List.set_cons_zero, List.set_cons_succ])
  refine wpAnyH_ready (rs := [7]) (by kernel_rfl) (by simp) ?_
  refine AllReadyH.cons (o := { dst := some 37, op := Op.call { callee := Callee.value (Operand.func 22), args := #[Operand.tmp 36], argTypes := #[9] }, type := 3, pos := "law.go:73", after := #[{ on := 6, ground := Ground.data }], guard := none }) rfl (fun K hK => ?_) AllReadyH.nil
  go_simp
  ((with_reducible refine (HOf.out _).mono ?_); rintro e w9 ⟨rfl, hb9⟩)
  refine hK.out _ _ (hHeld.below hb9 (Nat.le_refl _)) (fun hHeld => ?_)
  clear hK K
  (try simp only [Act.put, List.setIfInBounds_toArray, List.set_cons_zero, List.set_cons_succ])
  refine wpAnyH_take (i := 8) (oi := { dst := some 4, op := Op.assign (Operand.tmp 37), type := 3, pos := "law.go:73", after := #[{ on := 7, ground := Ground.data }, { on := 7, ground := Ground.chain }, { on := 0, ground := Ground.phase }, { on := 1, ground := Ground.phase }, { on := 2, ground := Ground.phase }, { on := 3, ground := Ground.phase }, { on := 4, ground := Ground.phase }, { on := 5, ground := Ground.phase }, { on := 6, ground := Ground.phase }, { on := 7, ground := Ground.phase }], guard := none }) (v := ?_) rfl (by kernel_rfl) (by kernel_rfl) (by kernel_rfl) (fun _ _ _ h => h) (Or.inl ⟨by rfl, ?_⟩) (by assumption) ?_
  rotate_left
  · (intro ww hSw; (try dsimp only at hSw); go_simp; try with_reducible rfl)
  (try simp only [Act.put, List.setIfInBounds_toArray, List.set_cons_zero, List.set_cons_succ])
  refine wpAnyH_done (by kernel_rfl) ?_ _
  refine NoPanic.normal ?_
  have hL2 := hHeld
  clear hHeld hL
  go_wp2_with fail
  have k1 : ((Q : Nat) : Int).tdiv 256 = (Q : Int) / 256 := Int.tdiv_eq_ediv_of_nonneg (by omega)
  have k2 : IntKind.i64.wrap ((Q : Int) / 256) = (Q : Int) / 256 := IntWalk.i64_in _ (by omega)
  have k3 : ((Q : Nat) : Int).tmod 256 = (Q : Int) % 256 := Int.tmod_eq_emod_of_nonneg (by omega)
  have k4 : IntKind.u8.wrap ((Q : Int) / 256) = (Q : Int) / 256 := by show ((Q : Int) / 256) % 256 = _; omega
  have k5 : IntKind.u8.wrap ((Q : Int) % 256) = (Q : Int) % 256 := by show ((Q : Int) % 256) % 256 = _; omega
  have hcv := fun (a b : Int) (W : World) => (show (convert 45 9 (.slice (some ⟨W.heap.size, 0, none⟩) 2 2)).run Try.prog (W.alloc (.cells #[.int .u8 a, .int .u8 b] 5)).drew = .ok (.string (strOfNums [a, b])) (W.alloc (.cells #[.int .u8 a, .int .u8 b] 5)).drew from conv2 a b W.drew)
  refine wp_region_noPanic ?_
  refine wp_region_held_drew (S := fun w' => LB w B w') (by kernel_rfl) (hL2.below ((Below.refl w9.heap.size w9).drew) (Nat.le_refl _)) (fun hHeld => ?_)
  refine wpAnyH_take (i := 0) (oi := { dst := some 38, op := Op.move (Operand.tmp 0), type := 9, pos := "law.go:74", after := #[], guard := none }) (v := ?_) rfl (by kernel_rfl) (by kernel_rfl) (by kernel_rfl) (fun _ _ _ h => h) (Or.inl ⟨by rfl, ?_⟩) (by assumption) ?_
  rotate_left
  · (intro ww hSw; (try dsimp only at hSw); go_simp; try with_reducible rfl)
  (try simp only [Act.put, List.setIfInBounds_toArray, List.set_cons_zero, List.set_cons_succ])
  refine wpAnyH_take (i := 1) (oi := { dst := some 39, op := Op.slice 9 (Operand.tmp 38) none (some (Operand.const (Value.int IntKind.i64 10))) none, type := 9, pos := "law.go:74", after := #[{ on := 0, ground := Ground.data }], guard := none }) (v := ?_) rfl (by kernel_rfl) (by kernel_rfl) (by kernel_rfl) (fun _ _ _ h => h) (Or.inl ⟨by rfl, ?_⟩) (by assumption) ?_
  rotate_left
  · (intro ww hSw; (try dsimp only at hSw); go_simp; try with_reducible rfl)
  (try simp only [Act.put, List.setIfInBounds_toArray, List.set_cons_zero, List.set_cons_succ])
  refine wpAnyH_take (i := 2) (oi := { dst := some 40, op := Op.move (Operand.tmp 4), type := 3, pos := "law.go:74", after := #[], guard := none }) (v := ?_) rfl (by kernel_rfl) (by kernel_rfl) (by kernel_rfl) (fun _ _ _ h => h) (Or.inl ⟨by rfl, ?_⟩) (by assumption) ?_
  rotate_left
  · (intro ww hSw; (try dsimp only at hSw); go_simp; try with_reducible rfl)
  (try simp only [Act.put, List.setIfInBounds_toArray, List.set_cons_zero, List.set_cons_succ])
  refine wpAnyH_take (i := 3) (oi := { dst := some 41, op := Op.binOp BinOp.quo 3 (Operand.tmp 40) (Operand.const (Value.int IntKind.i64 256)) 3, type := 3, pos := "law.go:74", after := #[{ on := 2, ground := Ground.data }], guard := none }) (v := ?_) rfl (by kernel_rfl) (by kernel_rfl) (by kernel_rfl) (fun _ _ _ h => h) (Or.inl ⟨by rfl, ?_⟩) (by assumption) ?_
  rotate_left
  · (intro ww hSw; (try dsimp only at hSw); go_simp; try with_reducible rfl)
  (try simp only [Act.put, List.setIfInBounds_toArray, List.set_cons_zero, List.set_cons_succ])
  refine wpAnyH_take (i := 4) (oi := { dst := some 42, op := Op.convert 3 5 (Operand.tmp 41), type := 5, pos := "law.go:74", after := #[{ on := 3, ground := Ground.data }], guard := none }) (v := ?_) rfl (by kernel_rfl) (by kernel_rfl) (by kernel_rfl) (fun _ _ _ h => h) (Or.inl ⟨by rfl, ?_⟩) (by assumption) ?_
  rotate_left
  · (intro ww hSw; (try dsimp only at hSw); go_simp; try with_reducible rfl)
  (try simp only [Act.put, List.setIfInBounds_toArray, List.set_cons_zero, List.set_cons_succ])
  refine wpAnyH_take (i := 5) (oi := { dst := some 43, op := Op.move (Operand.tmp 4), type := 3, pos := "law.go:74", after := #[], guard := none }) (v := ?_) rfl (by kernel_rfl) (by kernel_rfl) (by kernel_rfl) (fun _ _ _ h => h) (Or.inl ⟨by rfl, ?_⟩) (by assumption) ?_
  rotate_left
  · (intro ww hSw; (try dsimp only at hSw); go_simp; try with_reducible rfl)
  (try simp only [Act.put, List.setIfInBounds_toArray, List.set_cons_zero, List.set_cons_succ])
  refine wpAnyH_take (i := 6) (oi := { dst := some 44, op := Op.binOp BinOp.rem 3 (Operand.tmp 43) (Operand.const (Value.int IntKind.i64 256)) 3, type := 3, pos := "law.go:74", after := #[{ on := 5, ground := Ground.data }], guard := none }) (v := ?_) rfl (by kernel_rfl) (by kernel_rfl) (by kernel_rfl) (fun _ _ _ h => h) (Or.inl ⟨by rfl, ?_⟩) (by assumption) ?_
  rotate_left
  · (intro ww hSw; (try dsimp only at hSw); go_simp; try with_reducible rfl)
  (try simp only [Act.put, List.setIfInBounds_toArray, List.set_cons_zero, List.set_cons_succ])
  refine wpAnyH_take (i := 7) (oi := { dst := some 45, op := Op.convert 3 5 (Operand.tmp 44), type := 5, pos := "law.go:74", after := #[{ on := 6, ground := Ground.data }], guard := none }) (v := ?_) rfl (by kernel_rfl) (by kernel_rfl) (by kernel_rfl) (fun _ _ _ h => h) (Or.inl ⟨by rfl, ?_⟩) (by assumption) ?_
  rotate_left
  · (intro ww hSw; (try dsimp only at hSw); go_simp; try with_reducible rfl)
  (try simp only [Act.put, List.setIfInBounds_toArray, List.set_cons_zero, List.set_cons_succ])
  refine wpAnyH_take (i := 11) (oi := { dst := some 49, op := Op.move (Operand.tmp 0), type := 9, pos := "law.go:74", after := #[], guard := none }) (v := ?_) rfl (by kernel_rfl) (by kernel_rfl) (by kernel_rfl) (fun _ _ _ h => h) (Or.inl ⟨by rfl, ?_⟩) (by assumption) ?_
  rotate_left
  · (intro ww hSw; (try dsimp only at hSw); go_simp; try with_reducible rfl)
  (try simp only [Act.put, List.setIfInBounds_toArray, List.set_cons_zero, List.set_cons_succ])
  refine wpAnyH_take (i := 12) (oi := { dst := some 50, op := Op.slice 9 (Operand.tmp 49) (some (Operand.const (Value.int IntKind.i64 12))) none none, type := 9, pos := "law.go:74", after := #[{ on := 11, ground := Ground.data }], guard := none }) (v := ?_) rfl (by kernel_rfl) (by kernel_rfl) (by kernel_rfl) (fun _ _ _ h => h) (Or.inl ⟨by rfl, ?_⟩) (by assumption) ?_
  rotate_left
  · (intro ww hSw; (try dsimp only at hSw); go_simp; try with_reducible rfl)
  (try simp only [Act.put, List.setIfInBounds_toArray, List.set_cons_zero, List.set_cons_succ])
  refine wpAnyH_ready (rs := [8]) (by kernel_rfl) (by simp) ?_
  refine AllReadyH.cons (o := { dst := some 46, op := Op.buildSlice 45 2 #[(0, Operand.tmp 42), (1, Operand.tmp 45)], type := 45, pos := "law.go:74", after := #[{ on := 4, ground := Ground.data }, { on := 7, ground := Ground.data }], guard := none }) rfl (fun K hK => ?_) AllReadyH.nil
  go_simp
  refine hK.out _ _ (hHeld.below ((Below.refl _ _).alloc (Nat.le_refl _) _) (Nat.le_refl _)) (fun hHeld => ?_)
  clear hK K
  (try simp only [Act.put, List.setIfInBounds_toArray, List.set_cons_zero, List.set_cons_succ])
  refine wpAnyH_ready (rs := [9]) (by kernel_rfl) (by simp) ?_
  refine AllReadyH.cons (o := { dst := some 47, op := Op.convert 45 9 (Operand.tmp 46), type := 9, pos := "law.go:74", after := #[{ on := 8, ground := Ground.data }], guard := none }) rfl (fun K hK => ?_) AllReadyH.nil
  go_simp
  refine hK.out _ _ (hHeld) (fun hHeld => ?_)
  clear hK K
  (try simp only [Act.put, List.setIfInBounds_toArray, List.set_cons_zero, List.set_cons_succ])
  refine wpAnyH_take (i := 10) (oi := { dst := some 48, op := Op.binOp BinOp.add 9 (Operand.tmp 39) (Operand.tmp 47) 9, type := 9, pos := "law.go:74", after := #[{ on := 1, ground := Ground.data }, { on := 9, ground := Ground.data }], guard := none }) (v := ?_) rfl (by kernel_rfl) (by kernel_rfl) (by kernel_rfl) (fun _ _ _ h => h) (Or.inl ⟨by rfl, ?_⟩) (by assumption) ?_
  rotate_left
  · (intro ww hSw; (try dsimp only at hSw); go_simp; try with_reducible rfl)
  (try simp only [Act.put, List.setIfInBounds_toArray, List.set_cons_zero, List.set_cons_succ])
  refine wpAnyH_take (i := 13) (oi := { dst := some 51, op := Op.binOp BinOp.add 9 (Operand.tmp 48) (Operand.tmp 50) 9, type := 9, pos := "law.go:74", after := #[{ on := 10, ground := Ground.data }, { on := 12, ground := Ground.data }], guard := none }) (v := ?_) rfl (by kernel_rfl) (by kernel_rfl) (by kernel_rfl) (fun _ _ _ h => h) (Or.inl ⟨by rfl, ?_⟩) (by assumption) ?_
  rotate_left
  · (intro ww hSw; (try dsimp only at hSw); go_simp; try with_reducible rfl)
  (try simp only [Act.put, List.setIfInBounds_toArray, List.set_cons_zero, List.set_cons_succ])
  refine wpAnyH_ready (rs := [14]) (by kernel_rfl) (by simp) ?_
  refine AllReadyH.cons (o := { dst := some 52, op := Op.call { callee := Callee.value (Operand.func 5), args := #[Operand.tmp 51], argTypes := #[9] }, type := 4, pos := "law.go:74", after := #[{ on := 13, ground := Ground.data }], guard := none }) rfl (fun K hK => ?_) AllReadyH.nil
  go_simp
  ((with_reducible refine (ip4Reads_any _ _).mono ?_); rintro e w9 ⟨rfl, hb9⟩)
  refine hK.out _ _ (hHeld.below hb9 (Nat.le_refl _)) (fun hHeld => ?_)
  clear hK K
  (try simp only [Act.put, List.setIfInBounds_toArray, List.set_cons_zero, List.set_cons_succ])
  refine wpAnyH_take (i := 15) (oi := { dst := some 2, op := Op.assign (Operand.tmp 52), type := 4, pos := "law.go:74", after := #[{ on := 14, ground := Ground.data }, { on := 14, ground := Ground.chain }, { on := 0, ground := Ground.phase }, { on := 1, ground := Ground.phase }, { on := 2, ground := Ground.phase }, { on := 3, ground := Ground.phase }, { on := 4, ground := Ground.phase }, { on := 5, ground := Ground.phase }, { on := 6, ground := Ground.phase }, { on := 7, ground := Ground.phase }, { on := 8, ground := Ground.phase }, { on := 9, ground := Ground.phase }, { on := 10, ground := Ground.phase }, { on := 11, ground := Ground.phase }, { on := 12, ground := Ground.phase }, { on := 13, ground := Ground.phase }, { on := 14, ground := Ground.phase }], guard := none }) (v := ?_) rfl (by kernel_rfl) (by kernel_rfl) (by kernel_rfl) (fun _ _ _ h => h) (Or.inl ⟨by rfl, ?_⟩) (by assumption) ?_
  rotate_left
  · (intro ww hSw; (try dsimp only at hSw); go_simp; try with_reducible rfl)
  (try simp only [Act.put, List.setIfInBounds_toArray, List.set_cons_zero, List.set_cons_succ])
  refine wpAnyH_done (by kernel_rfl) ?_ _
  refine NoPanic.normal ?_
  have hf := hHeld.1
  rw [HBd.out] at hf
  have HF := Lib.hid hf
  clear hf hHeld hL2 k1 k2 k3 k4 k5 hcv zc zs za zb zd zo1 zo2 p1 p2 p3 p4
  go_wp2_with fail
  go_ret
  exact ⟨rfl, HF.out⟩
theorem ip4Heads_any (s : ByteArray) (w : World) :
    Calls Try.prog 6 #[.string s] w fun e w' => e = .returned (.bool true) ∧ Below w.heap.size w w' := by
  by_cases h : s.size ≤ 70000
  · by_cases h20 : s.size < 20
    · exact ip4Heads_short s w h20
    · by_cases hn : hdN s < 20 ∨ 20 ≤ hdN s ∧ s.size < hdN s
      · exact ip4Heads_plain s w h (by omega) hn
      · exact ip4Heads_right s w h (by omega) (by omega) (by omega)
  · exact ip4Heads_long s w (by omega)
end Go.Proofs.Ytjfkfeobmcnonaa
