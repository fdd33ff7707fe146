/-
  Proved here: what the program's digit, whole and next answer.
  Conditions: none.
-/
import Derived.Test.YtkdplnbabelkoaaDoorSix
namespace Go.Proofs.YtkdplnbabelkoaaDoor
open Go.RowKit

/-- A rune's value as a digit. -/
def dgI (r : Int) : Int := if 48 ≤ r ∧ r ≤ 57 then r - 48 else if 97 ≤ r ∧ r ≤ 102 then r - 87 else if 65 ≤ r ∧ r ≤ 70 then r - 55 else 16
theorem dgI_dg (c : UInt8) : dgI (c.toNat : Int) = (dg c : Int) := by
  unfold dgI dg
  split
  · rw [if_pos (by omega)]; omega
  · split
    · rw [if_neg (by omega), if_pos (by omega)]; omega
    · split
      · rw [if_neg (by omega), if_neg (by omega), if_pos (by omega)]; omega
      · rw [if_neg (by omega), if_neg (by omega), if_neg (by omega)]; rfl
theorem dgI_high (r : Int) (h : 128 ≤ r) : dgI r = 16 := by
  unfold dgI
  rw [if_neg (by omega), if_neg (by omega), if_neg (by omega)]
theorem dgI_in (r : Int) : 0 ≤ dgI r ∧ dgI r ≤ 16 := by
  unfold dgI
  split
  · omega
  · split
    · omega
    · split <;> omega
set_option maxRecDepth 100000 in
set_option maxHeartbeats 1000000 in
theorem digit_any (r : Int) (w : World) (h0 : 0 ≤ r) (h9 : r ≤ 2147483647) :
    Calls Tryd.prog 75 #[.int .i32 r] w fun e w' => e = .returned (.int .i64 (dgI r)) ∧ w' = w := by
  have HR : Hid (dgI r = if 48 ≤ r ∧ r ≤ 57 then r - 48 else if 97 ≤ r ∧ r ≤ 102 then r - 87 else if 65 ≤ r ∧ r ≤ 70 then r - 55 else 16) := Lib.hid rfl
  generalize dgI r = R at *
  go_enter Tryd.func75, Tryd.ntmps75
  go_wp2_with fail
  all_goals (go_ret; refine ⟨congrArg Ending.returned (congrArg (Value.int .i64) ?_), rfl⟩; rw [HR.out]; (repeat' split) <;> omega)
theorem below2 (w : World) (a b : Obj) : Below w.heap.size w ((w.alloc a).alloc b) := ((Below.refl _ _).alloc (Nat.le_refl _) a).alloc (by simp) b
/-- A style's cells. -/
def Sty.vals (s : Sty) : Array Value := #[.int .i32 (s.mark.toNat : Int), .int .i64 (s.base : Int), .int .i64 (s.digits : Int), .int .i64 (s.most : Int), .bool s.noughts, .int .i64 (s.count : Int)]
set_option maxRecDepth 100000 in
set_option maxHeartbeats 1000000 in
theorem whole_any (s : Sty) (v d : Nat) (w : World) :
    Calls Tryd.prog 64 #[.agg s.vals, .agg #[.int .i64 (v : Int), .int .i64 (d : Int)]] w fun e w' => e = .returned (.bool (whole s v d)) ∧ Below w.heap.size w w' := by
  have HR : Hid (whole s v d = (decide (0 < d) && decide (v ≤ s.most))) := Lib.hid rfl
  generalize whole s v d = R at *
  unfold Sty.vals
  go_enter Tryd.func64, Tryd.ntmps64
  go_wp2_with fail
  all_goals (go_ret; refine ⟨congrArg Ending.returned (congrArg Value.bool ?_), below2 w _ _⟩; rw [HR.out]; rename_i hx; simp [hx])
theorem below3 (w : World) (a b c : Obj) : Below w.heap.size w (((w.alloc a).alloc b).alloc c) := (((Below.refl _ _).alloc (Nat.le_refl _) a).alloc (by simp) b).alloc (by simp; omega) c
theorem bk_third (w : World) (a b : Obj) (T : TypeId) (V : List Value) : Bk (((w.alloc a).alloc b).alloc (.cells V.toArray T)) (w.heap.size + 1 + 1) T V.toArray := by
  have h := bk_new ((w.alloc a).alloc b) T V.toArray
  have e : ((w.alloc a).alloc b).heap.size = w.heap.size + 1 + 1 := by simp
  rwa [e] at h
/-- May no digit more stand behind a number? -/
def nx1 (s : Sty) (v d : Nat) (x : Int) : Bool := decide ((s.base : Int) ≤ x) || (((d : Int) == (s.digits : Int)) || (decide ((0 : Int) < (d : Int)) && (((v : Int) == 0) && !s.noughts)))
theorem nx1_nxt (s : Sty) (v d : Nat) (c : UInt8) : nxt s v d c = if nx1 s v d (dg c : Int) = true then none else some (v * s.base + dg c, d + 1) := by
  unfold nxt nx1
  by_cases h1 : s.base ≤ dg c
  · rw [if_pos (.inl h1), if_pos (by simp [h1])]
  · by_cases h2 : d = s.digits
    · rw [if_pos (.inr (.inl h2)), if_pos (by simp [h2])]
    · by_cases h3 : 0 < d ∧ v = 0 ∧ s.noughts = false
      · rw [if_pos (.inr (.inr h3)), if_pos (by
          obtain ⟨a, b, c⟩ := h3
          simp [a, b, c])]
      · rw [if_neg (by intro h; rcases h with h | h | h; exact h1 h; exact h2 h; exact h3 h), if_neg]
        intro h
        simp only [Bool.or_eq_true, Bool.and_eq_true, decide_eq_true_eq, Bool.not_eq_true', beq_iff_eq] at h
        rcases h with h | h | ⟨a, b, c⟩
        · exact h1 (by omega)
        · exact h2 (by omega)
        · exact h3 ⟨by omega, by omega, c⟩
theorem Tryd.infoNum : (Tryd.prog.info? 100).map (·.size) = some 2 := by kernel_rfl
set_option maxRecDepth 100000 in
set_option maxHeartbeats 4000000 in
theorem next_any (s : Sty) (v d : Nat) (r : Int) (w : World) (h0 : 0 ≤ r) (h9 : r ≤ 2147483647) (hv : v ≤ 1000000) (hb : s.base ≤ 16) (hd : d ≤ 100) :
    Calls Tryd.prog 65 #[.agg s.vals, .agg #[.int .i64 (v : Int), .int .i64 (d : Int)], .int .i32 r] w fun e w' => (e = .returned (if nx1 s v d (dgI r) = true then .tuple #[.agg #[.int .i64 0, .int .i64 0], .bool false] else .tuple #[.agg #[.int .i64 ((v : Int) * (s.base : Int) + dgI r), .int .i64 ((d : Int) + 1)], .bool true])) ∧ Below w.heap.size w w' := by
  have CD := Lib.hid (fun w => digit_any r w h0 h9)
  have HX : Hid (nx1 s v d (dgI r) = (decide ((s.base : Int) ≤ dgI r) || (((d : Int) == (s.digits : Int)) || (decide ((0 : Int) < (d : Int)) && (((v : Int) == 0) && !s.noughts))))) := Lib.hid rfl
  obtain ⟨hx0, hx9⟩ := dgI_in r
  obtain ⟨A, hA⟩ : ∃ A, A = (if nx1 s v d (dgI r) = true then Value.tuple #[.agg #[.int .i64 0, .int .i64 0], .bool false] else .tuple #[.agg #[.int .i64 ((v : Int) * (s.base : Int) + dgI r), .int .i64 ((d : Int) + 1)], .bool true]) := ⟨_, rfl⟩
  rw [← hA]
  have HA := Lib.hid hA
  clear hA
  generalize nx1 s v d (dgI r) = R at *
  generalize dgI r = x at *
  have hm0 : (0 : Int) ≤ (v : Int) * (s.base : Int) := Int.mul_nonneg (by omega) (by omega)
  have hm1 : (v : Int) * (s.base : Int) ≤ 16000000 := by
    have h : v * s.base ≤ 1000000 * 16 := Nat.mul_le_mul hv hb
    have : ((v * s.base : Nat) : Int) ≤ 16000000 := by omega
    rwa [Int.natCast_mul] at this
  clear h0 h9
  unfold Sty.vals
  go_enter Tryd.func65, Tryd.ntmps65
  go_wp2_with (go_at_call 75; refine (CD.out _).mono ?_; rintro e w9 ⟨rfl, rfl⟩)
  all_goals (refine bodyPost_ret (results_cell2 rfl rfl rfl (run_loadVar_mid _ (w.heap.size + 1 + 1) 0 100 _ _ (bk_third w _ _ _ [_, _]).range Tryd.underlying100 rfl Tryd.infoNum)) rfl ⟨?_, below3 w _ _ _⟩)
  all_goals (refine congrArg Ending.returned ?_; rw [HA.out, HX.out])
  all_goals (clear CD HX HA)
  all_goals (generalize s.noughts = nn at *)
  all_goals (cases nn)
  all_goals (first | (rw [if_pos (by simp at * <;> omega)]; rfl) | (rw [if_neg (by simp at * <;> omega)]; first | rfl | (simp at * <;> simp [*])))
end Go.Proofs.YtkdplnbabelkoaaDoor
