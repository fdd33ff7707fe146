/-
  Proved here: what the document's bounds and Plateau answer.
  Conditions: none.
-/
import Derived.Test.YtnehabpdpkjaeaaDoorIc
namespace Go.Proofs.YtnehabpdpkjaeaaDoor
open Go.RowKit

theorem rbounds_0 (a b : Int) (w : World) (h0 : ¬ 68 ≤ a) : Calls Tryd.prog 23 #[.int .i64 a, .int .i64 b] w fun e w' => e = .returned (.bool false) ∧ w = w' := by
  have k0 : a < 68 := by omega
  go_enter Tryd.func23, Tryd.ntmps23
  go_wp2_with fail
  go_ret
  exact ⟨rfl, rfl⟩
theorem rbounds_1 (a b : Int) (w : World) (h0 : 68 ≤ a) (h1 : ¬ a ≤ 65535) : Calls Tryd.prog 23 #[.int .i64 a, .int .i64 b] w fun e w' => e = .returned (.bool false) ∧ w = w' := by
  have k1 : 65535 < a := by omega
  go_enter Tryd.func23, Tryd.ntmps23
  go_wp2_with fail
  go_ret
  exact ⟨rfl, rfl⟩
theorem rbounds_2 (a b : Int) (w : World) (h0 : 68 ≤ a) (h1 : a ≤ 65535) (h2 : ¬ 1280 ≤ b) : Calls Tryd.prog 23 #[.int .i64 a, .int .i64 b] w fun e w' => e = .returned (.bool false) ∧ w = w' := by
  have k2 : b < 1280 := by omega
  go_enter Tryd.func23, Tryd.ntmps23
  go_wp2_with fail
  go_ret
  exact ⟨rfl, rfl⟩
theorem rbounds_3 (a b : Int) (w : World) (h0 : 68 ≤ a) (h1 : a ≤ 65535) (h2 : 1280 ≤ b) (h3 : ¬ b ≤ 65575) : Calls Tryd.prog 23 #[.int .i64 a, .int .i64 b] w fun e w' => e = .returned (.bool false) ∧ w = w' := by
  have k3 : 65575 < b := by omega
  go_enter Tryd.func23, Tryd.ntmps23
  go_wp2_with fail
  go_ret
  exact ⟨rfl, rfl⟩
theorem rbounds_4 (a b : Int) (w : World) (h0 : 68 ≤ a) (h1 : a ≤ 65535) (h2 : 1280 ≤ b) (h3 : b ≤ 65575) : Calls Tryd.prog 23 #[.int .i64 a, .int .i64 b] w fun e w' => e = .returned (.bool true) ∧ w = w' := by
  go_enter Tryd.func23, Tryd.ntmps23
  go_wp2_with fail
  go_ret
  exact ⟨rfl, rfl⟩
theorem rbounds_any (a b : Int) (w : World) : Calls Tryd.prog 23 #[.int .i64 a, .int .i64 b] w fun e w' => e = .returned (.bool (mtus a b)) ∧ w = w' := by
  by_cases h0 : 68 ≤ a
  rotate_left
  · rw [show mtus a b = false by cases hq : mtus a b; rfl; have := mtus_iff.1 hq; omega]
    exact rbounds_0 a b w h0
  by_cases h1 : a ≤ 65535
  rotate_left
  · rw [show mtus a b = false by cases hq : mtus a b; rfl; have := mtus_iff.1 hq; omega]
    exact rbounds_1 a b w h0 h1
  by_cases h2 : 1280 ≤ b
  rotate_left
  · rw [show mtus a b = false by cases hq : mtus a b; rfl; have := mtus_iff.1 hq; omega]
    exact rbounds_2 a b w h0 h1 h2
  by_cases h3 : b ≤ 65575
  rotate_left
  · rw [show mtus a b = false by cases hq : mtus a b; rfl; have := mtus_iff.1 hq; omega]
    exact rbounds_3 a b w h0 h1 h2 h3
  rw [mtus_iff.2 ⟨h0, h1, h2, h3⟩]
  exact rbounds_4 a b w h0 h1 h2 h3
def plL : List Int := [68, 296, 508, 1006, 1492, 2002, 4352, 8166, 17914, 32000, 65535]
/-- The best of the first k. -/
def bestN (n : Int) : Nat → Int
  | 0 => 68
  | k + 1 => if plL.getD k 0 < n then plL.getD k 0 else bestN n k
theorem best_all (n : Int) : bestN n 11 = plat n := by
  have e : bestN n 11 = (if (65535 : Int) < n then 65535 else if (32000 : Int) < n then 32000 else if (17914 : Int) < n then 17914 else if (8166 : Int) < n then 8166 else if (4352 : Int) < n then 4352 else if (2002 : Int) < n then 2002 else if (1492 : Int) < n then 1492 else if (1006 : Int) < n then 1006 else if (508 : Int) < n then 508 else if (296 : Int) < n then 296 else if (68 : Int) < n then 68 else 68) := rfl
  rw [e]
  unfold plat
  omega
set_option maxRecDepth 100000 in
set_option maxHeartbeats 1000000 in
theorem rplat_any (n : Int) (w : World) : Calls Tryd.prog 17 #[.int .i64 n] w fun e w' => e = .returned (.int .i64 (plat n)) ∧ Below w.heap.size w w' := by
  have HB := Lib.hid ((Below.refl w.heap.size w).alloc (Nat.le_refl _) (.cells #[.int .i64 68, .int .i64 296, .int .i64 508, .int .i64 1006, .int .i64 1492, .int .i64 2002, .int .i64 4352, .int .i64 8166, .int .i64 17914, .int .i64 32000, .int .i64 65535] 3))
  have HC : Hid (∀ k, k < 11 → (w.alloc (.cells #[.int .i64 68, .int .i64 296, .int .i64 508, .int .i64 1006, .int .i64 1492, .int .i64 2002, .int .i64 4352, .int .i64 8166, .int .i64 17914, .int .i64 32000, .int .i64 65535] 3)).cell? ⟨w.heap.size, k, none⟩ = some (.int .i64 (plL.getD k 0))) := Lib.hid (fun k hk => by
    rw [World.cell?_alloc_new]
    match k, hk with
    | 0, _ => rfl
    | 1, _ => rfl
    | 2, _ => rfl
    | 3, _ => rfl
    | 4, _ => rfl
    | 5, _ => rfl
    | 6, _ => rfl
    | 7, _ => rfl
    | 8, _ => rfl
    | 9, _ => rfl
    | 10, _ => rfl)
  generalize hw1 : w.alloc (.cells #[.int .i64 68, .int .i64 296, .int .i64 508, .int .i64 1006, .int .i64 1492, .int .i64 2002, .int .i64 4352, .int .i64 8166, .int .i64 17914, .int .i64 32000, .int .i64 65535] 3) = w1 at *
  go_enter Tryd.func17, Tryd.ntmps17
  go_wp2_with fail
  try rw [hw1]
  clear hw1
  go_loop [4, 5] (fun m i => ∃ k : Nat, k ≤ 11 ∧ i = .int .i64 k ∧ m = .int .i64 (bestN n k)) (fun _ i => 12 - (intOf i).toNat)
  case atStart => exact ⟨0, Nat.zero_le _, rfl, rfl⟩
  case round =>
    obtain ⟨k, hk, rfl, rfl⟩ := hrel
    by_cases hlt : k < 11
    · have hc := HC.out k hlt
      have hi : (k : Int) < 11 := by omega
      by_cases hv : plL.getD k 0 < n
      · have HE : Hid (bestN n (k + 1) = plL.getD k 0) := Lib.hid (by unfold bestN; rw [if_pos hv])
        generalize plL.getD k 0 = x at *
        generalize bestN n k = y at *
        go_wp2_with fail
        go_round
        case rel => exact ⟨k + 1, by omega, by go_num, by rw [HE.out]⟩
        case measure => simp [intOf]; omega
      · have HE : Hid (bestN n (k + 1) = bestN n k) := Lib.hid (by unfold bestN; rw [if_neg hv]; cases k <;> rfl)
        generalize plL.getD k 0 = x at *
        generalize bestN n k = y at *
        go_wp2_with fail
        go_round
        case rel => exact ⟨k + 1, by omega, by go_num, by rw [HE.out]⟩
        case measure => simp [intOf]; omega
    · obtain rfl : k = 11 := by omega
      rw [best_all]
      go_wp2_with fail
      go_ret
      exact ⟨rfl, HB.out⟩
end Go.Proofs.YtnehabpdpkjaeaaDoor
