/-
  Proved here: the law SumOf answers true at every input, and leaves old memory as it was.
  Conditions: the pieces' cells hold texts.
-/
import Derived.Test.YtfpmkadlidbboaaRefOf
import Derived.WalkLawsBesides
namespace Go.Proofs.Ytfpmkadlidbboaa
open Go.RowKit

def catB (S : Nat → ByteArray) : Nat → ByteArray
  | 0 => ⟨#[]⟩
  | k + 1 => catB S k ++ S k
theorem catB_list (S : Nat → ByteArray) : ∀ k, (catB S k).data.toList = catL S k
  | 0 => rfl
  | k + 1 => by simp [catB, catL, catB_list S k]
theorem catB_size (S : Nat → ByteArray) (k : Nat) : (catB S k).size = (catL S k).length := by rw [← catB_list]; simp
/-- The law's own count of the pieces' bytes. -/
def cnt (S : Nat → ByteArray) : Nat → Nat
  | 0 => 0
  | k + 1 => cnt S k + min (S k).size 70001
theorem cnt_le (S : Nat → ByteArray) : ∀ k, cnt S k ≤ 70001 * k
  | 0 => Nat.le_refl _
  | k + 1 => by have := cnt_le S k; simp only [cnt]; omega
theorem cnt_len (S : Nat → ByteArray) : ∀ k, cnt S k ≤ 70000 → (catL S k).length = cnt S k
  | 0, _ => rfl
  | k + 1, h => by
    simp only [cnt] at h
    have := cnt_len S k (by omega)
    simp only [catL, cnt, List.length_append]
    rw [this, show (S k).data.toList.length = (S k).size by simp]
    omega
theorem Pcs.below {w w' : World} {ao : Option Addr} {len : Nat} {S : Nat → ByteArray} (h : Pcs w ao len S) (hb : Below w.heap.size w w') : Pcs w' ao len S := by
  intro i hi
  obtain ⟨b, o, e, hc⟩ := h i hi
  exact ⟨b, o, e, (hb.cell (World.block_lt_of_cell? w _ hc)).trans hc⟩

set_option maxRecDepth 100000 in
set_option maxHeartbeats 1000000 in
theorem sumOf_any (ao : Option Addr) (len cap : Nat) (S : Nat → ByteArray) (w : World) (hP : Pcs w ao len S ∧ len ≤ maxLen ∧ ∀ i, i < len → (S i).size ≤ maxLen) :
    Calls Try.prog 4 #[.slice ao len cap] w fun e w' => e = .returned (.bool true) ∧ Below w.heap.size w w' := by
  obtain ⟨hP, hlen, hsz⟩ := hP
  unfold maxLen at hlen hsz
  have HP := Lib.hid hP
  have HZ := Lib.hid hsz
  clear hP hsz
  go_enter Try.func4, Try.ntmps4
  go_wp2_with fail
  refine (awake_true w).mono ?_
  rintro e w1 ⟨rfl, b1⟩
  have hB1 := Lib.hid b1
  have HP1 := Lib.hid (HP.out.below b1)
  clear b1
  go_wp2_with fail
  go_loop [3, 5] (fun n i => ∃ k : Nat, k ≤ len ∧ k ≤ 21 ∧ i = .int .i64 k ∧ n = .int .i64 (cnt S k : Nat)) (fun _ i => 21 - (intOf i).toNat)
  case atStart => exact ⟨0, Nat.zero_le _, by omega, rfl, rfl⟩
  case round =>
    obtain ⟨k, hk, hk2, rfl, rfl⟩ := hrel
    have hc9 := cnt_le S k
    by_cases hlt : k < len
    · by_cases hlt2 : k ≤ 20
      · obtain ⟨b, o, rfl, hc⟩ := HP1.out k hlt
        have hs9 := HZ.out k hlt
        have HN := Lib.hid (show cnt S (k + 1) = cnt S k + min (S k).size 70001 from rfl)
        rcases Nat.lt_or_ge (S k).size 70001 with hz | hz
        · go_wp2_with fail
          go_round
          case rel => exact ⟨k + 1, by omega, by omega, by go_num, by rw [HN.out]; go_num⟩
          case measure => simp [intOf]; omega
        · go_wp2_with fail
          go_round
          case rel => exact ⟨k + 1, by omega, by omega, by go_num, by rw [HN.out]; go_num⟩
          case measure => simp [intOf]; omega
      · go_wp2_with fail
        go_ret
        exact ⟨rfl, hB1.out⟩
    · obtain rfl : k = len := by omega
      by_cases h20 : 20 < k
      · go_wp2_with fail
        go_ret
        exact ⟨rfl, hB1.out⟩
      · by_cases h7 : 70000 < cnt S k
        · go_wp2_with fail
          go_ret
          exact ⟨rfl, hB1.out⟩
        · have hall : (catL S k).length ≤ 70000 := by rw [cnt_len S k (by omega)]; omega
          have HALL := Lib.hid hall
          clear hall
          go_wp2_with fail
          go_loop [4, 6] (fun t i => ∃ j : Nat, j ≤ k ∧ i = .int .i64 j ∧ t = .string (catB S j)) (fun _ i => k - (intOf i).toNat)
          case atStart => exact ⟨0, Nat.zero_le _, rfl, rfl⟩
          case round =>
            obtain ⟨j, hj, rfl, rfl⟩ := hrel
            have hz1 : (catB S j).size ≤ 70000 := by rw [catB_size]; exact Nat.le_trans (catL_le S hj) HALL.out
            by_cases hlt3 : j < k
            · obtain ⟨b, o, rfl, hc⟩ := HP1.out j hlt3
              have hz2 : (S j).size ≤ 70000 := by
                have h1 := catL_le S (show j + 1 ≤ k from hlt3)
                have h2 := HALL.out
                rw [show (catL S (j + 1)).length = (catL S j).length + (S j).size by show (catL S j ++ (S j).data.toList).length = _; simp] at h1
                omega
              go_wp2_with fail
              go_round
              case rel => exact ⟨j + 1, by omega, by go_num, rfl⟩
              case measure => simp [intOf]; omega
            · obtain rfl : j = k := by omega
              go_wp2_with fail
              refine (of_any _ _ _ S _ (by omega) HP1.out (Nat.le_trans HALL.out (by omega))).mono ?_
              rintro e w2 ⟨rfl, rfl⟩
              have hX := sumL_le (catL S j)
              go_wp2_with fail
              refine (rof_any _ _ hz1).mono ?_
              rintro e w3 ⟨rfl, b3⟩
              have HB3 := Lib.hid (hB1.out.trans (b3.mono hB1.out.size))
              have HP3 := Lib.hid (HP.out.below HB3.out)
              clear b3
              rw [catB_list]
              go_wp2_with fail
              refine (right_any _ _ _ S _ (by omega) HP3.out (Nat.le_trans HALL.out (by omega))).mono ?_
              rintro e w4 ⟨rfl, rfl⟩
              go_wp2_with fail
              refine (rof_any _ _ hz1).mono ?_
              rintro e w5 ⟨rfl, b5⟩
              have HB5 := Lib.hid (HB3.out.trans (b5.mono HB3.out.size))
              clear b5
              rw [catB_list]
              have hrt : ((rightB (catL S j)) == (((sumL (catL S j) : Nat) : Int) == 0)) = true := by unfold rightB; simp
              go_wp2_with fail
              go_ret
              exact ⟨rfl, HB5.out⟩
end Go.Proofs.Ytfpmkadlidbboaa
