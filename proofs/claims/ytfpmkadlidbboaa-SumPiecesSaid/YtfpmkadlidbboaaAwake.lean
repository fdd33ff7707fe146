/-
  Proved here: the laws' own awake, two and clean answer what they should.
  Conditions: none.
-/
import Derived.Test.YtfpmkadlidbboaaAdded
import Derived.Laws.BytesArg
namespace Go.Proofs.Ytfpmkadlidbboaa
open Go.RowKit

theorem awake_true (w : World) :
    Calls Try.prog 12 #[] w fun e w' => e = .returned (.bool true) ∧ Below w.heap.size w w' := by
  have HA := Lib.hid (show sumL (⟨#[69, 0, 0, 28]⟩ : ByteArray).data.toList = 47843 by decide)
  have HB := Lib.hid (show sumL (allOf [⟨#[69]⟩, ⟨#[0, 0, 28]⟩]) = 47843 by decide)
  have HC := Lib.hid (show rightB (allOf [⟨#[69, 0, 0, 28]⟩, ⟨#[186, 227]⟩]) = true by decide)
  go_enter Try.func12, Try.ntmps12
  go_wp2_with fail
  refine (of1 _ _ (by decide)).mono ?_
  rintro e w1 ⟨rfl, b1⟩
  rw [HA.out]
  have B1 := Lib.hid b1
  clear b1
  go_wp2_with fail
  refine (of2 _ _ _ (by decide)).mono ?_
  rintro e w2 ⟨rfl, b2⟩
  rw [HB.out]
  have B2 := Lib.hid b2
  clear b2
  go_wp2_with fail
  refine (right2 _ _ _ (by decide)).mono ?_
  rintro e w3 ⟨rfl, b3⟩
  rw [HC.out]
  have B3 := Lib.hid b3
  clear b3
  go_wp2_with fail
  go_ret
  have h12 := B1.out.trans (B2.out.mono B1.out.size)
  exact ⟨rfl, h12.trans (B3.out.mono h12.size)⟩

/-- Is every byte nought? -/
def cleanB (l : List UInt8) : Bool := l.all (·.toNat == 0)
theorem cleanB_iff (l : List UInt8) (h : Bool) : cleanB l = true ↔ acc h l = 0 := by
  unfold cleanB
  rw [acc_zero]
  simp
theorem cleanB_no {l : List UInt8} (hc : cleanB l = false) : 0 < acc true l := by
  rcases Nat.eq_zero_or_pos (acc true l) with h | h
  · rw [(cleanB_iff l true).2 h] at hc; cases hc
  · exact h
theorem take_all (l : List UInt8) (k : Nat) (h : l.length ≤ k) : l.take k = l := List.take_of_length_le h
theorem clean_any (s : ByteArray) (w : World) (hs : s.size ≤ 9223372036854775806) :
    Calls Try.prog 22 #[.string s] w fun e w' => e = .returned (.bool (cleanB s.data.toList)) ∧ w = w' := by
  go_enter Try.func22, Try.ntmps22
  go_wp2_with fail
  go_loop [3] (fun i => ∃ k : Nat, k ≤ s.size ∧ i = .int .i64 k ∧ Hid (cleanB (s.data.toList.take k) = true)) (fun i => s.size - (intOf i).toNat)
  case atStart => exact ⟨0, Nat.zero_le _, rfl, Lib.hid rfl⟩
  case round =>
    obtain ⟨k, hk, rfl, hC⟩ := hrel
    by_cases hlt : k < s.size
    · have HT := Lib.hid (take_snoc s k hlt)
      by_cases h0 : s[k].toNat = 0
      · have HN : Hid (cleanB (s.data.toList.take (k + 1)) = true) := Lib.hid (by
          rw [HT.out]
          have := hC.out
          unfold cleanB at *
          rw [List.all_append, this]
          simp [h0])
        go_wp2_with fail
        go_round
        case rel => exact ⟨k + 1, by omega, by go_num, HN⟩
        case measure => simp [intOf]; omega
      · have HN : Hid (cleanB s.data.toList = false) := Lib.hid (by
          unfold cleanB
          rw [List.all_eq_false]
          exact ⟨s[k], (show s.data.toList[k]'(by simpa using hlt) ∈ _ from List.getElem_mem _), by simpa using h0⟩)
        go_wp2_with fail
        go_ret
        rw [HN.out]
        exact ⟨rfl, rfl⟩
    · go_wp2_with fail
      go_ret
      have := hC.out
      rw [take_all _ _ (by simp; omega)] at this
      rw [this]
      exact ⟨rfl, rfl⟩
theorem conv2 (a b : Int) (w : World) : (convert 42 9 (.slice (some ⟨w.heap.size, 0, none⟩) 2 2)).run Try.prog (w.alloc (.cells #[.int .u8 a, .int .u8 b] 5)) = .ok (.string (strOfNums [a, b])) (w.alloc (.cells #[.int .u8 a, .int .u8 b] 5)) := by
  refine run_convert_bytes_arg _ 42 5 Try.underlying42 Try.underlying5 w.heap.size 0 2 2 [a, b] rfl (fun i hi => ?_) 9 Try.underlying9
  rw [World.cell?_alloc_new]
  rcases i with _ | _ | i
  · rfl
  · rfl
  · omega
/-- A number's two bytes. -/
def twoB (n : Nat) : ByteArray := strOfNums [(n : Int) / 256, (n : Int) % 256]
theorem twoB_size (n : Nat) : (twoB n).size = 2 := rfl
theorem twoB_len (n : Nat) : (twoB n).data.toList.length = 2 := rfl
theorem u8_of_int {x : Int} (h0 : 0 ≤ x) (h1 : x < 256) : (UInt8.ofNat x.toNat).toNat = x.toNat := by
  rw [UInt8.toNat_ofNat']
  omega
theorem twoB_acc {n : Nat} (h : n ≤ 65535) : acc true (twoB n).data.toList = n := by
  show (UInt8.ofNat ((n : Int) / 256).toNat).toNat * 256 + ((UInt8.ofNat ((n : Int) % 256).toNat).toNat + 0) = n
  rw [u8_of_int (by omega) (by omega), u8_of_int (by omega) (by omega)]
  omega
set_option maxRecDepth 100000 in
theorem two_any (n : Nat) (w : World) (hn : n ≤ 65535) :
    Calls Try.prog 23 #[.int .i64 n] w fun e w' => e = .returned (.string (twoB n)) ∧ Below w.heap.size w w' := by
  have hcv := conv2
  go_enter Try.func23, Try.ntmps23
  go_wp2_with fail
  go_ret
  exact ⟨rfl, (Below.refl _ _).alloc (Nat.le_refl _) _⟩
end Go.Proofs.Ytfpmkadlidbboaa
