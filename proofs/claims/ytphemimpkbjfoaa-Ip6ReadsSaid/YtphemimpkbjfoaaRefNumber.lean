/-
  Proved here: what the document's number, bound and put answer.
  Conditions: a text of at most 70000 bytes, that has the bytes.
-/
import Derived.Test.YtphemimpkbjfoaaRef
namespace Go.Proofs.Ytphemimpkbjfoaa
open Go.RowKit

theorem Rr.newAt (w : World) (s : ByteArray) (i : Nat) : Rr (w.alloc (.cells #[.string s, .int .i64 i, .int .i64 0, .int .i64 0] 108)) w.heap.size s i 0 0 := by
  show (w.heap.push _)[w.heap.size]? = _
  simp
theorem rnumber_any (s : ByteArray) (i n : Nat) (w : World) (hs : s.size ≤ 70000) (hn : n ≤ 4) (hi : i + n ≤ s.size) :
    Calls Try.prog 43 #[.string s, .int .i64 i, .int .i64 n] w fun e w' => e = .returned (.int .i64 (numOf (s.extract i (i + n)).data.toList : Nat)) ∧ Below w.heap.size w w' := by
  have hm : s.size ≤ maxLen := by unfold maxLen; omega
  have hR := Rr.newAt w s i
  have hz : (s.extract i (i + n)).size = n := by simp; omega
  have hT := rtext_ok hR hm n (by rw [decide_eq_false_iff_not]; omega) hi (by rw [decide_eq_false_iff_not]; omega)
  have hN := rnum_of n (by omega) hT
  have HN := Lib.hid hN
  clear hN hT hR hz hm
  generalize numOf (s.extract i (i + n)).data.toList = X at *
  go_enter Try.func43, Try.ntmps43
  go_wp2_with fail
  refine HN.out.mono ?_
  rintro e w1 ⟨rfl, hr, hg⟩
  have HB := Lib.hid (((Below.refl w.heap.size w).alloc (Nat.le_refl _) (.cells #[.string s, .int .i64 i, .int .i64 0, .int .i64 0] 108)).grown hg (by simp) (by simp))
  clear hr hg
  go_wp2_with fail
  go_ret
  exact ⟨rfl, HB.out⟩
/-- Is a number from 0 to another one? -/
def inB (x m : Int) : Bool := decide (0 ≤ x) && decide (x ≤ m)
theorem inB_iff (x m : Int) : inB x m = true ↔ 0 ≤ x ∧ x ≤ m := by unfold inB; simp
theorem rbound_any (x m : Int) (w : World) :
    Calls Try.prog 64 #[.int .i64 x, .int .i64 m] w fun e w' => e = .returned (.bool (inB x m)) ∧ w = w' := by
  unfold inB
  by_cases h : 0 ≤ x
  · have h1 : decide (0 ≤ x) = true := by simpa using h
    rw [h1, Bool.true_and]
    clear h
    go_enter Try.func64, Try.ntmps64
    go_wp2_with fail
    go_ret
    exact ⟨rfl, rfl⟩
  · have h1 : decide (0 ≤ x) = false := by simpa using h
    rw [h1, Bool.false_and]
    clear h
    go_enter Try.func64, Try.ntmps64
    go_wp2_with fail
    go_ret
    exact ⟨rfl, rfl⟩
theorem rbound_at (x m : Int) (b : Bool) (h : inB x m = b) (w : World) :
    Calls Try.prog 64 #[.int .i64 x, .int .i64 m] w fun e w' => e = .returned (.bool b) ∧ w = w' := h ▸ rbound_any x m w
end Go.Proofs.Ytphemimpkbjfoaa
