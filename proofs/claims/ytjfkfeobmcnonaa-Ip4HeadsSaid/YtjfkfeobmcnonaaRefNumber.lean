/-
  Proved here: what the document's number answers.
  Conditions: a text of at most 70000 bytes, that has the two bytes.
-/
import Derived.Test.YtjfkfeobmcnonaaMeasure
import Derived.Test.YtjfkfeobmcnonaaRef
namespace Go.Proofs.Ytjfkfeobmcnonaa
open Go.RowKit

theorem Rr.newAt (w : World) (s : ByteArray) (i : Nat) : Rr (w.alloc (.cells #[.string s, .int .i64 i, .int .i64 0, .int .i64 0] 104)) w.heap.size s i 0 0 := by
  show (w.heap.push _)[w.heap.size]? = _
  simp
theorem rnumber_any (s : ByteArray) (i : Nat) (w : World) (hs : s.size ≤ 70000) (hi : i + 2 ≤ s.size) :
    Calls Try.prog 39 #[.string s, .int .i64 i] w fun e w' => e = .returned (.int .i64 (num2 s i : Nat)) ∧ Below w.heap.size w w' := by
  have hm : s.size ≤ maxLen := by unfold maxLen; omega
  have hR := Rr.newAt w s i
  have hz : (s.extract i (i + 2)).size = 2 := by simp; omega
  have hT := rtext_ok hR hm 2 (by rw [decide_eq_false_iff_not]; omega) hi (by rw [decide_eq_false_iff_not]; omega)
  have hN := rnum_of 2 (by omega) hT
  rw [numOf_two s i (by omega)] at hN
  have HN := Lib.hid hN
  clear hN hT hR hz hm
  go_enter Try.func39, Try.ntmps39
  go_wp2_with fail
  refine HN.out.mono ?_
  rintro e w1 ⟨rfl, hr, hg⟩
  have HB := Lib.hid (((Below.refl w.heap.size w).alloc (Nat.le_refl _) (.cells #[.string s, .int .i64 i, .int .i64 0, .int .i64 0] 104)).grown hg (by simp) (by simp))
  clear hr hg
  go_wp2_with fail
  go_ret
  exact ⟨rfl, HB.out⟩
end Go.Proofs.Ytjfkfeobmcnonaa
