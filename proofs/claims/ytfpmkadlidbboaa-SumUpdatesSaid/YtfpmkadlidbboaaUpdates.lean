/-
  Proved here: the law SumUpdates answers true at every input, and leaves old memory as it was.
  Conditions: none.
-/
import Derived.Test.YtfpmkadlidbboaaRefUpd
namespace Go.Proofs.Ytfpmkadlidbboaa
open Go.RowKit

theorem sumUpdates_long (n : Int) (s t : ByteArray) (w : World) (h : 3000 < s.size ∨ s.size ≤ 3000 ∧ 3000 < t.size) :
    Calls Try.prog 5 #[.int .i64 n, .string s, .string t] w fun e w' => e = .returned (.bool true) ∧ Below w.heap.size w w' := by
  rcases h with h | ⟨h, h'⟩
  all_goals
    go_enter Try.func5, Try.ntmps5
    go_wp2_with fail
    refine (awake_true w).mono ?_
    rintro e w1 ⟨rfl, b1⟩
    have hB1 := Lib.hid b1
    clear b1
    go_wp2_with fail
    go_ret
    exact ⟨rfl, hB1.out⟩
theorem sumUpdates_walk (n : Int) (s t : ByteArray) (w : World) (h1 : s.size ≤ 3000) (h2 : t.size ≤ 3000) :
    Calls Try.prog 5 #[.int .i64 n, .string s, .string t] w fun e w' => e = .returned (.bool true) ∧ Below w.heap.size w w' := by
  go_enter Try.func5, Try.ntmps5
  go_wp2_with fail
  refine (awake_true w).mono ?_
  rintro e w1 ⟨rfl, b1⟩
  have hB1 := Lib.hid b1
  clear b1
  go_wp2_with fail
  refine (update_any _ _ _ _ (by omega) (by omega)).mono ?_
  rintro e w2 ⟨rfl, b2⟩
  have hB2 := Lib.hid (hB1.out.trans (b2.mono hB1.out.size))
  clear b2
  go_wp2_with fail
  refine (rupdate_any _ _ _ _ (by omega) (by omega)).mono ?_
  rintro e w3 ⟨rfl, b3⟩
  have hB3 := Lib.hid (hB2.out.trans (b3.mono hB2.out.size))
  clear b3
  go_wp2_with fail
  go_ret
  refine ⟨?_, hB3.out⟩
  simp
theorem sumUpdates_any (n : Int) (s t : ByteArray) (w : World) :
    Calls Try.prog 5 #[.int .i64 n, .string s, .string t] w fun e w' => e = .returned (.bool true) ∧ Below w.heap.size w w' := by
  rcases Nat.lt_or_ge 3000 s.size with h | h
  · exact sumUpdates_long n s t w (.inl h)
  · rcases Nat.lt_or_ge 3000 t.size with h' | h'
    · exact sumUpdates_long n s t w (.inr ⟨h, h'⟩)
    · exact sumUpdates_walk n s t w h h'
end Go.Proofs.Ytfpmkadlidbboaa
