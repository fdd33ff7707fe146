/-
  Proved here: what the program's mayHave answers.
  Conditions: none.
-/
import Derived.Test.YtpjcanejenmldaaEq
namespace Go.Proofs.Ytpjcanejenmldaa
open Go.RowKit

set_option maxRecDepth 100000 in
theorem may_any (L : Int) (w : World) :
    Calls Try.prog 22 #[.int .i64 L] w fun e w' => e = .returned (.bool (okL L)) ∧ w' = w := by
  go_enter Try.func22, Try.ntmps22
  cases hok : okL L
  · obtain ⟨h1, h2, h3, h4, h5, h6⟩ := okL_not hok
    have n32 : (L == 32) = false := by rw [beq_eq_false_iff_ne]; exact h1
    have n40 : (L == 40) = false := by rw [beq_eq_false_iff_ne]; exact h2
    have n48 : (L == 48) = false := by rw [beq_eq_false_iff_ne]; exact h3
    have n56 : (L == 56) = false := by rw [beq_eq_false_iff_ne]; exact h4
    have n64 : (L == 64) = false := by rw [beq_eq_false_iff_ne]; exact h5
    have n96 : (L == 96) = false := by rw [beq_eq_false_iff_ne]; exact h6
    clear h1 h2 h3 h4 h5 h6 hok
    go_wp2_with fail
    go_ret
    exact ⟨rfl, rfl⟩
  · rcases okL_cases hok with rfl | rfl | rfl | rfl | rfl | rfl
    · clear hok
      go_wp2_with fail
      go_ret
      exact ⟨rfl, rfl⟩
    · clear hok
      go_wp2_with fail
      go_ret
      exact ⟨rfl, rfl⟩
    · clear hok
      go_wp2_with fail
      go_ret
      exact ⟨rfl, rfl⟩
    · clear hok
      go_wp2_with fail
      go_ret
      exact ⟨rfl, rfl⟩
    · clear hok
      go_wp2_with fail
      go_ret
      exact ⟨rfl, rfl⟩
    · clear hok
      go_wp2_with fail
      go_ret
      exact ⟨rfl, rfl⟩
end Go.Proofs.Ytpjcanejenmldaa
