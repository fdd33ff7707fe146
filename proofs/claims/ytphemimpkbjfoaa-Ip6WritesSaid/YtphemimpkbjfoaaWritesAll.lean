/-
  Proved here: the law Ip6Writes answers true whatever it is given.
  Conditions: the packet's sizes are within the form's own reach.
-/
import Derived.Test.YtphemimpkbjfoaaRefBytes
namespace Go.Proofs.Ytphemimpkbjfoaa
open Go.RowKit

theorem ip6Writes_any (p : Pk6) (v : Value) (w : World) (hx : Exs w v p.exts) (hr : Reach6 p) :
    Calls Try.prog 4 #[.agg (p.vals v).toArray] w fun e w' => e = .returned (.bool true) ∧ Below w.heap.size w w' := by
  cases hg : p.great
  · exact ip6Writes_small p v w hx hr hg (fun W hW => rbytes_any p v W hW (sm_great hg) hr.id)
  · exact ip6Writes_great p v w hx hr hg
end Go.Proofs.Ytphemimpkbjfoaa
