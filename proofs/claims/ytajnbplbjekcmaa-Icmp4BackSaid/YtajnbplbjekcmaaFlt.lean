/-
  Proved here: nothing of its own (what a fault's block is stands in Reader).
  Conditions: none.
-/
import Derived.Test.YtajnbplbjekcmaaNumber
namespace Go.Proofs.Ytajnbplbjekcmaa
open Go.RowKit
end Go.Proofs.Ytajnbplbjekcmaa
