/-
  Proved here: nothing of its own (what a fault's block is stands in Reader).
  Conditions: none.
-/
import Derived.Test.YtljlonligbheaaaNumber
namespace Go.Proofs.Ytljlonligbheaaa
open Go.RowKit
end Go.Proofs.Ytljlonligbheaaa
