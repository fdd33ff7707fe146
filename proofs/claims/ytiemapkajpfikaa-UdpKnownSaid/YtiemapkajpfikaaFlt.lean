/-
  Proved here: nothing of its own (what a fault's block is stands in Reader).
  Conditions: none.
-/
import Derived.Test.YtiemapkajpfikaaNumber
namespace Go.Proofs.Ytiemapkajpfikaa
open Go.RowKit
end Go.Proofs.Ytiemapkajpfikaa
