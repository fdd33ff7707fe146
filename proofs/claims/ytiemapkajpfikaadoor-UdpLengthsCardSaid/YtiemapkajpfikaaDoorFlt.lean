/-
  Proved here: nothing of its own (what a fault's block is stands in Reader).
  Conditions: none.
-/
import Derived.Test.YtiemapkajpfikaaDoorNumber
namespace Go.Proofs.YtiemapkajpfikaaDoor
open Go.RowKit
end Go.Proofs.YtiemapkajpfikaaDoor
