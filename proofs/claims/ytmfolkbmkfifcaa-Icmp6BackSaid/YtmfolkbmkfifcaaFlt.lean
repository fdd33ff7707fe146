/-
  Proved here: nothing of its own (what a fault's block is stands in Reader).
  Conditions: none.
-/
import Derived.Test.YtmfolkbmkfifcaaNumber
namespace Go.Proofs.Ytmfolkbmkfifcaa
open Go.RowKit
end Go.Proofs.Ytmfolkbmkfifcaa
