/-
  Proved here: martian addresses, by the program's lists (definitions alone).
  Conditions: none.
-/
import Derived.Test.YtchdagdmbjpmcaaDoorMarts
namespace Go.Proofs.YtchdagdmbjpmcaaDoor
open Go.RowKit

def mart4 (a : List UInt8) : Bool := mL4.any fun p => p.holds a
def mart6 (a : List UInt8) : Bool := mL6.any fun p => p.holds a
end Go.Proofs.YtchdagdmbjpmcaaDoor
