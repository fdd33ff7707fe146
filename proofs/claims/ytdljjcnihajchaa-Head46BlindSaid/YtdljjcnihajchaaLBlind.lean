/-
  Proved here: the law Head46Blind answers true.
  Conditions: none.
-/
import Derived.Test.YtdljjcnihajchaaLBlindX
namespace Go.Proofs.Ytdljjcnihajchaa
open Go.RowKit

theorem head46Blind_any (p : P4.Pkt) (F T : List UInt8) (w : World) (hF : F.length = 16) (hT : T.length = 16) :
    Calls Try.prog 6 #[.agg p.vals.toArray, .agg (bytV F).toArray, .agg (bytV T).toArray] w fun e w' => e = .returned (.bool true) ∧ Below w.heap.size w w' := by
  by_cases hd : (70000 : Int) < (p.data.size : Int)
  · exact blind_data p F T hF hT w hd
  by_cases ho : (1000 : Int) < (p.opts.size : Int)
  · exact blind_opts p F T hF hT w hd ho
  by_cases hh : hcode p = 0
  · by_cases hw : (h46 p F T hF hT).why = 0
    · exact blind_mainA p F T hF hT w hd ho hh hw
    · exact blind_mainB p F T hF hT w hd ho hh hw
  · exact blind_mainC p F T hF hT w hd ho hh
end Go.Proofs.Ytdljjcnihajchaa
