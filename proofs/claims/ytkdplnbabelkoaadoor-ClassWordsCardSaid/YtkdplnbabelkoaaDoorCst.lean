/-
  Proved here: the laws' own words, evaluated.
  Conditions: none.
-/
import Derived.Test.YtkdplnbabelkoaaDoorNetp
import Derived.Test.YtkdplnbabelkoaaDoorText6
import Derived.Test.YtkdplnbabelkoaaDoorMayp
namespace Go.Proofs.YtkdplnbabelkoaaDoor
open Go.RowKit

/-- What the laws' premises give. -/
structure Hw (w : World) : Prop where
  db : Db w
  tb : Tb w
  ml : ML w
theorem Hw.below {w w' : World} (h : Hw w) (hb : Below w.heap.size w w') : Hw w' := ⟨h.db.below hb, h.tb.below hb, h.ml.below hb⟩
theorem c4host_ok : ok4 ⟨#[49, 57, 50, 46, 48, 46, 50, 46, 51, 51]⟩ = true := by decide +kernel
theorem c4host_val : val4u ⟨#[49, 57, 50, 46, 48, 46, 50, 46, 51, 51]⟩ = ([192, 0, 2, 33] : List UInt8) := by decide +kernel
theorem c4host_p (W : World) : Calls Tryd.prog 14 #[.string ⟨#[49, 57, 50, 46, 48, 46, 50, 46, 51, 51]⟩] W fun e w' => e = .returned (.tuple #[.agg (bu [192, 0, 2, 33]).toArray, .bool true]) ∧ Below W.heap.size W w' := by
  have h := parse4_any ⟨#[49, 57, 50, 46, 48, 46, 50, 46, 51, 51]⟩ W
  rwa [← val4u_b8, c4host_val, c4host_ok] at h
theorem c4host_t : txt4 [192, 0, 2, 33] = [49, 57, 50, 46, 48, 46, 50, 46, 51, 51] := by decide +kernel
theorem c4host_tp (W : World) (h0 : Hw W) : Calls Tryd.prog 32 #[.agg (bu [192, 0, 2, 33]).toArray] W fun e w' => e = .returned (.string ⟨#[49, 57, 50, 46, 48, 46, 50, 46, 51, 51]⟩) ∧ Below W.heap.size W w' := by
  have h := text4_any [192, 0, 2, 33] W rfl h0.tb
  rwa [c4host_t] at h
theorem c6doc_ok : ok6 ⟨#[50, 48, 48, 49, 58, 68, 66, 56, 58, 58, 49]⟩ = true := by decide +kernel
theorem c6doc_val : val6u ⟨#[50, 48, 48, 49, 58, 68, 66, 56, 58, 58, 49]⟩ = ([32, 1, 13, 184, 0, 0, 0, 0, 0, 0, 0, 0, 0, 0, 0, 1] : List UInt8) := by decide +kernel
theorem c6doc_p (W : World) (h0 : Hw W) : Calls Tryd.prog 13 #[.string ⟨#[50, 48, 48, 49, 58, 68, 66, 56, 58, 58, 49]⟩] W fun e w' => e = .returned (.tuple #[.agg (bu [32, 1, 13, 184, 0, 0, 0, 0, 0, 0, 0, 0, 0, 0, 0, 1]).toArray, .bool true]) ∧ Below W.heap.size W w' := by
  have h := parse6_any ⟨#[50, 48, 48, 49, 58, 68, 66, 56, 58, 58, 49]⟩ W (by decide) h0.ml
  rwa [← val6u_b8, c6doc_val, c6doc_ok] at h
theorem c6doc_t : txt6 [32, 1, 13, 184, 0, 0, 0, 0, 0, 0, 0, 0, 0, 0, 0, 1] = [50, 48, 48, 49, 58, 100, 98, 56, 58, 58, 49] := by decide +kernel
theorem c6doc_tp (W : World) (h0 : Hw W) : Calls Tryd.prog 12 #[.agg (bu [32, 1, 13, 184, 0, 0, 0, 0, 0, 0, 0, 0, 0, 0, 0, 1]).toArray] W fun e w' => e = .returned (.string ⟨#[50, 48, 48, 49, 58, 100, 98, 56, 58, 58, 49]⟩) ∧ Below W.heap.size W w' := by
  have h := text6_any [32, 1, 13, 184, 0, 0, 0, 0, 0, 0, 0, 0, 0, 0, 0, 1] W rfl h0.db
  rwa [c6doc_t] at h
end Go.Proofs.YtkdplnbabelkoaaDoor
