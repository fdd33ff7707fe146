/-
  Proved here: the well-known prefix' word.
  Conditions: what the library's variables hold.
-/
import Derived.Test.YtkkgcmfcfacakaaDoorAwakec
namespace Go.Proofs.YtkkgcmfcfacakaaDoor
open Go.RowKit

theorem knw_ok : okN6 ⟨#[54, 52, 58, 102, 102, 57, 98, 58, 58, 47, 57, 54]⟩ = true := by decide +kernel
theorem knw_ad : (valN6 ⟨#[54, 52, 58, 102, 102, 57, 98, 58, 58, 47, 57, 54]⟩).ad = ([0, 100, 255, 155, 0, 0, 0, 0, 0, 0, 0, 0, 0, 0, 0, 0] : List UInt8) := by decide +kernel
theorem knw_ln : (valN6 ⟨#[54, 52, 58, 102, 102, 57, 98, 58, 58, 47, 57, 54]⟩).ln = 96 := by decide +kernel
theorem knw_v : valN6 ⟨#[54, 52, 58, 102, 102, 57, 98, 58, 58, 47, 57, 54]⟩ = ⟨[0, 100, 255, 155, 0, 0, 0, 0, 0, 0, 0, 0, 0, 0, 0, 0], 96⟩ := by
  have h1 := knw_ad
  have h2 := knw_ln
  cases h : valN6 ⟨#[54, 52, 58, 102, 102, 57, 98, 58, 58, 47, 57, 54]⟩ with
  | mk a l =>
    rw [h] at h1 h2
    subst h1 h2
    rfl
theorem knw_p (W : World) (h0 : Hw W) : Calls Tryd.prog 16 #[.string ⟨#[54, 52, 58, 102, 102, 57, 98, 58, 58, 47, 57, 54]⟩] W fun e w' => e = .returned (.tuple #[.agg (Nn.mk [0, 100, 255, 155, 0, 0, 0, 0, 0, 0, 0, 0, 0, 0, 0, 0] 96).vals.toArray, .bool true]) ∧ Below W.heap.size W w' := by
  have h := parsenet6_any ⟨#[54, 52, 58, 102, 102, 57, 98, 58, 58, 47, 57, 54]⟩ W (by decide) h0.ml
  rwa [knw_v, knw_ok] at h
end Go.Proofs.YtkkgcmfcfacakaaDoor
