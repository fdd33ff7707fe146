/-
  Proved here: plain facts: hexadecimal words.
  Conditions: as each fact says.
-/
import Derived.Test.YtkdplnbabelkoaaDoorSix
namespace Go.Proofs.YtkdplnbabelkoaaDoor
open Go.RowKit

/-- A digit's sign. -/
def dgt (k : Nat) : UInt8 := UInt8.ofNat (if k < 10 then 48 + k else 87 + k)
/-- A number's hexadecimal word. -/
def hexd (n : Nat) : List UInt8 := if _h : n < 16 then [dgt n] else hexd (n / 16) ++ [dgt (n % 16)]
termination_by n
decreasing_by omega
theorem hexd_small (n : Nat) (h : n < 16) : hexd n = [dgt n] := by rw [hexd, dif_pos h]
theorem hexd_big (n : Nat) (h : ¬ n < 16) : hexd n = hexd (n / 16) ++ [dgt (n % 16)] := by rw [hexd, dif_neg h]
theorem hexd_len (n : Nat) (h : n < 65536) : 1 ≤ (hexd n).length ∧ (hexd n).length ≤ 4 := by
  by_cases h1 : n < 16
  · rw [hexd_small n h1]; simp
  · rw [hexd_big n h1]
    by_cases h2 : n / 16 < 16
    · rw [hexd_small _ h2]; simp
    · rw [hexd_big _ h2]
      by_cases h3 : n / 16 / 16 < 16
      · rw [hexd_small _ h3]; simp
      · rw [hexd_big _ h3, hexd_small _ (by omega)]; simp
end Go.Proofs.YtkdplnbabelkoaaDoor
