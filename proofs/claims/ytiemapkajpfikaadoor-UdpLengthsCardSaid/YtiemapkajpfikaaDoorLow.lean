/-
  Proved here: what num.Big answers in two bytes, where the number fits.
  Conditions: as each fact says.
-/
import Derived.Test.YtiemapkajpfikaaDoorWordsPlain
import Derived.Test.YtiemapkajpfikaaDoorConv
import Derived.KernelRfl
namespace Go.Proofs.YtiemapkajpfikaaDoor
open Go.RowKit

set_option maxRecDepth 100000 in
theorem big_ok2 (x : Int) (w : World) (h0 : 0 ≤ x) (h1 : x < 65536) (h : (x / 65536 != 0) = false) :
    Calls Tryd.prog 30 #[.int .i64 x, .int .i64 2] w fun e w' => e = .returned (.tuple #[.string (strOfNums [x / 256, x % 256]), .nilIface]) ∧ Below w.heap.size w w' := by
  have hmk : ∀ w, (Instr.makeSlice 90 (.int .i64 2) (.int .i64 2)).run Tryd.prog w = .ok (.slice (some ⟨w.heap.size, 0, none⟩) 2 2) (w.alloc (.cells #[.int .u8 0, .int .u8 0] 5)) := fun _ => by kernel_rfl
  have hcv := conv2
  go_enter Tryd.func30, Tryd.ntmps30
  go_wp2_with fail
  go_rounds 3
  go_ret2
  exact ⟨rfl, (Below.refl _ _).alloc (Nat.le_refl _) _⟩

theorem noHigh (x k : Int) (h0 : 0 ≤ x) (h : x < k) : (x / k != 0) = false := by
  rw [Int.ediv_eq_zero_of_lt h0 h]; rfl

end Go.Proofs.YtiemapkajpfikaaDoor
