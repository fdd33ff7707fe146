/-
  Proved here: what num.Big answers where the number fits.
  Conditions: none.
-/
import Derived.Test.YtdljjcnihajchaaFWords
namespace Go.Proofs.Ytdljjcnihajchaa.P4
open Go.RowKit

theorem conv4 (a b c d : Int) (w : World) : (convert 72 9 (.slice (some ⟨w.heap.size, 0, none⟩) 4 4)).run Try.prog (w.alloc (.cells #[.int .u8 a, .int .u8 b, .int .u8 c, .int .u8 d] 5)) = .ok (.string (strOfNums [a, b, c, d])) (w.alloc (.cells #[.int .u8 a, .int .u8 b, .int .u8 c, .int .u8 d] 5)) := by
  refine run_convert_bytes_arg _ 72 5 Try.underlying72 Try.underlying5 w.heap.size 0 4 4 [a, b, c, d] rfl (fun i hi => ?_) 9 Try.underlying9
  rw [World.cell?_alloc_new]
  rcases i with _ | _ | _ | _ | i
  · rfl
  · rfl
  · rfl
  · rfl
  · omega

set_option maxRecDepth 100000 in
theorem big_ok1 (x : Int) (w : World) (h0 : 0 ≤ x) (h1 : x < 256) (h : (x / 256 != 0) = false) :
    Calls Try.prog 44 #[.int .i64 x, .int .i64 1] w fun e w' => e = .returned (.tuple #[.string (strOfNums [x]), .nilIface]) ∧ Below w.heap.size w w' := by
  have hmk : ∀ w, (Instr.makeSlice 72 (.int .i64 1) (.int .i64 1)).run Try.prog w = .ok (.slice (some ⟨w.heap.size, 0, none⟩) 1 1) (w.alloc (.cells #[.int .u8 0] 5)) := fun _ => by kernel_rfl
  have hcv := conv1
  go_enter Try.func44, Try.ntmps44
  go_wp2_with fail
  go_rounds 2
  go_ret2
  exact ⟨rfl, (Below.refl _ _).alloc (Nat.le_refl _) _⟩

set_option maxRecDepth 100000 in
theorem big_ok2 (x : Int) (w : World) (h0 : 0 ≤ x) (h1 : x < 65536) (h : (x / 65536 != 0) = false) :
    Calls Try.prog 44 #[.int .i64 x, .int .i64 2] w fun e w' => e = .returned (.tuple #[.string (strOfNums [x / 256, x % 256]), .nilIface]) ∧ Below w.heap.size w w' := by
  have hmk : ∀ w, (Instr.makeSlice 72 (.int .i64 2) (.int .i64 2)).run Try.prog w = .ok (.slice (some ⟨w.heap.size, 0, none⟩) 2 2) (w.alloc (.cells #[.int .u8 0, .int .u8 0] 5)) := fun _ => by kernel_rfl
  have hcv := conv2
  go_enter Try.func44, Try.ntmps44
  go_wp2_with fail
  go_rounds 3
  go_ret2
  exact ⟨rfl, (Below.refl _ _).alloc (Nat.le_refl _) _⟩

set_option maxRecDepth 100000 in
theorem big_ok4 (x : Int) (w : World) (h0 : 0 ≤ x) (h1 : x < 4294967296) (h : (x / 4294967296 != 0) = false) :
    Calls Try.prog 44 #[.int .i64 x, .int .i64 4] w fun e w' => e = .returned (.tuple #[.string (strOfNums [x / 16777216, x / 65536 % 256, x / 256 % 256, x % 256]), .nilIface]) ∧ Below w.heap.size w w' := by
  have hmk : ∀ w, (Instr.makeSlice 72 (.int .i64 4) (.int .i64 4)).run Try.prog w = .ok (.slice (some ⟨w.heap.size, 0, none⟩) 4 4) (w.alloc (.cells #[.int .u8 0, .int .u8 0, .int .u8 0, .int .u8 0] 5)) := fun _ => by kernel_rfl
  have hcv := conv4
  go_enter Try.func44, Try.ntmps44
  go_wp2_with fail
  go_rounds 5
  go_ret2
  exact ⟨rfl, (Below.refl _ _).alloc (Nat.le_refl _) _⟩
theorem noHigh (x k : Int) (h0 : 0 ≤ x) (h : x < k) : (x / k != 0) = false := by
  rw [Int.ediv_eq_zero_of_lt h0 h]; rfl

end Go.Proofs.Ytdljjcnihajchaa.P4
