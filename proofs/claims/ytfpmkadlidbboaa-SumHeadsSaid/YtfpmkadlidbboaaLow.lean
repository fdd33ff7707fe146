/-
  Proved here: what num.Big and sum.low answer where the number fits.
  Conditions: none.
-/
import Derived.Test.YtfpmkadlidbboaaWords
namespace Go.Proofs.Ytfpmkadlidbboaa
open Go.RowKit

theorem conv4 (a b c d : Int) (w : World) : (convert 42 9 (.slice (some ⟨w.heap.size, 0, none⟩) 4 4)).run Try.prog (w.alloc (.cells #[.int .u8 a, .int .u8 b, .int .u8 c, .int .u8 d] 5)) = .ok (.string (strOfNums [a, b, c, d])) (w.alloc (.cells #[.int .u8 a, .int .u8 b, .int .u8 c, .int .u8 d] 5)) := by
  refine run_convert_bytes_arg _ 42 5 Try.underlying42 Try.underlying5 w.heap.size 0 4 4 [a, b, c, d] rfl (fun i hi => ?_) 9 Try.underlying9
  rw [World.cell?_alloc_new]
  rcases i with _ | _ | _ | _ | i
  · rfl
  · rfl
  · rfl
  · rfl
  · omega

set_option maxRecDepth 100000 in
theorem big_ok1 (x : Int) (w : World) (h0 : 0 ≤ x) (h1 : x < 256) (h : (x / 256 != 0) = false) :
    Calls Try.prog 30 #[.int .i64 x, .int .i64 1] w fun e w' => e = .returned (.tuple #[.string (strOfNums [x]), .nilIface]) ∧ Below w.heap.size w w' := by
  have hmk : ∀ w, (Instr.makeSlice 42 (.int .i64 1) (.int .i64 1)).run Try.prog w = .ok (.slice (some ⟨w.heap.size, 0, none⟩) 1 1) (w.alloc (.cells #[.int .u8 0] 5)) := fun _ => by kernel_rfl
  have hcv := conv1
  go_enter Try.func30, Try.ntmps30
  go_wp2_with fail
  go_rounds 2
  go_ret2
  exact ⟨rfl, (Below.refl _ _).alloc (Nat.le_refl _) _⟩

set_option maxRecDepth 100000 in
theorem big_ok2 (x : Int) (w : World) (h0 : 0 ≤ x) (h1 : x < 65536) (h : (x / 65536 != 0) = false) :
    Calls Try.prog 30 #[.int .i64 x, .int .i64 2] w fun e w' => e = .returned (.tuple #[.string (strOfNums [x / 256, x % 256]), .nilIface]) ∧ Below w.heap.size w w' := by
  have hmk : ∀ w, (Instr.makeSlice 42 (.int .i64 2) (.int .i64 2)).run Try.prog w = .ok (.slice (some ⟨w.heap.size, 0, none⟩) 2 2) (w.alloc (.cells #[.int .u8 0, .int .u8 0] 5)) := fun _ => by kernel_rfl
  have hcv := conv2
  go_enter Try.func30, Try.ntmps30
  go_wp2_with fail
  go_rounds 3
  go_ret2
  exact ⟨rfl, (Below.refl _ _).alloc (Nat.le_refl _) _⟩

set_option maxRecDepth 100000 in
theorem big_ok4 (x : Int) (w : World) (h0 : 0 ≤ x) (h1 : x < 4294967296) (h : (x / 4294967296 != 0) = false) :
    Calls Try.prog 30 #[.int .i64 x, .int .i64 4] w fun e w' => e = .returned (.tuple #[.string (strOfNums [x / 16777216, x / 65536 % 256, x / 256 % 256, x % 256]), .nilIface]) ∧ Below w.heap.size w w' := by
  have hmk : ∀ w, (Instr.makeSlice 42 (.int .i64 4) (.int .i64 4)).run Try.prog w = .ok (.slice (some ⟨w.heap.size, 0, none⟩) 4 4) (w.alloc (.cells #[.int .u8 0, .int .u8 0, .int .u8 0, .int .u8 0] 5)) := fun _ => by kernel_rfl
  have hcv := conv4
  go_enter Try.func30, Try.ntmps30
  go_wp2_with fail
  go_rounds 5
  go_ret2
  exact ⟨rfl, (Below.refl _ _).alloc (Nat.le_refl _) _⟩
theorem noHigh (x k : Int) (h0 : 0 ≤ x) (h : x < k) : (x / k != 0) = false := by
  rw [Int.ediv_eq_zero_of_lt h0 h]; rfl

/-- A number's lowest bytes. -/
def lowN (n : Nat) (x : Int) : List Int :=
  if n = 1 then [x % 256] else if n = 2 then [x / 256 % 256, x % 256] else if n = 3 then [x / 65536 % 256, x / 256 % 256, x % 256] else [x / 16777216 % 256, x / 65536 % 256, x / 256 % 256, x % 256]
theorem lowN2 (x : Int) : lowN 2 x = [x % 65536 / 256, x % 256] := by
  show [x / 256 % 256, x % 256] = _
  rw [show x % 65536 / 256 = x / 256 % 256 by omega]
theorem lowN4 (x : Int) : lowN 4 x = [x % 4294967296 / 16777216, x % 4294967296 / 65536 % 256, x % 4294967296 / 256 % 256, x % 256] := by
  show [x / 16777216 % 256, x / 65536 % 256, x / 256 % 256, x % 256] = _
  rw [show x % 4294967296 / 16777216 = x / 16777216 % 256 by omega, show x % 4294967296 / 65536 % 256 = x / 65536 % 256 by omega, show x % 4294967296 / 256 % 256 = x / 256 % 256 by omega]
set_option maxRecDepth 100000 in
theorem low1 (x : Int) (w : World) :
    Calls Try.prog 26 #[.int .i64 x, .int .i64 1] w fun e w' => e = .returned (.string (strOfNums (lowN 1 x))) ∧ Below w.heap.size w w' := by
  have ha := and_8 x
  have h0 : 0 ≤ x % 256 := by omega
  have h1 : x % 256 < 256 := by omega
  have HB := Lib.hid (fun W => big_ok1 (x % 256) W h0 h1 (noHigh _ _ h0 h1))
  go_enter Try.func26, Try.ntmps26
  go_wp2_with fail
  refine (HB.out _).mono ?_
  rintro e w1 ⟨rfl, b1⟩
  have B1 := Lib.hid b1
  clear b1
  go_wp2_with fail
  go_ret
  exact ⟨rfl, B1.out⟩
set_option maxRecDepth 100000 in
theorem low2 (x : Int) (w : World) :
    Calls Try.prog 26 #[.int .i64 x, .int .i64 2] w fun e w' => e = .returned (.string (strOfNums (lowN 2 x))) ∧ Below w.heap.size w w' := by
  have ha := and_16 x
  have h0 : 0 ≤ x % 65536 := by omega
  have h1 : x % 65536 < 65536 := by omega
  have HB := Lib.hid (fun W => big_ok2 (x % 65536) W h0 h1 (noHigh _ _ h0 h1))
  go_enter Try.func26, Try.ntmps26
  go_wp2_with fail
  refine (HB.out _).mono ?_
  rintro e w1 ⟨rfl, b1⟩
  have B1 := Lib.hid b1
  clear b1
  go_wp2_with fail
  go_ret
  rw [lowN2]
  exact ⟨rfl, B1.out⟩
set_option maxRecDepth 100000 in
theorem low4 (x : Int) (w : World) :
    Calls Try.prog 26 #[.int .i64 x, .int .i64 4] w fun e w' => e = .returned (.string (strOfNums (lowN 4 x))) ∧ Below w.heap.size w w' := by
  have ha := and_32 x
  have h0 : 0 ≤ x % 4294967296 := by omega
  have h1 : x % 4294967296 < 4294967296 := by omega
  have HB := Lib.hid (fun W => big_ok4 (x % 4294967296) W h0 h1 (noHigh _ _ h0 h1))
  go_enter Try.func26, Try.ntmps26
  go_wp2_with fail
  refine (HB.out _).mono ?_
  rintro e w1 ⟨rfl, b1⟩
  have B1 := Lib.hid b1
  clear b1
  go_wp2_with fail
  go_ret
  rw [lowN4]
  exact ⟨rfl, B1.out⟩
end Go.Proofs.Ytfpmkadlidbboaa
