/-
  Proved here: what num.Big answers.
  Conditions: none.
-/
import Derived.Test.YtieadejlnfjgbaaDoorSame
import Derived.Laws.BytesArg
namespace Go.Proofs.YtieadejlnfjgbaaDoor
open Go.RowKit Go.Extern.Stop Go.Stop Go.Extern

/-- A call that tells a fault of its own: code c, at 0. -/
def Alone (c : Int) (v : Value) (w : World) (e : Ending) (w' : World) : Prop :=
  e = .returned (.tuple #[v, .iface 34 (.pointer (some ⟨w.heap.size, 0, none⟩))]) ∧ w' = w.alloc (.cells #[.int .i64 c, .int .i64 0] 37)

theorem big_arg (x n : Int) (w : World) (h1 : (n != 1) = true) (h2 : (n != 2) = true) (h4 : (n != 4) = true) :
    Calls Tryd.prog 13 #[.int .i64 x, .int .i64 n] w (Alone 1 (.string ⟨#[]⟩) w) := by
  go_enter Tryd.func13, Tryd.ntmps13
  go_wp2_with fail
  go_ret2
  exact ⟨rfl, rfl⟩

theorem big_neg (x n : Int) (w : World) (hn : n = 1 ∨ n = 2 ∨ n = 4) (hx : x < 0) :
    Calls Tryd.prog 13 #[.int .i64 x, .int .i64 n] w (Alone 13 (.string ⟨#[]⟩) w) := by
  rcases hn with rfl | rfl | rfl
  all_goals
    go_enter Tryd.func13, Tryd.ntmps13
    go_wp2_with fail
    go_ret2
    exact ⟨rfl, rfl⟩

set_option maxRecDepth 100000 in
theorem big_wide1 (x : Int) (w : World) (h : (x / 256 != 0) = true) (h0 : 0 ≤ x) :
    Calls Tryd.prog 13 #[.int .i64 x, .int .i64 1] w (Alone 13 (.string ⟨#[]⟩) w) := by
  go_enter Tryd.func13, Tryd.ntmps13
  go_wp2_with fail
  go_ret2
  exact ⟨rfl, rfl⟩
set_option maxRecDepth 100000 in
theorem big_wide2 (x : Int) (w : World) (h : (x / 65536 != 0) = true) (h0 : 0 ≤ x) :
    Calls Tryd.prog 13 #[.int .i64 x, .int .i64 2] w (Alone 13 (.string ⟨#[]⟩) w) := by
  go_enter Tryd.func13, Tryd.ntmps13
  go_wp2_with fail
  go_ret2
  exact ⟨rfl, rfl⟩
set_option maxRecDepth 100000 in
theorem big_wide4 (x : Int) (w : World) (h : (x / 4294967296 != 0) = true) (h0 : 0 ≤ x) :
    Calls Tryd.prog 13 #[.int .i64 x, .int .i64 4] w (Alone 13 (.string ⟨#[]⟩) w) := by
  go_enter Tryd.func13, Tryd.ntmps13
  go_wp2_with fail
  go_ret2
  exact ⟨rfl, rfl⟩

theorem conv1 (a : Int) (w : World) : (convert 61 9 (.slice (some ⟨w.heap.size, 0, none⟩) 1 1)).run Tryd.prog (w.alloc (.cells #[.int .u8 a] 5)) = .ok (.string (strOfNums [a])) (w.alloc (.cells #[.int .u8 a] 5)) := by
  refine run_convert_bytes_arg _ 61 5 Tryd.underlying61 Tryd.underlying5 w.heap.size 0 1 1 [a] rfl (fun i hi => ?_) 9 Tryd.underlying9
  rw [World.cell?_alloc_new]
  rcases i with _ | i
  · rfl
  · omega
theorem conv2 (a b : Int) (w : World) : (convert 61 9 (.slice (some ⟨w.heap.size, 0, none⟩) 2 2)).run Tryd.prog (w.alloc (.cells #[.int .u8 a, .int .u8 b] 5)) = .ok (.string (strOfNums [a, b])) (w.alloc (.cells #[.int .u8 a, .int .u8 b] 5)) := by
  refine run_convert_bytes_arg _ 61 5 Tryd.underlying61 Tryd.underlying5 w.heap.size 0 2 2 [a, b] rfl (fun i hi => ?_) 9 Tryd.underlying9
  rw [World.cell?_alloc_new]
  rcases i with _ | _ | i
  · rfl
  · rfl
  · omega
theorem conv4 (a b c d : Int) (w : World) : (convert 61 9 (.slice (some ⟨w.heap.size, 0, none⟩) 4 4)).run Tryd.prog (w.alloc (.cells #[.int .u8 a, .int .u8 b, .int .u8 c, .int .u8 d] 5)) = .ok (.string (strOfNums [a, b, c, d])) (w.alloc (.cells #[.int .u8 a, .int .u8 b, .int .u8 c, .int .u8 d] 5)) := by
  refine run_convert_bytes_arg _ 61 5 Tryd.underlying61 Tryd.underlying5 w.heap.size 0 4 4 [a, b, c, d] rfl (fun i hi => ?_) 9 Tryd.underlying9
  rw [World.cell?_alloc_new]
  rcases i with _ | _ | _ | _ | i
  · rfl
  · rfl
  · rfl
  · rfl
  · omega

set_option maxRecDepth 100000 in
theorem big_ok1 (x : Int) (w : World) (h0 : 0 ≤ x) (h1 : x < 256) (h : (x / 256 != 0) = false) :
    Calls Tryd.prog 13 #[.int .i64 x, .int .i64 1] w fun e w' => e = .returned (.tuple #[.string (strOfNums [x]), .nilIface]) ∧ Below w.heap.size w w' := by
  have hmk : ∀ w, (Instr.makeSlice 61 (.int .i64 1) (.int .i64 1)).run Tryd.prog w = .ok (.slice (some ⟨w.heap.size, 0, none⟩) 1 1) (w.alloc (.cells #[.int .u8 0] 5)) := fun _ => by kernel_rfl
  have hcv := conv1
  go_enter Tryd.func13, Tryd.ntmps13
  go_wp2_with fail
  go_rounds 2
  go_ret2
  exact ⟨rfl, (Below.refl _ _).alloc (Nat.le_refl _) _⟩

set_option maxRecDepth 100000 in
theorem big_ok2 (x : Int) (w : World) (h0 : 0 ≤ x) (h1 : x < 65536) (h : (x / 65536 != 0) = false) :
    Calls Tryd.prog 13 #[.int .i64 x, .int .i64 2] w fun e w' => e = .returned (.tuple #[.string (strOfNums [x / 256, x % 256]), .nilIface]) ∧ Below w.heap.size w w' := by
  have hmk : ∀ w, (Instr.makeSlice 61 (.int .i64 2) (.int .i64 2)).run Tryd.prog w = .ok (.slice (some ⟨w.heap.size, 0, none⟩) 2 2) (w.alloc (.cells #[.int .u8 0, .int .u8 0] 5)) := fun _ => by kernel_rfl
  have hcv := conv2
  go_enter Tryd.func13, Tryd.ntmps13
  go_wp2_with fail
  go_rounds 3
  go_ret2
  exact ⟨rfl, (Below.refl _ _).alloc (Nat.le_refl _) _⟩

set_option maxRecDepth 100000 in
theorem big_ok4 (x : Int) (w : World) (h0 : 0 ≤ x) (h1 : x < 4294967296) (h : (x / 4294967296 != 0) = false) :
    Calls Tryd.prog 13 #[.int .i64 x, .int .i64 4] w fun e w' => e = .returned (.tuple #[.string (strOfNums [x / 16777216, x / 65536 % 256, x / 256 % 256, x % 256]), .nilIface]) ∧ Below w.heap.size w w' := by
  have hmk : ∀ w, (Instr.makeSlice 61 (.int .i64 4) (.int .i64 4)).run Tryd.prog w = .ok (.slice (some ⟨w.heap.size, 0, none⟩) 4 4) (w.alloc (.cells #[.int .u8 0, .int .u8 0, .int .u8 0, .int .u8 0] 5)) := fun _ => by kernel_rfl
  have hcv := conv4
  go_enter Tryd.func13, Tryd.ntmps13
  go_wp2_with fail
  go_rounds 5
  go_ret2
  exact ⟨rfl, (Below.refl _ _).alloc (Nat.le_refl _) _⟩
end Go.Proofs.YtieadejlnfjgbaaDoor
