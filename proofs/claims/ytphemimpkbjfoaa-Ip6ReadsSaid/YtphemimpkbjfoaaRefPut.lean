/-
  Proved here: what the document's Put answers, for one, two and four bytes.
  Conditions: the number fits.
-/
import Derived.Test.YtphemimpkbjfoaaRefNumber
namespace Go.Proofs.Ytphemimpkbjfoaa
open Go.RowKit

theorem take_all (l : List UInt8) (k : Nat) (h : l.length ≤ k) : l.take k = l := List.take_of_length_le h
theorem conv1 (a : Int) (w : World) : (convert 54 9 (.slice (some ⟨w.heap.size, 0, none⟩) 1 1)).run Try.prog (w.alloc (.cells #[.int .u8 a] 5)) = .ok (.string (strOfNums [a])) (w.alloc (.cells #[.int .u8 a] 5)) := by
  refine run_convert_bytes_arg _ 54 5 Try.underlying54 Try.underlying5 w.heap.size 0 1 1 [a] rfl (fun i hi => ?_) 9 Try.underlying9
  rw [World.cell?_alloc_new]
  rcases i with _ | i
  · rfl
  · omega

theorem conv1At (a : Int) (w : World) (n : Nat) (hn : n = w.heap.size) : (convert 54 9 (.slice (some ⟨n, 0, none⟩) 1 1)).run Try.prog (w.alloc (.cells #[.int .u8 a] 5)) = .ok (.string (strOfNums [a])) (w.alloc (.cells #[.int .u8 a] 5)) := by
  subst hn; exact conv1 a w
theorem nums_cons (a : Int) (l : List Int) : strOfNums [a] ++ strOfNums l = strOfNums (a :: l) := by
  apply ByteArray.ext
  simp [strOfNums]
theorem nums_nil (a : Int) : strOfNums [a] ++ ⟨#[]⟩ = strOfNums [a] := by
  apply ByteArray.ext
  simp [strOfNums]
theorem ret_str {a b : ByteArray} (h : a = b) : Ending.returned (.string a) = .returned (.string b) := by rw [h]

theorem cat1 (x : Int) : strOfNums [x % 256] ++ ⟨#[]⟩ = strOfNums [x % 256] := by
  rw [nums_nil]
set_option maxRecDepth 100000 in
theorem put1 (x : Int) (w : World) (h0 : 0 ≤ x) (h1 : x < 256) :
    Calls Try.prog 65 #[.int .i64 x, .int .i64 1] w fun e w' => e = .returned (.string (strOfNums [x % 256])) ∧ Below w.heap.size w w' := by
  have hcv := conv1At
  have hsz := strOfNums_size
  go_enter Try.func65, Try.ntmps65
  go_wp2_with fail
  go_rounds 2
  go_ret
  exact ⟨ret_str (cat1 x), (Below.refl _ _).alloc (Nat.le_refl _) _⟩
theorem cat2 (x : Int) : strOfNums [x / 256 % 256] ++ (strOfNums [x % 256] ++ ⟨#[]⟩) = strOfNums [x / 256 % 256, x % 256] := by
  rw [nums_nil, nums_cons]
set_option maxRecDepth 100000 in
theorem put2 (x : Int) (w : World) (h0 : 0 ≤ x) (h1 : x < 65536) :
    Calls Try.prog 65 #[.int .i64 x, .int .i64 2] w fun e w' => e = .returned (.string (strOfNums [x / 256 % 256, x % 256])) ∧ Below w.heap.size w w' := by
  have hcv := conv1At
  have hsz := strOfNums_size
  go_enter Try.func65, Try.ntmps65
  go_wp2_with fail
  go_rounds 3
  go_ret
  exact ⟨ret_str (cat2 x), ((Below.refl _ _).alloc (Nat.le_refl _) _).alloc (by simp) _⟩
theorem cat3 (x : Int) : strOfNums [x / 256 / 256 % 256] ++ (strOfNums [x / 256 % 256] ++ (strOfNums [x % 256] ++ ⟨#[]⟩)) = strOfNums [x / 65536 % 256, x / 256 % 256, x % 256] := by
  rw [nums_nil, nums_cons, nums_cons, show x / 256 / 256 = x / 65536 by omega]
set_option maxRecDepth 100000 in
theorem put3 (x : Int) (w : World) (h0 : 0 ≤ x) (h1 : x < 16777216) :
    Calls Try.prog 65 #[.int .i64 x, .int .i64 3] w fun e w' => e = .returned (.string (strOfNums [x / 65536 % 256, x / 256 % 256, x % 256])) ∧ Below w.heap.size w w' := by
  have hcv := conv1At
  have hsz := strOfNums_size
  go_enter Try.func65, Try.ntmps65
  go_wp2_with fail
  go_rounds 4
  go_ret
  exact ⟨ret_str (cat3 x), (((Below.refl _ _).alloc (Nat.le_refl _) _).alloc (by simp) _).alloc (by simp; omega) _⟩
theorem cat4 (x : Int) : strOfNums [x / 256 / 256 / 256 % 256] ++ (strOfNums [x / 256 / 256 % 256] ++ (strOfNums [x / 256 % 256] ++ (strOfNums [x % 256] ++ ⟨#[]⟩))) = strOfNums [x / 16777216 % 256, x / 65536 % 256, x / 256 % 256, x % 256] := by
  rw [nums_nil, nums_cons, nums_cons, nums_cons, show x / 256 / 256 / 256 = x / 16777216 by omega, show x / 256 / 256 = x / 65536 by omega]
set_option maxRecDepth 100000 in
theorem put4 (x : Int) (w : World) (h0 : 0 ≤ x) (h1 : x < 4294967296) :
    Calls Try.prog 65 #[.int .i64 x, .int .i64 4] w fun e w' => e = .returned (.string (strOfNums [x / 16777216 % 256, x / 65536 % 256, x / 256 % 256, x % 256])) ∧ Below w.heap.size w w' := by
  have hcv := conv1At
  have hsz := strOfNums_size
  go_enter Try.func65, Try.ntmps65
  go_wp2_with fail
  go_rounds 5
  go_ret
  exact ⟨ret_str (cat4 x), ((((Below.refl _ _).alloc (Nat.le_refl _) _).alloc (by simp) _).alloc (by simp; omega) _).alloc (by simp; omega) _⟩
theorem rput1 (x : Int) (w : World) (h0 : 0 ≤ x) (h1 : x < 256) :
    Calls Try.prog 42 #[.int .i64 x, .int .i64 1] w fun e w' => e = .returned (.string (strOfNums [x % 256])) ∧ Below w.heap.size w w' := by
  have HP := Lib.hid (fun W => put1 x W h0 h1)
  generalize strOfNums [x % 256] = X at *
  go_enter Try.func42, Try.ntmps42
  go_wp2_with fail
  refine (HP.out _).mono ?_
  rintro e w1 ⟨rfl, hb⟩
  have HB := Lib.hid hb
  clear hb
  go_wp2_with fail
  go_ret
  exact ⟨rfl, HB.out⟩
theorem rput2 (x : Int) (w : World) (h0 : 0 ≤ x) (h1 : x < 65536) :
    Calls Try.prog 42 #[.int .i64 x, .int .i64 2] w fun e w' => e = .returned (.string (strOfNums [x / 256 % 256, x % 256])) ∧ Below w.heap.size w w' := by
  have HP := Lib.hid (fun W => put2 x W h0 h1)
  generalize strOfNums [x / 256 % 256, x % 256] = X at *
  go_enter Try.func42, Try.ntmps42
  go_wp2_with fail
  refine (HP.out _).mono ?_
  rintro e w1 ⟨rfl, hb⟩
  have HB := Lib.hid hb
  clear hb
  go_wp2_with fail
  go_ret
  exact ⟨rfl, HB.out⟩
theorem rput4 (x : Int) (w : World) (h0 : 0 ≤ x) (h1 : x < 4294967296) :
    Calls Try.prog 42 #[.int .i64 x, .int .i64 4] w fun e w' => e = .returned (.string (strOfNums [x / 16777216 % 256, x / 65536 % 256, x / 256 % 256, x % 256])) ∧ Below w.heap.size w w' := by
  have HP := Lib.hid (fun W => put4 x W h0 h1)
  generalize strOfNums [x / 16777216 % 256, x / 65536 % 256, x / 256 % 256, x % 256] = X at *
  go_enter Try.func42, Try.ntmps42
  go_wp2_with fail
  refine (HP.out _).mono ?_
  rintro e w1 ⟨rfl, hb⟩
  have HB := Lib.hid hb
  clear hb
  go_wp2_with fail
  go_ret
  exact ⟨rfl, HB.out⟩
end Go.Proofs.Ytphemimpkbjfoaa
