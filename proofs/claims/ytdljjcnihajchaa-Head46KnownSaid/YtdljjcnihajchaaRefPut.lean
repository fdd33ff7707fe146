/-
  Proved here: what the document's Put answers, for one, two and four bytes.
  Conditions: the number fits.
-/
import Derived.Test.YtdljjcnihajchaaRefNumber
namespace Go.Proofs.Ytdljjcnihajchaa
open Go.RowKit

theorem take_all (l : List UInt8) (k : Nat) (h : l.length ≤ k) : l.take k = l := List.take_of_length_le h
theorem conv1 (a : Int) (w : World) : (convert 72 9 (.slice (some ⟨w.heap.size, 0, none⟩) 1 1)).run Try.prog (w.alloc (.cells #[.int .u8 a] 5)) = .ok (.string (strOfNums [a])) (w.alloc (.cells #[.int .u8 a] 5)) := by
  refine run_convert_bytes_arg _ 72 5 Try.underlying72 Try.underlying5 w.heap.size 0 1 1 [a] rfl (fun i hi => ?_) 9 Try.underlying9
  rw [World.cell?_alloc_new]
  rcases i with _ | i
  · rfl
  · omega

theorem conv1At (a : Int) (w : World) (n : Nat) (hn : n = w.heap.size) : (convert 72 9 (.slice (some ⟨n, 0, none⟩) 1 1)).run Try.prog (w.alloc (.cells #[.int .u8 a] 5)) = .ok (.string (strOfNums [a])) (w.alloc (.cells #[.int .u8 a] 5)) := by
  subst hn; exact conv1 a w
theorem nums_cons (a : Int) (l : List Int) : strOfNums [a] ++ strOfNums l = strOfNums (a :: l) := by
  apply ByteArray.ext
  simp [strOfNums]
theorem nums_nil (a : Int) : strOfNums [a] ++ ⟨#[]⟩ = strOfNums [a] := by
  apply ByteArray.ext
  simp [strOfNums]
theorem ret_str {a b : ByteArray} (h : a = b) : Ending.returned (.string a) = .returned (.string b) := by rw [h]

theorem cat1 (x : Int) : strOfNums [x % 256] ++ ⟨#[]⟩ = strOfNums [x % 256] := by
  rw [nums_nil]
theorem cat2 (x : Int) : strOfNums [x / 256 % 256] ++ (strOfNums [x % 256] ++ ⟨#[]⟩) = strOfNums [x / 256 % 256, x % 256] := by
  rw [nums_nil, nums_cons]
theorem cat3 (x : Int) : strOfNums [x / 256 / 256 % 256] ++ (strOfNums [x / 256 % 256] ++ (strOfNums [x % 256] ++ ⟨#[]⟩)) = strOfNums [x / 65536 % 256, x / 256 % 256, x % 256] := by
  rw [nums_nil, nums_cons, nums_cons, show x / 256 / 256 = x / 65536 by omega]
theorem cat4 (x : Int) : strOfNums [x / 256 / 256 / 256 % 256] ++ (strOfNums [x / 256 / 256 % 256] ++ (strOfNums [x / 256 % 256] ++ (strOfNums [x % 256] ++ ⟨#[]⟩))) = strOfNums [x / 16777216 % 256, x / 65536 % 256, x / 256 % 256, x % 256] := by
  rw [nums_nil, nums_cons, nums_cons, nums_cons, show x / 256 / 256 / 256 = x / 16777216 by omega, show x / 256 / 256 = x / 65536 by omega]
end Go.Proofs.Ytdljjcnihajchaa
