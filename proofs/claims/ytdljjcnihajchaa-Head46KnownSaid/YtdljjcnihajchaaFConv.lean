/-
  Proved here: what small conversions of bytes answer.
  Conditions: none.
-/
import Derived.Test.YtdljjcnihajchaaFAdded
import Derived.Laws.BytesArg
namespace Go.Proofs.Ytdljjcnihajchaa.P4
open Go.RowKit

theorem take_all (l : List UInt8) (k : Nat) (h : l.length ≤ k) : l.take k = l := List.take_of_length_le h
theorem conv2 (a b : Int) (w : World) : (convert 72 9 (.slice (some ⟨w.heap.size, 0, none⟩) 2 2)).run Try.prog (w.alloc (.cells #[.int .u8 a, .int .u8 b] 5)) = .ok (.string (strOfNums [a, b])) (w.alloc (.cells #[.int .u8 a, .int .u8 b] 5)) := by
  refine run_convert_bytes_arg _ 72 5 Try.underlying72 Try.underlying5 w.heap.size 0 2 2 [a, b] rfl (fun i hi => ?_) 9 Try.underlying9
  rw [World.cell?_alloc_new]
  rcases i with _ | _ | i
  · rfl
  · rfl
  · omega
/-- A number's two bytes. -/
def twoB (n : Nat) : ByteArray := strOfNums [(n : Int) / 256, (n : Int) % 256]
theorem twoB_size (n : Nat) : (twoB n).size = 2 := rfl
theorem twoB_len (n : Nat) : (twoB n).data.toList.length = 2 := rfl
theorem u8_of_int {x : Int} (h0 : 0 ≤ x) (h1 : x < 256) : (UInt8.ofNat x.toNat).toNat = x.toNat := by
  rw [UInt8.toNat_ofNat']
  omega
theorem twoB_acc {n : Nat} (h : n ≤ 65535) : acc true (twoB n).data.toList = n := by
  show (UInt8.ofNat ((n : Int) / 256).toNat).toNat * 256 + ((UInt8.ofNat ((n : Int) % 256).toNat).toNat + 0) = n
  rw [u8_of_int (by omega) (by omega), u8_of_int (by omega) (by omega)]
  omega
end Go.Proofs.Ytdljjcnihajchaa.P4
