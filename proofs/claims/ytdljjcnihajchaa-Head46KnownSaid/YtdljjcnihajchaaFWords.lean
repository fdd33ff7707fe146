/-
  Proved here: what the document's Words answers.
  Conditions: a text of at most 70000 bytes.
-/
import Derived.Test.YtdljjcnihajchaaFWordsPlain
import Derived.Test.YtdljjcnihajchaaFConv
import Derived.OwnWalk
import Derived.Laws.AppendOwn
import Derived.Deep.RegionHeld3
import Derived.Deep.AppendLies
import Derived.KernelRfl
import Derived.IntWalk
namespace Go.Proofs.Ytdljjcnihajchaa.P4
open Go.RowKit

theorem Try.infoInt : (Try.prog.info? 3).map (fun i => (i.zero, i.size, i.bytes)) = some (some (.int .i64 0), 1, 8) := by kernel_rfl
theorem conv1 (a : Int) (w : World) : (convert 72 9 (.slice (some ⟨w.heap.size, 0, none⟩) 1 1)).run Try.prog (w.alloc (.cells #[.int .u8 a] 5)) = .ok (.string (strOfNums [a])) (w.alloc (.cells #[.int .u8 a] 5)) := by
  refine run_convert_bytes_arg _ 72 5 Try.underlying72 Try.underlying5 w.heap.size 0 1 1 [a] rfl (fun i hi => ?_) 9 Try.underlying9
  rw [World.cell?_alloc_new]
  rcases i with _ | i
  · rfl
  · omega

def ints (l : List Nat) : List Value := l.map fun x => .int .i64 (x : Nat)
/-- A slice of its own that holds these numbers. -/
def Made (w : World) (l : List Nat) (e : Ending) (w' : World) : Prop :=
  ∃ v, e = .returned v ∧ w'.ownsRow w.heap.size 3 1 v l.length (ints l) ∧ Below w.heap.size w w'
theorem ints_snoc (l : List Nat) (x : Nat) : ints (l ++ [x]) = ints l ++ [.int .i64 (x : Nat)] := by simp [ints]
theorem byte_at (s : ByteArray) (k : Nat) (h : k < s.size) : s.data.toList.getD k 0 = s[k] := by
  rw [List.getD_eq_getElem?_getD, List.getElem?_eq_getElem (by simpa using h)]; rfl

/-- A text with its last single byte brought to a word. -/
def Pad (s t : ByteArray) : Prop := t.size % 2 = 0 ∧ t.size / 2 = (s.size + 1) / 2 ∧ t.size ≤ s.size + 1 ∧ ∀ j, t.data.toList.getD j 0 = s.data.toList.getD j 0
theorem pad_even (s : ByteArray) (h : s.size % 2 = 0) : Pad s s := ⟨h, by omega, by omega, fun _ => rfl⟩
theorem pad_odd (s : ByteArray) (h : s.size % 2 = 1) : Pad s (s ++ strOfNums [0]) := by
  have e : (s ++ strOfNums [0]).size = s.size + 1 := by rw [ByteArray.size_append]; rfl
  refine ⟨by omega, by omega, by omega, fun j => ?_⟩
  have e2 : (s ++ strOfNums [0]).data.toList = s.data.toList ++ [0] := by simp [strOfNums]
  rw [e2]
  simp only [List.getD_eq_getElem?_getD, List.getElem?_append]
  split
  · rfl
  · rename_i hj
    rw [List.getElem?_eq_none (Nat.le_of_not_lt hj)]
    rcases hk : j - s.data.toList.length with _ | k <;> simp
theorem Pad.word {s t : ByteArray} (h : Pad s t) {m : Nat} (hm : m % 2 = 0) (hl : m + 1 < t.size) : wd s.data.toList (m / 2) = 256 * t[m].toNat + t[m + 1].toNat := by
  unfold wd
  rw [show 2 * (m / 2) = m by omega, ← h.2.2.2, ← h.2.2.2, byte_at t m (by omega), byte_at t (m + 1) hl]

theorem own_next {l : List UInt8} {m : Nat} {a b : Nat} {w w1 : World} {v : Value} (hw : wd l (m / 2) = 256 * a + b)
    (h : w1.ownsRow w.heap.size 3 1 v (m / 2 + 1) (ints ((List.range (m / 2)).map (wd l)) ++ [.int .i64 (256 * (a : Int) + (b : Int))])) :
    w1.ownsRow w.heap.size 3 1 v ((m + 2) / 2) (ints ((List.range ((m + 2) / 2)).map (wd l))) := by
  rw [show (m + 2) / 2 = m / 2 + 1 by omega, wds_take, ints_snoc, hw]
  exact h

end Go.Proofs.Ytdljjcnihajchaa.P4
