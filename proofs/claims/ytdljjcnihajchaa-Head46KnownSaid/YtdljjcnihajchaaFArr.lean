/-
  Proved here: how a block of bytes is read as a text.
  Conditions: none.
-/
import Derived.Test.YtdljjcnihajchaaFLow
namespace Go.Proofs.Ytdljjcnihajchaa.P4
open Go.RowKit

/-- A block that is just these bytes. -/
def Arr (w : World) (b : Nat) (T : TypeId) (L : List Int) : Prop := w.heap[b]? = some (.cells (L.map (Value.int .u8)).toArray T (0, 0))
section
variable {w w' : World} {b : Nat} {T : TypeId} {L : List Int}
theorem Arr.lt (h : Arr w b T L) : b < w.heap.size := by
  rcases Nat.lt_or_ge b w.heap.size with hl | hg
  · exact hl
  · unfold Arr at h; rw [Array.getElem?_eq_none hg] at h; cases h
theorem Arr.cell (h : Arr w b T L) (i : Nat) (hi : i < L.length) : w.cell? ⟨b, i, none⟩ = some (.int .u8 L[i]) := by
  unfold Arr at h
  simp [World.cell?, h, hi]
theorem Arr.below {B : Nat} (h : Arr w b T L) (hb : Below B w w') (hB : b < B) : Arr w' b T L := (hb.block b hB).trans h
theorem Arr.alloc (h : Arr w b T L) (o : Obj) : Arr (w.alloc o) b T L := (Below.heap_alloc w o b h.lt).trans h
theorem Arr.drew (h : Arr w b T L) : Arr w.drew b T L := h
/-- The bytes as a text. -/
theorem Arr.conv (h : Arr w b T L) (n : Nat) (hn : L.length = n) : (convert 72 9 (.slice (some ⟨b, 0, none⟩) n n)).run Try.prog w = .ok (.string (strOfNums L)) w := by
  refine run_convert_bytes_arg _ 72 5 Try.underlying72 Try.underlying5 b 0 n n L hn (fun i hi => ?_) 9 Try.underlying9
  rw [Nat.zero_add, h.cell i (by omega), List.getD_eq_getElem?_getD, List.getElem?_eq_getElem (by omega)]
  rfl
end

theorem keep_both {w w1 w2 : World} {B p1 p2 n C : Nat} {T : TypeId} {LA LB : List Int} (hb : Below C w1 w2) (hC : w1.heap.size ≤ C) (h1 : Arr w1 p1 T LA) (h2 : Arr w1 p2 T LB) (h3 : Below B w w1) (hB : B ≤ w1.heap.size) (hn : LA.length = n) (hm : LB.length = n) :
    Arr w2 p1 T LA ∧ Arr w2 p2 T LB ∧ Below B w w2 ∧ B ≤ w2.heap.size ∧ (convert 72 9 (.slice (some ⟨p1, 0, none⟩) n n)).run Try.prog w2 = .ok (.string (strOfNums LA)) w2 ∧ (convert 72 9 (.slice (some ⟨p2, 0, none⟩) n n)).run Try.prog w2 = .ok (.string (strOfNums LB)) w2 :=
  have g1 := h1.below hb (Nat.lt_of_lt_of_le h1.lt hC)
  have g2 := h2.below hb (Nat.lt_of_lt_of_le h2.lt hC)
  ⟨g1, g2, h3.trans (hb.mono (Nat.le_trans hB hC)), Nat.le_trans hB hb.size, g1.conv n hn, g2.conv n hm⟩
theorem cat_len (a b : ByteArray) : (a ++ b).size = a.size + b.size := ByteArray.size_append
theorem two_new (w : World) (T : TypeId) (LA LB : List Int) (CA CB : Array Value) (hA : CA = (LA.map (Value.int .u8)).toArray) (hB : CB = (LB.map (Value.int .u8)).toArray) :
    Arr ((w.alloc (.cells CA T)).alloc (.cells CB T)) w.heap.size T LA ∧ Arr ((w.alloc (.cells CA T)).alloc (.cells CB T)) (w.heap.size + 1) T LB ∧ Below w.heap.size w ((w.alloc (.cells CA T)).alloc (.cells CB T)) := by
  subst hA hB
  refine ⟨Arr.alloc (heap_alloc_new w _) _, ?_, ((Below.refl _ _).alloc (Nat.le_refl _) _).alloc (by simp) _⟩
  have := heap_alloc_new (w.alloc (.cells (LA.map (Value.int .u8)).toArray T)) (.cells (LB.map (Value.int .u8)).toArray T)
  simpa [Arr] using this

end Go.Proofs.Ytdljjcnihajchaa.P4
