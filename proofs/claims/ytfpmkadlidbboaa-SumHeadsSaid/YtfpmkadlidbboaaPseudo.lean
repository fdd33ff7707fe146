/-
  Proved here: what sum.Pseudo4 and sum.Pseudo6 answer.
  Conditions: none.
-/
import Derived.Test.YtfpmkadlidbboaaLow
namespace Go.Proofs.Ytfpmkadlidbboaa
open Go.RowKit

/-- A block that is just these bytes. -/
def Arr (w : World) (b : Nat) (T : TypeId) (L : List Int) : Prop := w.heap[b]? = some (.cells (L.map (Value.int .u8)).toArray T (0, 0))
section
variable {w w' : World} {b : Nat} {T : TypeId} {L : List Int}
theorem Arr.lt (h : Arr w b T L) : b < w.heap.size := by
  rcases Nat.lt_or_ge b w.heap.size with hl | hg
  · exact hl
  · unfold Arr at h; rw [Array.getElem?_eq_none hg] at h; cases h
theorem Arr.cell (h : Arr w b T L) (i : Nat) (hi : i < L.length) : w.cell? ⟨b, i, none⟩ = some (.int .u8 L[i]) := by
  unfold Arr at h
  simp [World.cell?, h, hi]
theorem Arr.below {B : Nat} (h : Arr w b T L) (hb : Below B w w') (hB : b < B) : Arr w' b T L := (hb.block b hB).trans h
theorem Arr.alloc (h : Arr w b T L) (o : Obj) : Arr (w.alloc o) b T L := (Below.heap_alloc w o b h.lt).trans h
theorem Arr.drew (h : Arr w b T L) : Arr w.drew b T L := h
/-- The bytes as a text. -/
theorem Arr.conv (h : Arr w b T L) (n : Nat) (hn : L.length = n) : (convert 42 9 (.slice (some ⟨b, 0, none⟩) n n)).run Try.prog w = .ok (.string (strOfNums L)) w := by
  refine run_convert_bytes_arg _ 42 5 Try.underlying42 Try.underlying5 b 0 n n L hn (fun i hi => ?_) 9 Try.underlying9
  rw [Nat.zero_add, h.cell i (by omega), List.getD_eq_getElem?_getD, List.getElem?_eq_getElem (by omega)]
  rfl
end

theorem keep_both {w w1 w2 : World} {B p1 p2 n C : Nat} {T : TypeId} {LA LB : List Int} (hb : Below C w1 w2) (hC : w1.heap.size ≤ C) (h1 : Arr w1 p1 T LA) (h2 : Arr w1 p2 T LB) (h3 : Below B w w1) (hB : B ≤ w1.heap.size) (hn : LA.length = n) (hm : LB.length = n) :
    Arr w2 p1 T LA ∧ Arr w2 p2 T LB ∧ Below B w w2 ∧ B ≤ w2.heap.size ∧ (convert 42 9 (.slice (some ⟨p1, 0, none⟩) n n)).run Try.prog w2 = .ok (.string (strOfNums LA)) w2 ∧ (convert 42 9 (.slice (some ⟨p2, 0, none⟩) n n)).run Try.prog w2 = .ok (.string (strOfNums LB)) w2 :=
  have g1 := h1.below hb (Nat.lt_of_lt_of_le h1.lt hC)
  have g2 := h2.below hb (Nat.lt_of_lt_of_le h2.lt hC)
  ⟨g1, g2, h3.trans (hb.mono (Nat.le_trans hB hC)), Nat.le_trans hB hb.size, g1.conv n hn, g2.conv n hm⟩
theorem cat_len (a b : ByteArray) : (a ++ b).size = a.size + b.size := ByteArray.size_append
theorem two_new (w : World) (T : TypeId) (LA LB : List Int) (CA CB : Array Value) (hA : CA = (LA.map (Value.int .u8)).toArray) (hB : CB = (LB.map (Value.int .u8)).toArray) :
    Arr ((w.alloc (.cells CA T)).alloc (.cells CB T)) w.heap.size T LA ∧ Arr ((w.alloc (.cells CA T)).alloc (.cells CB T)) (w.heap.size + 1) T LB ∧ Below w.heap.size w ((w.alloc (.cells CA T)).alloc (.cells CB T)) := by
  subst hA hB
  refine ⟨Arr.alloc (heap_alloc_new w _) _, ?_, ((Below.refl _ _).alloc (Nat.le_refl _) _).alloc (by simp) _⟩
  have := heap_alloc_new (w.alloc (.cells (LA.map (Value.int .u8)).toArray T)) (.cells (LB.map (Value.int .u8)).toArray T)
  simpa [Arr] using this

set_option maxRecDepth 100000 in
set_option maxHeartbeats 2000000 in
theorem pseudo4_any (a0 a1 a2 a3 b0 b1 b2 b3 p l : Int) (w : World) :
    Calls Try.prog 16 #[.agg #[.int .u8 a0, .int .u8 a1, .int .u8 a2, .int .u8 a3], .agg #[.int .u8 b0, .int .u8 b1, .int .u8 b2, .int .u8 b3], .int .i64 p, .int .i64 l] w fun e w' => e = .returned (.string (strOfNums [a0, a1, a2, a3] ++ strOfNums [b0, b1, b2, b3] ++ ⟨#[0]⟩ ++ strOfNums (lowN 1 p) ++ strOfNums (lowN 2 l))) ∧ Below w.heap.size w w' := by
  go_enter Try.func16, Try.ntmps16
  go_wp2_with fail
  obtain ⟨h1, h2, h3⟩ := two_new w 28 [a0, a1, a2, a3] [b0, b1, b2, b3] #[.int .u8 a0, .int .u8 a1, .int .u8 a2, .int .u8 a3] #[.int .u8 b0, .int .u8 b1, .int .u8 b2, .int .u8 b3] rfl rfl
  generalize (w.alloc (.cells #[.int .u8 a0, .int .u8 a1, .int .u8 a2, .int .u8 a3] 28)).alloc (.cells #[.int .u8 b0, .int .u8 b1, .int .u8 b2, .int .u8 b3] 28) = W at h1 h2 h3
  have hN : w.heap.size ≤ W.heap.size := h3.size
  obtain ⟨B, hBd⟩ : ∃ B, B = w.heap.size := ⟨_, rfl⟩
  rw [← hBd] at h3 hN
  have HBd := Lib.hid hBd
  clear hBd
  generalize w.heap.size + 1 = p2 at h2
  generalize w.heap.size = p1 at h1
  have z1 := strOfNums_size [a0, a1, a2, a3]
  have z2 := strOfNums_size [b0, b1, b2, b3]
  have z3 : (strOfNums (lowN 1 p)).size = 1 := rfl
  have z4 : (strOfNums (lowN 2 l)).size = 2 := rfl
  have zz := cat_len
  go_region_held3 (fun w' => Arr w' p1 28 [a0, a1, a2, a3] ∧ Arr w' p2 28 [b0, b1, b2, b3] ∧ Below B w w' ∧ B ≤ w'.heap.size ∧ (convert 42 9 (.slice (some ⟨p1, 0, none⟩) 4 4)).run Try.prog w' = .ok (.string (strOfNums [a0, a1, a2, a3])) w' ∧ (convert 42 9 (.slice (some ⟨p2, 0, none⟩) 4 4)).run Try.prog w' = .ok (.string (strOfNums [b0, b1, b2, b3])) w')
    (first
      | exact keep_both ((Below.refl W.heap.size W).drew) (Nat.le_refl _) h1 h2 h3 hN rfl rfl
      | (go_split_ands; refine keep_both hb9 (Nat.le_refl _) ?_ ?_ ?_ ?_ rfl rfl <;> assumption))
    (first
      | (go_at_call 26; ((with_reducible refine (low1 _ _).mono ?_); rintro e w9 ⟨rfl, hb9⟩))
      | (go_at_call 26; ((with_reducible refine (low2 _ _).mono ?_); rintro e w9 ⟨rfl, hb9⟩))
      | (go_at_call 26; ((with_reducible refine (low4 _ _).mono ?_); rintro e w9 ⟨rfl, hb9⟩)))
  clear z1 z2 zz
  go_split_ands
  have hfin : Below B w w9 := by assumption
  rw [HBd.out] at hfin
  have HF := Lib.hid hfin
  clear hfin
  go_wp2_with fail
  go_ret
  exact ⟨rfl, HF.out⟩

set_option maxRecDepth 100000 in
set_option maxHeartbeats 2000000 in
theorem pseudo6_any (a0 a1 a2 a3 a4 a5 a6 a7 a8 a9 a10 a11 a12 a13 a14 a15 b0 b1 b2 b3 b4 b5 b6 b7 b8 b9 b10 b11 b12 b13 b14 b15 p l : Int) (w : World) :
    Calls Try.prog 17 #[.agg #[.int .u8 a0, .int .u8 a1, .int .u8 a2, .int .u8 a3, .int .u8 a4, .int .u8 a5, .int .u8 a6, .int .u8 a7, .int .u8 a8, .int .u8 a9, .int .u8 a10, .int .u8 a11, .int .u8 a12, .int .u8 a13, .int .u8 a14, .int .u8 a15], .agg #[.int .u8 b0, .int .u8 b1, .int .u8 b2, .int .u8 b3, .int .u8 b4, .int .u8 b5, .int .u8 b6, .int .u8 b7, .int .u8 b8, .int .u8 b9, .int .u8 b10, .int .u8 b11, .int .u8 b12, .int .u8 b13, .int .u8 b14, .int .u8 b15], .int .i64 p, .int .i64 l] w fun e w' => e = .returned (.string (strOfNums [a0, a1, a2, a3, a4, a5, a6, a7, a8, a9, a10, a11, a12, a13, a14, a15] ++ strOfNums [b0, b1, b2, b3, b4, b5, b6, b7, b8, b9, b10, b11, b12, b13, b14, b15] ++ strOfNums (lowN 4 l) ++ ⟨#[0, 0, 0]⟩ ++ strOfNums (lowN 1 p))) ∧ Below w.heap.size w w' := by
  go_enter Try.func17, Try.ntmps17
  go_wp2_with fail
  obtain ⟨h1, h2, h3⟩ := two_new w 31 [a0, a1, a2, a3, a4, a5, a6, a7, a8, a9, a10, a11, a12, a13, a14, a15] [b0, b1, b2, b3, b4, b5, b6, b7, b8, b9, b10, b11, b12, b13, b14, b15] #[.int .u8 a0, .int .u8 a1, .int .u8 a2, .int .u8 a3, .int .u8 a4, .int .u8 a5, .int .u8 a6, .int .u8 a7, .int .u8 a8, .int .u8 a9, .int .u8 a10, .int .u8 a11, .int .u8 a12, .int .u8 a13, .int .u8 a14, .int .u8 a15] #[.int .u8 b0, .int .u8 b1, .int .u8 b2, .int .u8 b3, .int .u8 b4, .int .u8 b5, .int .u8 b6, .int .u8 b7, .int .u8 b8, .int .u8 b9, .int .u8 b10, .int .u8 b11, .int .u8 b12, .int .u8 b13, .int .u8 b14, .int .u8 b15] rfl rfl
  generalize (w.alloc (.cells #[.int .u8 a0, .int .u8 a1, .int .u8 a2, .int .u8 a3, .int .u8 a4, .int .u8 a5, .int .u8 a6, .int .u8 a7, .int .u8 a8, .int .u8 a9, .int .u8 a10, .int .u8 a11, .int .u8 a12, .int .u8 a13, .int .u8 a14, .int .u8 a15] 31)).alloc (.cells #[.int .u8 b0, .int .u8 b1, .int .u8 b2, .int .u8 b3, .int .u8 b4, .int .u8 b5, .int .u8 b6, .int .u8 b7, .int .u8 b8, .int .u8 b9, .int .u8 b10, .int .u8 b11, .int .u8 b12, .int .u8 b13, .int .u8 b14, .int .u8 b15] 31) = W at h1 h2 h3
  have hN : w.heap.size ≤ W.heap.size := h3.size
  obtain ⟨B, hBd⟩ : ∃ B, B = w.heap.size := ⟨_, rfl⟩
  rw [← hBd] at h3 hN
  have HBd := Lib.hid hBd
  clear hBd
  generalize w.heap.size + 1 = p2 at h2
  generalize w.heap.size = p1 at h1
  have z1 := strOfNums_size [a0, a1, a2, a3, a4, a5, a6, a7, a8, a9, a10, a11, a12, a13, a14, a15]
  have z2 := strOfNums_size [b0, b1, b2, b3, b4, b5, b6, b7, b8, b9, b10, b11, b12, b13, b14, b15]
  have z3 : (strOfNums (lowN 1 p)).size = 1 := rfl
  have z4 : (strOfNums (lowN 4 l)).size = 4 := rfl
  have zz := cat_len
  go_region_held3 (fun w' => Arr w' p1 31 [a0, a1, a2, a3, a4, a5, a6, a7, a8, a9, a10, a11, a12, a13, a14, a15] ∧ Arr w' p2 31 [b0, b1, b2, b3, b4, b5, b6, b7, b8, b9, b10, b11, b12, b13, b14, b15] ∧ Below B w w' ∧ B ≤ w'.heap.size ∧ (convert 42 9 (.slice (some ⟨p1, 0, none⟩) 16 16)).run Try.prog w' = .ok (.string (strOfNums [a0, a1, a2, a3, a4, a5, a6, a7, a8, a9, a10, a11, a12, a13, a14, a15])) w' ∧ (convert 42 9 (.slice (some ⟨p2, 0, none⟩) 16 16)).run Try.prog w' = .ok (.string (strOfNums [b0, b1, b2, b3, b4, b5, b6, b7, b8, b9, b10, b11, b12, b13, b14, b15])) w')
    (first
      | exact keep_both ((Below.refl W.heap.size W).drew) (Nat.le_refl _) h1 h2 h3 hN rfl rfl
      | (go_split_ands; refine keep_both hb9 (Nat.le_refl _) ?_ ?_ ?_ ?_ rfl rfl <;> assumption))
    (first
      | (go_at_call 26; ((with_reducible refine (low1 _ _).mono ?_); rintro e w9 ⟨rfl, hb9⟩))
      | (go_at_call 26; ((with_reducible refine (low2 _ _).mono ?_); rintro e w9 ⟨rfl, hb9⟩))
      | (go_at_call 26; ((with_reducible refine (low4 _ _).mono ?_); rintro e w9 ⟨rfl, hb9⟩)))
  clear z1 z2 zz
  go_split_ands
  have hfin : Below B w w9 := by assumption
  rw [HBd.out] at hfin
  have HF := Lib.hid hfin
  clear hfin
  go_wp2_with fail
  go_ret
  exact ⟨rfl, HF.out⟩

end Go.Proofs.Ytfpmkadlidbboaa
