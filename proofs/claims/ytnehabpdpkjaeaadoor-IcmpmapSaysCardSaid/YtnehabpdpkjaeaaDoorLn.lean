/-
  Proved here: lines of a table as cells; slices that read as lines.
  Conditions: as each fact says.
-/
import Derived.Test.YtnehabpdpkjaeaaDoorRt
namespace Go.Proofs.YtnehabpdpkjaeaaDoor
open Go.RowKit

/-- A line's cells. -/
def lnv (x : Ln) : List Value := [.int .i64 x.1, .int .i64 x.2.1, .int .i64 x.2.2.1, .int .i64 x.2.2.2.1, .int .i64 x.2.2.2.2]
def lnV (l : List Ln) : List Value := l.flatMap lnv
theorem lnV_append (a b : List Ln) : lnV (a ++ b) = lnV a ++ lnV b := by unfold lnV; rw [List.flatMap_append]
theorem lnV_len (l : List Ln) : (lnV l).length = l.length * 5 := by
  induction l with
  | nil => rfl
  | cons e r ih =>
    show (lnv e ++ lnV r).length = _
    rw [List.length_append, ih]
    show 5 + r.length * 5 = (r.length + 1) * 5
    omega
theorem lnV_at (l : List Ln) : ∀ (i : Nat) (h : i < l.length) (j : Nat) (u : Value), (lnv l[i])[j]? = some u → (lnV l)[i * 5 + j]? = some u := by
  induction l with
  | nil => intro i h; cases h
  | cons e r ih =>
    intro i h j u hu
    have h5 : (lnv e).length = 5 := rfl
    show (lnv e ++ lnV r)[i * 5 + j]? = some u
    match i, h with
    | 0, _ =>
      have hj : j < (lnv e).length := (List.getElem?_eq_some_iff.1 hu).1
      rw [Nat.zero_mul, Nat.zero_add, List.getElem?_append_left hj]
      exact hu
    | i + 1, h =>
      rw [List.getElem?_append_right (by rw [h5]; omega), h5, show (i + 1) * 5 + j - 5 = i * 5 + j by omega]
      exact ih i (by simpa using h) j u hu
/-- A slice that reads as these lines. -/
def Lns (w : World) (v : Value) (l : List Ln) : Prop :=
  ∃ ao cap, v = .slice ao l.length cap ∧ ∀ i (h : i < l.length), ∃ b o, ao = some ⟨b, o, none⟩ ∧ b < w.heap.size ∧ w.rangeAt b (o + i * 5) (lnv l[i])
theorem lns_own {w : World} {base : Nat} {v : Value} {l : List Ln} (h : w.ownsRow base 42 5 v l.length (lnV l)) : Lns w v l := by
  obtain ⟨_, ⟨rfl, h0⟩ | ⟨g, cap, cur, rfl, hb, hh, h3, h4, h5, h6⟩⟩ := h
  · exact ⟨none, 0, by rw [h0], fun i hi => by omega⟩
  · have hk : Bk w g 42 cur := hh
    refine ⟨_, cap, rfl, fun i hi => ⟨g, 0, rfl, hk.lt, fun j u hj => ?_⟩⟩
    have hj5 : j < 5 := (List.getElem?_eq_some_iff.1 hj).1
    have e1 := lnV_at l i hi j u hj
    rw [← h6, List.getElem?_take, if_pos (by omega)] at e1
    rw [Nat.zero_add]
    exact hk.c _ _ (by simpa using e1)
theorem Lns.below {w w' : World} {v : Value} {l : List Ln} (h : Lns w v l) (hb : Below w.heap.size w w') : Lns w' v l := by
  obtain ⟨ao, cap, rfl, hc⟩ := h
  refine ⟨ao, cap, rfl, fun i hi => ?_⟩
  obtain ⟨b, o, e, h1, h2⟩ := hc i hi
  exact ⟨b, o, e, Nat.lt_of_lt_of_le h1 hb.size, fun j u hj => (hb.cell (show (⟨b, o + i * 5 + j, none⟩ : Addr).block < w.heap.size from h1)).trans (h2 j u hj)⟩
theorem Tryd.infoLn : (Tryd.prog.info? 42).map (fun i => (i.zero, i.size, i.bytes)) = some (some (.agg #[.int .i64 0, .int .i64 0, .int .i64 0, .int .i64 0, .int .i64 0]), 5, 40) := by kernel_rfl
theorem Tryd.sizeLn (x : Ln) : (Tryd.prog.info? 42).map (·.size) = some (lnv x).length := by show _ = some 5; kernel_rfl
theorem own_ne {w : World} {base n g : Nat} {v : Value} {xs : List Value} {A : Array Value} (h : w.ownsRow base 42 5 v n xs) (hk : Bk w g 3 A) : some g ≠ v.ownBlock := by
  intro e
  obtain ⟨_, ⟨rfl, _⟩ | ⟨b, cap, cur, rfl, _, hh, _⟩⟩ := h
  · cases e
  · obtain rfl : g = b := by injection e
    have h2 : w.heap[g]? = some (.cells A 3 (0, 0)) := hk
    rw [hh] at h2
    injection h2 with h3
    injection h3 with _ h4
    exact absurd h4 (by decide)
end Go.Proofs.YtnehabpdpkjaeaaDoor
