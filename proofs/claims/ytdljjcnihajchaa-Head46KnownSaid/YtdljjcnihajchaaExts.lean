/-
  Proved here: plain facts on chains of extensions; what the document's Routed and Chain answer.
  Conditions: texts of at most 2^40 bytes; the slice's cells hold extensions.
-/
import Derived.Test.YtdljjcnihajchaaBlocks
import Derived.Laws.AppendOwn
namespace Go.Proofs.Ytdljjcnihajchaa
open Go.RowKit

/-- Extensions as cells. -/
def extV (l : List (Int × ByteArray)) : List Value := l.flatMap fun e => [.int .i64 e.1, .string e.2]
theorem extV_append (a b : List (Int × ByteArray)) : extV (a ++ b) = extV a ++ extV b := by unfold extV; rw [List.flatMap_append]
theorem extV_len (l : List (Int × ByteArray)) : (extV l).length = l.length * 2 := by
  induction l with
  | nil => rfl
  | cons e r ih =>
    show ([Value.int .i64 e.1, .string e.2] ++ extV r).length = _
    rw [List.length_append, ih]
    show 2 + r.length * 2 = (r.length + 1) * 2
    omega
theorem extV_at (l : List (Int × ByteArray)) : ∀ (i : Nat) (h : i < l.length), (extV l)[i * 2]? = some (.int .i64 l[i].1) ∧ (extV l)[i * 2 + 1]? = some (.string l[i].2) := by
  induction l with
  | nil => intro i h; cases h
  | cons e r ih =>
    intro i h
    match i, h with
    | 0, _ => exact ⟨rfl, rfl⟩
    | i + 1, h =>
      have := ih i (by simpa using h)
      rw [show (i + 1) * 2 = i * 2 + 2 by omega]
      exact this
/-- A slice that reads as these extensions. -/
def Exs (w : World) (v : Value) (l : List (Int × ByteArray)) : Prop :=
  ∃ ao cap, v = .slice ao l.length cap ∧ ∀ i (h : i < l.length), ∃ b o, ao = some ⟨b, o, none⟩ ∧ w.cell? ⟨b, o + i * 2, none⟩ = some (.int .i64 l[i].1) ∧ w.cell? ⟨b, o + i * 2 + 1, none⟩ = some (.string l[i].2)
theorem exs_own {w : World} {base : Nat} {v : Value} {l : List (Int × ByteArray)} (h : w.ownsRow base 57 2 v l.length (extV l)) : Exs w v l := by
  obtain ⟨_, ⟨rfl, h0⟩ | ⟨g, cap, cur, rfl, hb, hh, h3, h4, h5, h6⟩⟩ := h
  · exact ⟨none, 0, by rw [h0], fun i hi => by omega⟩
  · refine ⟨_, cap, rfl, fun i hi => ⟨g, 0, rfl, ?_, ?_⟩⟩
    all_goals
      have e : ∀ j, j < l.length * 2 → cur[j]? = (extV l)[j]? := fun j hj => by
        have e : (cur.toList.take (l.length * 2))[j]? = (extV l)[j]? := congrArg (fun x : List Value => x[j]?) h6
        rw [List.getElem?_take, if_pos hj] at e
        rw [← e]
        simp
      have e2 := extV_at l i hi
      have hk : Bk w g 57 cur := hh
      rw [Nat.zero_add]
    · exact hk.c _ _ (by rw [e _ (by omega), e2.1])
    · exact hk.c _ _ (by rw [e _ (by omega), e2.2])

theorem ret_bool {a b : Bool} (h : a = b) : Ending.returned (.bool a) = .returned (.bool b) := by rw [h]
/-- Is an extension a route that is not used up? -/
def rt1 (e : Int × ByteArray) : Bool := e.1 == 43 && (decide (2 ≤ e.2.size) && (e.2.data.toList.getD 1 0 != 0))
def rtd (l : List (Int × ByteArray)) : Bool := l.any rt1
theorem any_snoc (l : List (Int × ByteArray)) (k : Nat) (h : k < l.length) (f : Int × ByteArray → Bool) (h0 : (l.take k).any f = false) (h1 : f l[k] = false) : (l.take (k + 1)).any f = false := by
  rw [List.take_succ_eq_append_getElem h, List.any_append, h0, List.any_cons, h1]
  rfl
theorem any_yes (l : List (Int × ByteArray)) (k : Nat) (h : k < l.length) (f : Int × ByteArray → Bool) (h1 : f l[k] = true) : l.any f = true := List.any_eq_true.2 ⟨_, List.getElem_mem h, h1⟩
theorem byte_get (s : ByteArray) (i : Nat) (h : i < s.size) : s.data.toList.getD i 0 = s[i] := by
  rw [List.getD_eq_getElem?_getD, List.getElem?_eq_getElem (by simpa using h)]
  rfl
end Go.Proofs.Ytdljjcnihajchaa
