/-
  Proved here: bytes as cells; a text's bytes as a list.
  Conditions: none.
-/
import Derived.Test.YtkdplnbabelkoaaDoorBlocks
namespace Go.Proofs.YtkdplnbabelkoaaDoor
open Go.RowKit

/-- Bytes as cells. -/
def b8 (l : List Int) : List Value := l.map (Value.int .u8)
theorem b8_len (l : List Int) : (b8 l).length = l.length := by simp [b8]
theorem b8_at (l : List Int) (i : Nat) (h : i < l.length) : (b8 l)[i]? = some (.int .u8 (l.getD i 0)) := by
  unfold b8
  rw [List.getElem?_map, List.getElem?_eq_getElem h, List.getD_eq_getElem?_getD, List.getElem?_eq_getElem h]
  rfl
theorem b8_one (l : List Int) : (b8 l).toArray.all (·.oneCell') = true := by
  unfold b8
  simp [Value.oneCell']
theorem b8_set (l : List Int) (i : Nat) (v : Int) : b8 (l.set i v) = (b8 l).set i (.int .u8 v) := by unfold b8; rw [List.map_set]
/-- A text's bytes. -/
def bl (s : ByteArray) : List UInt8 := s.data.toList
theorem bl_len (s : ByteArray) : (bl s).length = s.size := by unfold bl; simp
theorem bl_at (s : ByteArray) (k : Nat) (h : k < s.size) : (bl s)[k]? = some s[k] := by
  unfold bl
  rw [List.getElem?_eq_getElem (by simpa using h)]
  rfl
theorem bl_take (s : ByteArray) (k : Nat) (h : k < s.size) : (bl s).take (k + 1) = (bl s).take k ++ [s[k]] := by
  rw [List.take_add_one, bl_at s k h]
  rfl
theorem bl_all (s : ByteArray) : (bl s).take s.size = bl s := List.take_of_length_le (by rw [bl_len]; exact Nat.le_refl _)
end Go.Proofs.YtkdplnbabelkoaaDoor
