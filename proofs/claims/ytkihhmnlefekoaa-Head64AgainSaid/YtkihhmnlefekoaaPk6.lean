/-
  Proved here: what a packet of layer 4 is as cells; that a packet's parts equal themselves.
  Conditions: none.
-/
import Derived.Test.YtkihhmnlefekoaaExts
import Derived.Laws.StructEq
import Derived.ChangeKeysEq
namespace Go.Proofs.Ytkihhmnlefekoaa
open Go.RowKit

/-- Bytes as cells. -/
def bytV (l : List UInt8) : List Value := l.map fun c => Value.int .u8 (c.toNat : Int)
theorem bytV_len (l : List UInt8) : (bytV l).length = l.length := by unfold bytV; rw [List.length_map]
theorem bytV_one (l : List UInt8) : ∀ v ∈ bytV l, v.oneCell' = true := by
  intro v hv
  obtain ⟨x, _, rfl⟩ := List.mem_map.1 hv
  rfl
/-- A packet. -/
structure Pk6 where
  cls : Int
  flow : Int
  hop : Int
  fr : List UInt8
  dst : List UInt8
  exts : List (Int × ByteArray)
  frag : Bool
  id : Int
  pl : Int
  more : Bool
  proto : Int
  data : ByteArray
  hfr : fr.length = 16
  hdst : dst.length = 16
/-- What stands behind the addresses. -/
def Pk6.tail (p : Pk6) (v : Value) : List Value := [v, .bool p.frag, .int .u32 p.id, .int .i64 p.pl, .bool p.more, .int .i64 p.proto, .string p.data]
/-- A packet's cells; v: the slice of its extensions. -/
def Pk6.vals (p : Pk6) (v : Value) : List Value := [.int .i64 p.cls, .int .i64 p.flow, .int .i64 p.hop] ++ (bytV p.fr ++ (bytV p.dst ++ p.tail v))
section
variable (p : Pk6) (v : Value)
theorem vals_len : (p.vals v).length = 42 := by
  unfold Pk6.vals
  rw [List.length_append, List.length_append, List.length_append, bytV_len, bytV_len, p.hfr, p.hdst]
  rfl
theorem vals_tail (i : Nat) : (p.vals v)[35 + i]? = (p.tail v)[i]? := by
  unfold Pk6.vals
  have h1 := (bytV_len p.fr).trans p.hfr
  have h2 := (bytV_len p.dst).trans p.hdst
  rw [List.getElem?_append_right (by show 3 ≤ _; omega), List.getElem?_append_right (by rw [h1]; show 16 ≤ 35 + i - 3; omega), List.getElem?_append_right (by rw [h1, h2]; show 16 ≤ 35 + i - 3 - 16; omega), h1, h2]
  rw [show 35 + i - [Value.int IntKind.i64 p.cls, Value.int IntKind.i64 p.flow, Value.int IntKind.i64 p.hop].length - 16 - 16 = i by show 35 + i - 3 - 16 - 16 = i; omega]
theorem vals_fr (i : Nat) (x : Value) (h : (bytV p.fr)[i]? = some x) : (p.vals v)[3 + i]? = some x := by
  unfold Pk6.vals
  have hi : i < (bytV p.fr).length := (List.getElem?_eq_some_iff.1 h).1
  rw [List.getElem?_append_right (by show 3 ≤ _; omega), show 3 + i - [Value.int IntKind.i64 p.cls, Value.int IntKind.i64 p.flow, Value.int IntKind.i64 p.hop].length = i by show 3 + i - 3 = i; omega, List.getElem?_append_left hi, h]
theorem vals_dst (i : Nat) (x : Value) (h : (bytV p.dst)[i]? = some x) : (p.vals v)[19 + i]? = some x := by
  unfold Pk6.vals
  have h1 := (bytV_len p.fr).trans p.hfr
  have hi : i < (bytV p.dst).length := (List.getElem?_eq_some_iff.1 h).1
  rw [List.getElem?_append_right (by show 3 ≤ _; omega), show 19 + i - [Value.int IntKind.i64 p.cls, Value.int IntKind.i64 p.flow, Value.int IntKind.i64 p.hop].length = 16 + i by show 19 + i - 3 = 16 + i; omega, List.getElem?_append_right (by omega), h1, Nat.add_sub_cancel_left, List.getElem?_append_left hi, h]
theorem vals_one (hv : v.oneCell' = true) : (p.vals v).toArray.all (·.oneCell') = true := by
  rw [List.all_toArray, List.all_eq_true]
  intro x hx
  unfold Pk6.vals Pk6.tail at hx
  simp only [List.mem_append, List.mem_cons, List.not_mem_nil, or_false] at hx
  rcases hx with (rfl | rfl | rfl) | hx | hx | rfl | rfl | rfl | rfl | rfl | rfl | rfl
  · rfl
  · rfl
  · rfl
  · exact bytV_one _ x hx
  · exact bytV_one _ x hx
  · exact hv
  all_goals rfl
theorem Try.info6 : (Try.prog.info? 35).map (·.size) = some (p.vals v).length := by
  rw [vals_len]
  kernel_rfl
theorem Try.infoV6 (l : List UInt8) (h : l.length = 16) : (Try.prog.info? 32).map (·.size) = some (bytV l).length := by
  rw [bytV_len, h]
  kernel_rfl
end
/-- The cells of a packet's block. -/
structure Cs6 (p : Pk6) (v : Value) (b : Nat) (w : World) : Prop where
  c0 : w.cell? ⟨b, 0, none⟩ = some (.int .i64 p.cls)
  c1 : w.cell? ⟨b, 1, none⟩ = some (.int .i64 p.flow)
  c2 : w.cell? ⟨b, 2, none⟩ = some (.int .i64 p.hop)
  c35 : w.cell? ⟨b, 35, none⟩ = some v
  c36 : w.cell? ⟨b, 36, none⟩ = some (.bool p.frag)
  c37 : w.cell? ⟨b, 37, none⟩ = some (.int .u32 p.id)
  c38 : w.cell? ⟨b, 38, none⟩ = some (.int .i64 p.pl)
  c39 : w.cell? ⟨b, 39, none⟩ = some (.bool p.more)
  c40 : w.cell? ⟨b, 40, none⟩ = some (.int .i64 p.proto)
  c41 : w.cell? ⟨b, 41, none⟩ = some (.string p.data)
  fr : w.rangeAt b 3 (bytV p.fr)
  dst : w.rangeAt b 19 (bytV p.dst)
theorem cs6 {p : Pk6} {v : Value} {b : Nat} {w : World} {T : TypeId} (h : Bk w b T (p.vals v).toArray) : Cs6 p v b w where
  c0 := h.at rfl
  c1 := h.at rfl
  c2 := h.at rfl
  c35 := h.at (vals_tail p v 0)
  c36 := h.at (vals_tail p v 1)
  c37 := h.at (vals_tail p v 2)
  c38 := h.at (vals_tail p v 3)
  c39 := h.at (vals_tail p v 4)
  c40 := h.at (vals_tail p v 5)
  c41 := h.at (vals_tail p v 6)
  fr := fun i x hx => h.at (vals_fr p v i x hx)
  dst := fun i x hx => h.at (vals_dst p v i x hx)
theorem Exs.below {w w' : World} {v : Value} {l : List (Int × ByteArray)} {B : Nat} (h : Exs w v l) (hb : Below B w w') (hB : w.heap.size ≤ B) : Exs w' v l := by
  obtain ⟨ao, cap, rfl, hc⟩ := h
  refine ⟨ao, cap, rfl, fun i hi => ?_⟩
  obtain ⟨b, o, e, h1, h2⟩ := hc i hi
  have hlt : b < w.heap.size := World.block_lt_of_cell? w ⟨b, o + i * 2, none⟩ h1
  exact ⟨b, o, e, (hb.cell (p := ⟨b, o + i * 2, none⟩) (Nat.lt_of_lt_of_le hlt hB)).trans h1, (hb.cell (p := ⟨b, o + i * 2 + 1, none⟩) (Nat.lt_of_lt_of_le hlt hB)).trans h2⟩
theorem Try.fieldsExt : Try.prog.underlying 38 = some (.struct (Try.prog.fieldsOf 38)) := by kernel_rfl
theorem Try.heldExt : Try.prog.stoodInHeld 38 = false := by kernel_rfl
theorem Try.guardExt : Try.prog.eqGuardType Try.prog.depth 38 = false := by kernel_rfl
theorem Try.guardV6 : Try.prog.eqGuardType Try.prog.depth 32 = false := by kernel_rfl
/-- An extension is no other than itself. -/
theorem neqExt (k : Int) (s : ByteArray) (w : World) : (binOp .neq 38 (.agg #[.int .i64 k, .string s]) (.agg #[.int .i64 k, .string s])).run Try.prog w = .ok (.bool false) w := by
  have q0 : ∀ W, (part 3 #[.int .i64 k, .string s] 0).run Try.prog W = .ok (.int .i64 k) W := fun _ => by kernel_rfl
  have q1 : ∀ W, (part 9 #[.int .i64 k, .string s] 1).run Try.prog W = .ok (.string s) W := fun _ => by kernel_rfl
  have hn := fun (x : Int) (W : World) => run_equalIn_int (P := Try.prog) W 9998 3 .i64 .i64 x x Try.underlying3
  have hs := fun (x : ByteArray) (W : World) => run_equalIn_string (P := Try.prog) W 9998 9 x x Try.underlying9
  rw [run_neq_struct, run_equalIn_struct w 9999 38 _ _ Try.fieldsExt Try.heldExt]
  simp only [Program.fieldsOf, Try.underlying38]
  simp [Op.eqFields, q0, q1, hn, hs]
end Go.Proofs.Ytkihhmnlefekoaa
