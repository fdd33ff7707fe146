/-
  Proved here: plain facts on prefixes and on addresses in them.
  Conditions: as each fact says.
-/
import Derived.Test.YtpjcanejenmldaaBlocks
namespace Go.Proofs.Ytpjcanejenmldaa
open Go.RowKit

/-- Bytes as cells. -/
def b8 (l : List Int) : List Value := l.map (Value.int .u8)
theorem b8_len (l : List Int) : (b8 l).length = l.length := by simp [b8]
theorem b8_at (l : List Int) (i : Nat) (h : i < l.length) : (b8 l)[i]? = some (.int .u8 (l.getD i 0)) := by
  unfold b8
  rw [List.getElem?_map, List.getElem?_eq_getElem h, List.getD_eq_getElem?_getD, List.getElem?_eq_getElem h]
  rfl
theorem b8_one (l : List Int) : (b8 l).toArray.all (·.oneCell') = true := by
  unfold b8
  simp [Value.oneCell']
/-- A prefix: its address' bytes and its length. -/
structure Nt where
  ad : List Int
  ln : Int
def Nt.vals (p : Nt) : List Value := b8 p.ad ++ [.int .i64 p.ln]
theorem nvals_len (p : Nt) (h : p.ad.length = 16) : p.vals.length = 17 := by unfold Nt.vals; rw [List.length_append, b8_len, h]; rfl
theorem nvals_at (p : Nt) (h : p.ad.length = 16) (i : Nat) (hi : i < 16) : p.vals[i]? = some (.int .u8 (p.ad.getD i 0)) := by
  unfold Nt.vals
  rw [List.getElem?_append_left (by rw [b8_len]; omega)]
  exact b8_at _ i (by omega)
theorem nvals_ln (p : Nt) (h : p.ad.length = 16) : p.vals[16]? = some (.int .i64 p.ln) := by
  unfold Nt.vals
  rw [List.getElem?_append_right (by rw [b8_len]; omega), b8_len, h]
  rfl
theorem nvals_ad (p : Nt) (h : p.ad.length = 16) : p.vals.take 16 = b8 p.ad := by
  unfold Nt.vals
  rw [List.take_append_of_le_length (by rw [b8_len]; omega)]
  exact List.take_of_length_le (by rw [b8_len]; omega)
theorem nvals_one (p : Nt) : p.vals.toArray.all (·.oneCell') = true := by
  have h := b8_one p.ad
  unfold Nt.vals
  simp only [List.all_toArray, List.all_append] at h ⊢
  rw [h]
  rfl
theorem Try.infoNet (p : Nt) (h : p.ad.length = 16) : (Try.prog.info? 26).map (·.size) = some p.vals.length := by
  rw [nvals_len p h]
  kernel_rfl
theorem Try.infoSix (l : List Int) (h : l.length = 16) : (Try.prog.info? 23).map (·.size) = some (b8 l).length := by
  rw [b8_len, h]
  kernel_rfl
theorem Try.infoFour (l : List Int) (h : l.length = 4) : (Try.prog.info? 31).map (·.size) = some (b8 l).length := by
  rw [b8_len, h]
  kernel_rfl
theorem Try.execZ6 (ρ : Operand → Value) (d : Option Tmp) (ty : TypeId) (ps : String) (af : Array Edge) (gd : Option (Nat × Bool)) (w : World) : (execOp ρ { dst := d, op := .build 23 #[], type := ty, pos := ps, after := af, guard := gd }).run Try.prog w = .ok (.value (.agg (b8 [0, 0, 0, 0, 0, 0, 0, 0, 0, 0, 0, 0, 0, 0, 0, 0]).toArray)) w := by kernel_rfl
theorem Try.execZ4 (ρ : Operand → Value) (d : Option Tmp) (ty : TypeId) (ps : String) (af : Array Edge) (gd : Option (Nat × Bool)) (w : World) : (execOp ρ { dst := d, op := .build 31 #[], type := ty, pos := ps, after := af, guard := gd }).run Try.prog w = .ok (.value (.agg (b8 [0, 0, 0, 0]).toArray)) w := by kernel_rfl
/-- The lengths that a prefix may have. -/
def okL (n : Int) : Bool := (n == 32) || (n == 40) || (n == 48) || (n == 56) || (n == 64) || (n == 96)
theorem okL_cases {n : Int} (h : okL n = true) : n = 32 ∨ n = 40 ∨ n = 48 ∨ n = 56 ∨ n = 64 ∨ n = 96 := by
  unfold okL at h
  simp only [Bool.or_eq_true, beq_iff_eq] at h
  omega
theorem okL_not {n : Int} (h : okL n = false) : n ≠ 32 ∧ n ≠ 40 ∧ n ≠ 48 ∧ n ≠ 56 ∧ n ≠ 64 ∧ n ≠ 96 := by
  unfold okL at h
  simp only [Bool.or_eq_false_iff, beq_eq_false_iff_ne] at h
  omega
/-- How many bytes a length is. -/
def cut8 (n : Int) : Nat := (n / 8).toNat
/-- Whether all from byte k on, up to byte m, are noughts. -/
def nil8 (l : List Int) (k m : Nat) : Bool := ((l.take m).drop k).all (· == 0)
theorem nil8_start (l : List Int) (k : Nat) : nil8 l k k = true := by
  unfold nil8
  rw [List.drop_of_length_le (by simp; omega)]
  rfl
theorem nil8_next (l : List Int) (k m : Nat) (hk : k ≤ m) (hm : m < l.length) : nil8 l k (m + 1) = (nil8 l k m && (l.getD m 0 == 0)) := by
  unfold nil8
  rw [List.take_succ_eq_append_getElem hm, List.drop_append_of_le_length (by simp; omega), List.all_append, List.getD_eq_getElem?_getD, List.getElem?_eq_getElem hm]
  simp
theorem nil8_more (l : List Int) (k m n : Nat) (hmn : m ≤ n) (h : nil8 l k m = false) : nil8 l k n = false := by
  unfold nil8 at *
  rw [List.all_eq_false] at *
  obtain ⟨x, hx, h0⟩ := h
  refine ⟨x, ?_, h0⟩
  rw [List.mem_drop_iff_getElem] at *
  obtain ⟨i, hi, rfl⟩ := hx
  have hi' : k + i < (l.take n).length := by simp at hi ⊢; omega
  refine ⟨i, by simpa [Nat.add_comm] using hi', ?_⟩
  simp
/-- Whether it may be. -/
def Nt.right (p : Nt) : Bool := okL p.ln && ((p.ad.getD 8 0 == 0) && nil8 p.ad (cut8 p.ln) 16)
/-- Whether two texts share their first bytes. -/
def Nt.inside (p : Nt) (x : List Int) : Bool := p.right && (p.ad.take (cut8 p.ln) == x.take (cut8 p.ln))
/-- Where an address stands in one of a length. -/
def pos4 (n : Int) : List Nat := if n = 32 then [4, 5, 6, 7] else if n = 40 then [5, 6, 7, 9] else if n = 48 then [6, 7, 9, 10] else if n = 56 then [7, 9, 10, 11] else if n = 64 then [9, 10, 11, 12] else [12, 13, 14, 15]
def put4 (l : List Int) (q : List Nat) (a : List Int) : List Int := (((l.set (q.getD 0 0) (a.getD 0 0)).set (q.getD 1 0) (a.getD 1 0)).set (q.getD 2 0) (a.getD 2 0)).set (q.getD 3 0) (a.getD 3 0)
theorem put4_len (l : List Int) (q : List Nat) (a : List Int) : (put4 l q a).length = l.length := by unfold put4; simp
def zero6 : List Int := [0, 0, 0, 0, 0, 0, 0, 0, 0, 0, 0, 0, 0, 0, 0, 0]
def zero4 : List Int := [0, 0, 0, 0]
def Nt.emb (p : Nt) (a : List Int) : List Int := if p.right = true then put4 p.ad (pos4 p.ln) a else zero6
def Nt.takes (p : Nt) (x : List Int) : Bool := p.inside x && (x.getD 8 0 == 0)
def get4 (x : List Int) (q : List Nat) : List Int := [x.getD (q.getD 0 0) 0, x.getD (q.getD 1 0) 0, x.getD (q.getD 2 0) 0, x.getD (q.getD 3 0) 0]
def Nt.ext (p : Nt) (x : List Int) : List Int := if p.takes x = true then get4 x (pos4 p.ln) else zero4
theorem emb_len (p : Nt) (h : p.ad.length = 16) (a : List Int) : (p.emb a).length = 16 := by
  unfold Nt.emb
  split
  · rw [put4_len]; exact h
  · rfl
theorem ext_len (p : Nt) (x : List Int) : (p.ext x).length = 4 := by
  unfold Nt.ext
  split
  · rfl
  · rfl
end Go.Proofs.Ytpjcanejenmldaa
