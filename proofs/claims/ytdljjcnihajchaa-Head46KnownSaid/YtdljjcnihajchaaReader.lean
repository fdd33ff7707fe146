/-
  Proved here: what each call of num.Reader does to its block, and answers.
  Conditions: the reader's block is whole (its text, its place within the text, its fault's code); texts no longer than the model lets be.
-/
import Derived.Test.YtdljjcnihajchaaRefPut
import Derived.OneCell
import Derived.BigQuiet
import Derived.Deep.QuietTactic
import Derived.WalkSpells
namespace Go.Proofs.Ytdljjcnihajchaa
open Go.RowKit

/-- Block b is a reader: text s, place p, fault's code c. -/
def Rd (w : World) (b : Nat) (s : ByteArray) (p : Nat) (c : Int) : Prop := w.heap[b]? = some (.cells #[.string s, .int .i64 p, .int .i64 c] 93 (0, 0))
/-- Block b is a fault: code c, place p. -/
def Flt (w : World) (b : Nat) (c p : Int) : Prop := w.heap[b]? = some (.cells #[.int .i64 c, .int .i64 p] 53 (0, 0))

section
variable {w w' : World} {b : Nat} {s : ByteArray} {p : Nat} {c : Int}
theorem Rd.c0 (h : Rd w b s p c) : w.cell? ⟨b, 0, none⟩ = some (.string s) := by unfold Rd at h; simp [World.cell?, h]
theorem Rd.c1 (h : Rd w b s p c) : w.cell? ⟨b, 1, none⟩ = some (.int .i64 p) := by unfold Rd at h; simp [World.cell?, h]
theorem Rd.c2 (h : Rd w b s p c) : w.cell? ⟨b, 2, none⟩ = some (.int .i64 c) := by unfold Rd at h; simp [World.cell?, h]
theorem Rd.z (h : Rd w b s p c) (o : Nat) : w.frozen? ⟨b, o, none⟩ = false := by unfold Rd at h; simp [World.frozen?, h]
theorem Rd.lt (h : Rd w b s p c) : b < w.heap.size := lt_of_block h
theorem Rd.set1 (h : Rd w b s p c) (x : Nat) : Rd (w.setCell ⟨b, 1, none⟩ (.int .i64 x)) b s x c := by
  have hlt := h.lt
  unfold Rd at h
  have h' : w.heap[b] = .cells #[.string s, .int .i64 p, .int .i64 c] 93 (0, 0) := by simpa [Array.getElem?_eq_getElem hlt] using h
  show (w.heap.modify b _)[b]? = _
  rw [Array.getElem?_eq_getElem (by simpa using hlt), Array.getElem_modify_self, h']
  rfl
theorem Rd.set2 (h : Rd w b s p c) (x : Int) : Rd (w.setCell ⟨b, 2, none⟩ (.int .i64 x)) b s p x := by
  have hlt := h.lt
  unfold Rd at h
  have h' : w.heap[b] = .cells #[.string s, .int .i64 p, .int .i64 c] 93 (0, 0) := by simpa [Array.getElem?_eq_getElem hlt] using h
  show (w.heap.modify b _)[b]? = _
  rw [Array.getElem?_eq_getElem (by simpa using hlt), Array.getElem_modify_self, h']
  rfl
theorem Rd.drew (h : Rd w b s p c) : Rd w.drew b s p c := h
theorem Rd.alloc (h : Rd w b s p c) (o : Obj) : Rd (w.alloc o) b s p c := (Below.heap_alloc w o b h.lt).trans h
theorem Rd.grown {row : Option Nat} (h : Rd w b s p c) (g : w.grownBy w' row) (hne : some b ≠ row) : Rd w' b s p c := (g.block b h.lt hne).trans h
theorem Rd.below {B : Nat} (h : Rd w b s p c) (g : Below B w w') (hB : b < B) : Rd w' b s p c := (g.block b hB).trans h
theorem Rd.new (w : World) (s : ByteArray) : Rd (w.alloc (.cells #[.string s, .int .i64 0, .int .i64 0] 93)) w.heap.size s 0 0 := by
  show (w.heap.push _)[w.heap.size]? = _
  simp
theorem Flt.newAt (w : World) (c p : Int) (n : Nat) (hn : n = w.heap.size) : Flt (w.alloc (.cells #[.int .i64 c, .int .i64 p] 53)) n c p := by
  subst hn
  show (w.heap.push _)[w.heap.size]? = _
  simp
theorem Flt.new (w : World) (c p : Int) : Flt (w.alloc (.cells #[.int .i64 c, .int .i64 p] 53)) w.heap.size c p := by
  show (w.heap.push _)[w.heap.size]? = _
  simp
end
section
variable {w w' w'' : World} {b : Nat} {c p : Int}
theorem Flt.c0 (h : Flt w b c p) : w.cell? ⟨b, 0, none⟩ = some (.int .i64 c) := by unfold Flt at h; simp [World.cell?, h]
theorem Flt.c1 (h : Flt w b c p) : w.cell? ⟨b, 1, none⟩ = some (.int .i64 p) := by unfold Flt at h; simp [World.cell?, h]
theorem Flt.lt (h : Flt w b c p) : b < w.heap.size := lt_of_block h
theorem Flt.below {B : Nat} (h : Flt w b c p) (g : Below B w w') (hB : b < B) : Flt w' b c p := (g.block b hB).trans h
theorem Flt.grown {row : Option Nat} (h : Flt w b c p) (g : w.grownBy w' row) (hne : some b ≠ row) : Flt w' b c p := (g.block b h.lt hne).trans h
end

theorem new_any (s : ByteArray) (w : World) : Calls Try.prog 27 #[.string s] w fun e w' => e = .returned (.pointer (some ⟨w.heap.size, 0, none⟩)) ∧ w' = w.alloc (.cells #[.string s, .int .i64 0, .int .i64 0] 93) := by
  go_enter Try.func27, Try.ntmps27
  go_wp2
  go_ret
  exact ⟨rfl, rfl⟩

theorem left_nil (w : World) :
    Calls Try.prog 55 #[.pointer none] w fun e w' => e = .returned (.int .i64 0) ∧ w = w' := by
  go_enter Try.func55, Try.ntmps55
  go_wp2
  go_ret
  exact ⟨rfl, rfl⟩

theorem left_any {w : World} {b : Nat} {s : ByteArray} {p : Nat} {c : Int} (h : Rd w b s p c) (hp : p ≤ s.size) (hs : s.size ≤ maxLen) :
    Calls Try.prog 55 #[.pointer (some ⟨b, 0, none⟩)] w fun e w' => e = .returned (.int .i64 ((s.size - p : Nat) : Int)) ∧ w' = w.drew := by
  have c0 := h.c0
  have c1 := h.c1
  unfold maxLen at hs
  have he : ((s.size - p : Nat) : Int) = (s.size : Int) - p := by omega
  rw [he]
  clear he
  go_enter Try.func55, Try.ntmps55
  go_wp2
  go_region
  go_wp2
  go_ret
  exact ⟨rfl, rfl⟩
end Go.Proofs.Ytdljjcnihajchaa
