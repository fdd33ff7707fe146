/-
  Proved here: how a packet's block is kept while others are made and written; what ip4.Bytes answers of any packet.
  Conditions: texts of at most 70000 bytes.
-/
import Derived.Test.YtjfkfeobmcnonaaAwake
namespace Go.Proofs.Ytjfkfeobmcnonaa
open Go.RowKit

section
variable {w0 w w' : World} {B b c : Nat} {V : List Value}
theorem QB.new (w : World) (V : List Value) : QB w w.heap.size w.heap.size V (w.alloc (.cells V.toArray 29)) := ⟨bk_new _ _ _, (Below.refl _ _).alloc (Nat.le_refl _) _, by simp⟩
theorem QB.alloc (h : QB w0 B b V w) (o : Obj) : QB w0 B b V (w.alloc o) := ⟨h.1.alloc o, h.2.1.alloc h.2.2 o, by have := h.2.2; simp; omega⟩
theorem QB.drew (h : QB w0 B b V w) : QB w0 B b V w.drew := ⟨h.1, h.2.1.drew, h.2.2⟩
theorem QB.sets (h : QB w0 B b V w) (hne : b ≠ c) (hB : B ≤ c) (o : Nat) (vs : List Value) : QB w0 B b V (w.setCells c o vs) := ⟨h.1.sets_other hne o vs, below_sets vs hB o _ h.2.1, by rw [size_sets]; exact h.2.2⟩
theorem QB.set (h : QB w0 B b V w) (hne : b ≠ c) (hB : B ≤ c) (o : Nat) (v : Value) : QB w0 B b V (w.setCell ⟨c, o, none⟩ v) := ⟨h.1.set_other hne o v, h.2.1.setCell (by exact hB) v, by simpa [World.setCell] using h.2.2⟩
theorem QB.at (h : QB w0 B b V w) {i : Nat} {v : Value} (hv : V[i]? = some v) : w.cell? ⟨b, i, none⟩ = some v := h.1.c i v (by simpa using hv)
theorem Bk.at {T : TypeId} (h : Bk w b T V.toArray) {i : Nat} {v : Value} (hv : V[i]? = some v) : w.cell? ⟨b, i, none⟩ = some v := h.c i v (by simpa using hv)
end
/-- Some text and something beside it. -/
def SomeTwo (w : World) (e : Ending) (w' : World) : Prop := ∃ s x, e = .returned (.tuple #[.string s, x]) ∧ Below w.heap.size w w'
theorem bytes_out (p : Pkt) (w : World) (hd : p.data.size ≤ 70000) : Calls Try.prog 13 #[.agg p.vals.toArray] w (SomeTwo w) := by
  by_cases h : p.why = 0
  · exact (bytes_ok p w h).mono fun _ _ ⟨h1, h2⟩ => ⟨_, _, h1, h2⟩
  · exact (bytes_bad p w hd (bne_iff_ne.2 h)).mono fun _ _ ⟨_, h1, _, _, h2⟩ => ⟨_, _, h1, h2⟩
/-- An operation that yields a value, whether it is guarded or not. -/
theorem wpList_exec_if {P : Program} {ops : Array Oper} {rest : List Oper} {op : Oper} {a : Act} {w : World} {Q : Exit → Act → World → Prop} (hw : Region.wanted op (yielded ops a.tmps) = true) (v : Value)
    (hrun : (execOp a.eval op).run P w = .ok (.value v) w) (h : wpList P ops Q rest (a.put op.dst v) w) : wpList P ops Q (op :: rest) a w :=
  wpList_step fun K hK => by
    rw [if_pos hw]
    unfold Oper.wp
    rw [hrun]
    exact hK _ _ h
theorem Try.execZg (ρ : Operand → Value) (d : Option Tmp) (ty : TypeId) (ps : String) (af : Array Edge) (gd : Option (Nat × Bool)) (w : World) : (execOp ρ { dst := d, op := .build 29 #[], type := ty, pos := ps, after := af, guard := gd }).run Try.prog w = .ok (.value (.agg pkt0.vals.toArray)) w := by kernel_rfl
end Go.Proofs.Ytjfkfeobmcnonaa
