/-
  Proved here: builds; blocks that are kept.
  Conditions: as each fact says.
-/
import Derived.Test.YtnehabpdpkjaeaaDoorBlocks
import Derived.Great.Walk
import Derived.Laws.AppendOwn
import Derived.Laws.OwnMore
import Derived.OwnWalk
import Derived.Lib.Hide
import Derived.Laws.StructEq
namespace Go.Proofs.YtnehabpdpkjaeaaDoor
open Go.RowKit

theorem run_execN {P : Program} {op : Oper} {a : Act} {w : World} {v : Value} {T : TypeId} {l : Array (Nat × Operand)} {m : Array (Nat × Value)} (ho : op.op = .build T l) (hm : l.map (fun p => (p.1, a.eval p.2)) = m) (h : (Instr.build T m).run P w = .ok v w) : (execOp a.eval op).run P w = .ok (.value v) w := by
  unfold execOp
  simp only [ho, Sem.run_bind]
  rw [← hm] at h
  have e : (l.map fun x => match x with | (i, x) => (i, a.eval x)) = l.map (fun p => (p.1, a.eval p.2)) := rfl
  rw [e, h]
  rfl
theorem Kp.some1 {w0 w : World} {B b : Nat} {T : TypeId} {V : List Value} {l : List (Nat × TypeId × List Value)} (h : Kp w0 B ((b, T, V) :: l) w) (i : Nat) (hi : i < V.length) : ∃ u, w.cell? ⟨b, i, none⟩ = some u ∧ w.frozen? ⟨b, i, none⟩ = false :=
  ⟨V[i], h.hd.at (List.getElem?_eq_getElem hi), h.hd.z i⟩
theorem Kp.sets1 {w0 w : World} {B b : Nat} {T : TypeId} {V V' : List Value} {l : List (Nat × TypeId × List Value)} (h : Kp w0 B ((b, T, V) :: l) w) (hne : ∀ x ∈ l, x.1 ≠ b) (hB : B ≤ b) (o : Nat) (vs : List Value) (hq : puts V.toArray o vs = V'.toArray) : Kp w0 B ((b, T, V') :: l) (w.setCells b o vs) := by
  have ht := h.tl.sets hne hB o vs
  refine ⟨fun x hx => ?_, ht.2⟩
  rcases List.mem_cons.1 hx with rfl | hx
  · have := Bk.sets vs o _ _ h.hd
    rw [hq] at this
    exact this
  · exact ht.1 x hx
theorem ret_bool {a b : Bool} (h : a = b) : Ending.returned (.bool a) = .returned (.bool b) := by rw [h]
end Go.Proofs.YtnehabpdpkjaeaaDoor
