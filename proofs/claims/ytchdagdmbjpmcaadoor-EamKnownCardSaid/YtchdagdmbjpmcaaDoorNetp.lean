/-
  Proved here: how a prefix is built.
  Conditions: a text that the library's cut takes; the library's MaxLen holds some number.
-/
import Derived.Test.YtchdagdmbjpmcaaDoorPnn
import Derived.Test.YtchdagdmbjpmcaaDoorMarts
namespace Go.Proofs.YtchdagdmbjpmcaaDoor
open Go.RowKit

theorem run_execN {P : Program} {op : Oper} {a : Act} {w : World} {v : Value} {T : TypeId} {l : Array (Nat × Operand)} {m : Array (Nat × Value)} (ho : op.op = .build T l) (hm : l.map (fun p => (p.1, a.eval p.2)) = m) (h : (Instr.build T m).run P w = .ok v w) : (execOp a.eval op).run P w = .ok (.value v) w := by
  unfold execOp
  simp only [ho, Sem.run_bind]
  rw [← hm] at h
  have e : (l.map fun x => match x with | (i, x) => (i, a.eval x)) = l.map (fun p => (p.1, a.eval p.2)) := rfl
  rw [e, h]
  rfl
theorem Tryd.bN6 (a0 a1 a2 a3 a4 a5 a6 a7 a8 a9 aa ab ac ad ae af n : Int) (W : World) : (Instr.build 106 #[(0, .agg #[.int .u8 a0, .int .u8 a1, .int .u8 a2, .int .u8 a3, .int .u8 a4, .int .u8 a5, .int .u8 a6, .int .u8 a7, .int .u8 a8, .int .u8 a9, .int .u8 aa, .int .u8 ab, .int .u8 ac, .int .u8 ad, .int .u8 ae, .int .u8 af]), (1, .int .i64 n)]).run Tryd.prog W = .ok (.agg #[.int .u8 a0, .int .u8 a1, .int .u8 a2, .int .u8 a3, .int .u8 a4, .int .u8 a5, .int .u8 a6, .int .u8 a7, .int .u8 a8, .int .u8 a9, .int .u8 aa, .int .u8 ab, .int .u8 ac, .int .u8 ad, .int .u8 ae, .int .u8 af, .int .i64 n]) W := by kernel_rfl
theorem bN6v (p : Nn) (h : p.ad.length = 16) (W : World) : (Instr.build 106 #[(0, .agg (bu p.ad).toArray), (1, .int .i64 p.ln)]).run Tryd.prog W = .ok (.agg p.vals.toArray) W := by
  obtain ⟨l, n⟩ := p
  match l, h with
  | [a, b, c, d, e, f, g, i, j, k, m, o, q, r, s, t], _ => exact Tryd.bN6 _ _ _ _ _ _ _ _ _ _ _ _ _ _ _ _ _ W
theorem Tryd.execZN6 (ρ : Operand → Value) (d : Option Tmp) (ty : TypeId) (ps : String) (af : Array Edge) (gd : Option (Nat × Bool)) (w : World) : (execOp ρ { dst := d, op := .build 106 #[], type := ty, pos := ps, after := af, guard := gd }).run Tryd.prog w = .ok (.value (.agg zeroN6.vals.toArray)) w := by kernel_rfl
end Go.Proofs.YtchdagdmbjpmcaaDoor
