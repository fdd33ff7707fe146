/-
  Proved here: a packet equals itself.
  Conditions: none.
-/
import Derived.Test.YtkihhmnlefekoaaFParse
import Derived.Laws.StructEq
namespace Go.Proofs.Ytkihhmnlefekoaa.P4
open Go.RowKit

theorem Try.heldIp : Try.prog.stoodInHeld 25 = false := by kernel_rfl
theorem Try.fieldsIp : Try.prog.underlying 25 = some (.struct (Try.prog.fieldsOf 25)) := by kernel_rfl
theorem quad_same (d : Nat) (x0 x1 x2 x3 : Int) (w : World) : (Op.equalIn (d + 1 + 1) 23 (.agg #[.int .u8 x0, .int .u8 x1, .int .u8 x2, .int .u8 x3]) (.agg #[.int .u8 x0, .int .u8 x1, .int .u8 x2, .int .u8 x3])).run Try.prog w = .ok true w := by
  have hi := fun x : Int => run_equalIn_int (P := Try.prog) w d 5 .u8 .u8 x x Try.underlying5
  have hz := Try.sizeByte
  have p0 : ∀ W, (part 5 #[.int .u8 x0, .int .u8 x1, .int .u8 x2, .int .u8 x3] 0).run Try.prog W = .ok (.int .u8 x0) W := fun _ => by kernel_rfl
  have p1 : ∀ W, (part 5 #[.int .u8 x0, .int .u8 x1, .int .u8 x2, .int .u8 x3] 1).run Try.prog W = .ok (.int .u8 x1) W := fun _ => by kernel_rfl
  have p2 : ∀ W, (part 5 #[.int .u8 x0, .int .u8 x1, .int .u8 x2, .int .u8 x3] 2).run Try.prog W = .ok (.int .u8 x2) W := fun _ => by kernel_rfl
  have p3 : ∀ W, (part 5 #[.int .u8 x0, .int .u8 x1, .int .u8 x2, .int .u8 x3] 3).run Try.prog W = .ok (.int .u8 x3) W := fun _ => by kernel_rfl
  rw [Op.equalIn]
  simp only [Sem.run_bind, run_underlying Try.underlying23, Result.andThen_ok, hz]
  simp [Std.Legacy.Range.forIn_eq_forIn_range', List.range', p0, p1, p2, p3, hi]
theorem eqlP (p : Pkt) (w : World) : (binOp .eql 25 (.agg p.vals.toArray) (.agg p.vals.toArray)).run Try.prog w = .ok (.bool true) w := by
  have q0 : ∀ W, (part 3 p.vals.toArray 0).run Try.prog W = .ok (.int .i64 p.tos) W := fun _ => by kernel_rfl
  have q1 : ∀ W, (part 3 p.vals.toArray 1).run Try.prog W = .ok (.int .i64 p.id) W := fun _ => by kernel_rfl
  have q2 : ∀ W, (part 3 p.vals.toArray 2).run Try.prog W = .ok (.int .i64 p.ttl) W := fun _ => by kernel_rfl
  have q3 : ∀ W, (part 3 p.vals.toArray 3).run Try.prog W = .ok (.int .i64 p.proto) W := fun _ => by kernel_rfl
  have q4 : ∀ W, (part 3 p.vals.toArray 4).run Try.prog W = .ok (.int .i64 p.pl) W := fun _ => by kernel_rfl
  have q5 : ∀ W, (part 4 p.vals.toArray 5).run Try.prog W = .ok (.bool p.df) W := fun _ => by kernel_rfl
  have q6 : ∀ W, (part 4 p.vals.toArray 6).run Try.prog W = .ok (.bool p.more) W := fun _ => by kernel_rfl
  have q7 : ∀ W, (part 23 p.vals.toArray 7).run Try.prog W = .ok (.agg #[.int .u8 p.a0, .int .u8 p.a1, .int .u8 p.a2, .int .u8 p.a3]) W := fun _ => by kernel_rfl
  have q8 : ∀ W, (part 23 p.vals.toArray 11).run Try.prog W = .ok (.agg #[.int .u8 p.b0, .int .u8 p.b1, .int .u8 p.b2, .int .u8 p.b3]) W := fun _ => by kernel_rfl
  have q9 : ∀ W, (part 9 p.vals.toArray 15).run Try.prog W = .ok (.string p.opts) W := fun _ => by kernel_rfl
  have q10 : ∀ W, (part 9 p.vals.toArray 16).run Try.prog W = .ok (.string p.data) W := fun _ => by kernel_rfl
  have hn := fun (x : Int) (W : World) => run_equalIn_int (P := Try.prog) W 9998 3 .i64 .i64 x x Try.underlying3
  have hb := fun (x : Bool) (W : World) => run_equalIn_bool' (P := Try.prog) W 9998 4 x x Try.underlying4
  have hs := fun (x : ByteArray) (W : World) => run_equalIn_string (P := Try.prog) W 9998 9 x x Try.underlying9
  have hq := fun (x0 x1 x2 x3 : Int) (W : World) => quad_same 9997 x0 x1 x2 x3 W
  rw [run_eql_struct, run_equalIn_struct w 9999 25 _ _ Try.fieldsIp Try.heldIp]
  simp only [Program.fieldsOf, Try.underlying25]
  simp [Op.eqFields, q0, q1, q2, q3, q4, q5, q6, q7, q8, q9, q10, hn, hb, hs, hq]
end Go.Proofs.Ytkihhmnlefekoaa.P4
