/-
  Proved here: how packets of IPv4 are built; what the document's Wants answers.
  Conditions: as each fact says.
-/
import Derived.Test.YtkihhmnlefekoaaHd64
import Derived.Test.YtkihhmnlefekoaaFParse
import Derived.Test.YtkihhmnlefekoaaFNumber
namespace Go.Proofs.Ytkihhmnlefekoaa
open Go.RowKit

theorem run_execN {P : Program} {op : Oper} {a : Act} {w : World} {v : Value} {T : TypeId} {l : Array (Nat × Operand)} {m : Array (Nat × Value)} (ho : op.op = .build T l) (hm : l.map (fun p => (p.1, a.eval p.2)) = m) (h : (Instr.build T m).run P w = .ok v w) : (execOp a.eval op).run P w = .ok (.value v) w := by
  unfold execOp
  simp only [ho, Sem.run_bind]
  rw [← hm] at h
  have e : (l.map fun x => match x with | (i, x) => (i, a.eval x)) = l.map (fun p => (p.1, a.eval p.2)) := rfl
  rw [e, h]
  rfl
theorem build4Z (w : World) : (Instr.build 25 #[]).run Try.prog w = .ok (.agg P4.pkt0.vals.toArray) w := by kernel_rfl
theorem Try.infoV4c (a b c d : Int) : (Try.prog.info? 23).map (·.size) = some ([.int .u8 a, .int .u8 b, .int .u8 c, .int .u8 d] : List Value).length := by kernel_rfl
theorem Kp.some1 {w0 w : World} {B b : Nat} {T : TypeId} {V : List Value} {l : List (Nat × TypeId × List Value)} (h : Kp w0 B ((b, T, V) :: l) w) (i : Nat) (hi : i < V.length) : ∃ u, w.cell? ⟨b, i, none⟩ = some u ∧ w.frozen? ⟨b, i, none⟩ = false :=
  ⟨V[i], h.hd.at (List.getElem?_eq_getElem hi), h.hd.z i⟩
theorem Kp.sets1 {w0 w : World} {B b : Nat} {T : TypeId} {V V' : List Value} {l : List (Nat × TypeId × List Value)} (h : Kp w0 B ((b, T, V) :: l) w) (hne : ∀ x ∈ l, x.1 ≠ b) (hB : B ≤ b) (o : Nat) (vs : List Value) (hq : puts V.toArray o vs = V'.toArray) : Kp w0 B ((b, T, V') :: l) (w.setCells b o vs) := by
  have ht := h.tl.sets hne hB o vs
  refine ⟨fun x hx => ?_, ht.2⟩
  rcases List.mem_cons.1 hx with rfl | hx
  · have := Bk.sets vs o _ _ h.hd
    rw [hq] at this
    exact this
  · exact ht.1 x hx
set_option maxRecDepth 100000 in
set_option maxHeartbeats 4000000 in
theorem rwants_frag (p : Pk6) (v : Value) (w : World) (hf : p.frag = true) :
    Calls Try.prog 18 #[.agg (p.vals v).toArray] w fun e w' => e = .returned (.bool false) ∧ Below w.heap.size w w' := by
  have HC_VP_0 : Hid ((p.vals v)[0]? = some (.int .i64 p.cls)) := Lib.hid (rfl)
  have HC_VP_2 : Hid ((p.vals v)[2]? = some (.int .i64 p.hop)) := Lib.hid (rfl)
  have HC_VP_35 : Hid ((p.vals v)[35]? = some (v)) := Lib.hid (vals_tail p v 0)
  have HC_VP_36 : Hid ((p.vals v)[36]? = some (.bool true)) := Lib.hid (by rw [← hf]; exact vals_tail p v 1)
  have HC_VP_37 : Hid ((p.vals v)[37]? = some (.int .u32 p.id)) := Lib.hid (vals_tail p v 2)
  have HC_VP_38 : Hid ((p.vals v)[38]? = some (.int .i64 p.pl)) := Lib.hid (vals_tail p v 3)
  have HC_VP_39 : Hid ((p.vals v)[39]? = some (.bool p.more)) := Lib.hid (vals_tail p v 4)
  have HC_VP_40 : Hid ((p.vals v)[40]? = some (.int .i64 p.proto)) := Lib.hid (vals_tail p v 5)
  have HC_VP_41 : Hid ((p.vals v)[41]? = some (.string p.data)) := Lib.hid (vals_tail p v 6)
  have HK1 : Hid (Kp w w.heap.size [(w.heap.size, 35, p.vals v)] (w.alloc (.cells (p.vals v).toArray 35))) := Lib.hid ((Kp.start w).new 35 (p.vals v))
  clear hf
  generalize p.vals v = VP at *
  generalize hw1 : w.alloc (.cells VP.toArray 35) = w1 at *
  go_enter Try.func18, Try.ntmps18
  go_upto_region 1 with (fail)
  clear hw1
  have c36 := HK1.out.hd.at HC_VP_36.out
  go_wp2_with fail
  go_ret
  exact ⟨rfl, HK1.out.2.1⟩
set_option maxRecDepth 100000 in
set_option maxHeartbeats 4000000 in
theorem rwants_small (p : Pk6) (v : Value) (w : World) (hf : p.frag = false) (hz : (p.data.size : Int) ≤ 1240) :
    Calls Try.prog 18 #[.agg (p.vals v).toArray] w fun e w' => e = .returned (.bool true) ∧ Below w.heap.size w w' := by
  have HC_VP_0 : Hid ((p.vals v)[0]? = some (.int .i64 p.cls)) := Lib.hid (rfl)
  have HC_VP_2 : Hid ((p.vals v)[2]? = some (.int .i64 p.hop)) := Lib.hid (rfl)
  have HC_VP_35 : Hid ((p.vals v)[35]? = some (v)) := Lib.hid (vals_tail p v 0)
  have HC_VP_36 : Hid ((p.vals v)[36]? = some (.bool false)) := Lib.hid (by rw [← hf]; exact vals_tail p v 1)
  have HC_VP_37 : Hid ((p.vals v)[37]? = some (.int .u32 p.id)) := Lib.hid (vals_tail p v 2)
  have HC_VP_38 : Hid ((p.vals v)[38]? = some (.int .i64 p.pl)) := Lib.hid (vals_tail p v 3)
  have HC_VP_39 : Hid ((p.vals v)[39]? = some (.bool p.more)) := Lib.hid (vals_tail p v 4)
  have HC_VP_40 : Hid ((p.vals v)[40]? = some (.int .i64 p.proto)) := Lib.hid (vals_tail p v 5)
  have HC_VP_41 : Hid ((p.vals v)[41]? = some (.string p.data)) := Lib.hid (vals_tail p v 6)
  have HK1 : Hid (Kp w w.heap.size [(w.heap.size, 35, p.vals v)] (w.alloc (.cells (p.vals v).toArray 35))) := Lib.hid ((Kp.start w).new 35 (p.vals v))
  clear hf
  generalize p.vals v = VP at *
  generalize hw1 : w.alloc (.cells VP.toArray 35) = w1 at *
  go_enter Try.func18, Try.ntmps18
  go_upto_region 1 with (fail)
  clear hw1
  have c36 := HK1.out.hd.at HC_VP_36.out
  have c41 := HK1.out.hd.at HC_VP_41.out
  go_wp2_with fail
  go_ret
  exact ⟨rfl, HK1.out.2.1⟩
set_option maxRecDepth 100000 in
set_option maxHeartbeats 4000000 in
theorem rwants_big (p : Pk6) (v : Value) (w : World) (hf : p.frag = false) (hz : ¬ (p.data.size : Int) ≤ 1240) :
    Calls Try.prog 18 #[.agg (p.vals v).toArray] w fun e w' => e = .returned (.bool false) ∧ Below w.heap.size w w' := by
  have HC_VP_0 : Hid ((p.vals v)[0]? = some (.int .i64 p.cls)) := Lib.hid (rfl)
  have HC_VP_2 : Hid ((p.vals v)[2]? = some (.int .i64 p.hop)) := Lib.hid (rfl)
  have HC_VP_35 : Hid ((p.vals v)[35]? = some (v)) := Lib.hid (vals_tail p v 0)
  have HC_VP_36 : Hid ((p.vals v)[36]? = some (.bool false)) := Lib.hid (by rw [← hf]; exact vals_tail p v 1)
  have HC_VP_37 : Hid ((p.vals v)[37]? = some (.int .u32 p.id)) := Lib.hid (vals_tail p v 2)
  have HC_VP_38 : Hid ((p.vals v)[38]? = some (.int .i64 p.pl)) := Lib.hid (vals_tail p v 3)
  have HC_VP_39 : Hid ((p.vals v)[39]? = some (.bool p.more)) := Lib.hid (vals_tail p v 4)
  have HC_VP_40 : Hid ((p.vals v)[40]? = some (.int .i64 p.proto)) := Lib.hid (vals_tail p v 5)
  have HC_VP_41 : Hid ((p.vals v)[41]? = some (.string p.data)) := Lib.hid (vals_tail p v 6)
  have HK1 : Hid (Kp w w.heap.size [(w.heap.size, 35, p.vals v)] (w.alloc (.cells (p.vals v).toArray 35))) := Lib.hid ((Kp.start w).new 35 (p.vals v))
  clear hf
  generalize p.vals v = VP at *
  generalize hw1 : w.alloc (.cells VP.toArray 35) = w1 at *
  go_enter Try.func18, Try.ntmps18
  go_upto_region 1 with (fail)
  clear hw1
  have c36 := HK1.out.hd.at HC_VP_36.out
  have c41 := HK1.out.hd.at HC_VP_41.out
  go_wp2_with fail
  go_ret
  exact ⟨rfl, HK1.out.2.1⟩
end Go.Proofs.Ytkihhmnlefekoaa
