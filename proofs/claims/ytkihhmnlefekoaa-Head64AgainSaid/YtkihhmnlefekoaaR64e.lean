/-
  Proved here: what the document's Head of layer 13 answers of what goes over (big).
  Conditions: the slice reads as the packet's extensions.
-/
import Derived.Test.YtkihhmnlefekoaaRx
namespace Go.Proofs.Ytkihhmnlefekoaa
open Go.RowKit

set_option maxRecDepth 100000 in
set_option maxHeartbeats 4000000 in
theorem rhead64_big (p : Pk6) (v : Value) (f0 f1 f2 f3 t0 t1 t2 t3 id : Int) (w : World) (n0 : ¬ (p.hop < 2)) (n1 : ¬ (255 < p.hop)) (n2 : ¬ (p.cls < 0)) (n3 : ¬ (255 < p.cls)) (n4 : ¬ (id < 0)) (n5 : ¬ (65535 < id)) (hx : Exs w v p.exts) (hl : p.exts.length ≤ 1099511627776) (hp : prOk64 p.proto = true) (hr : rtd p.exts = false) (hpl : 0 ≤ p.pl) (hd : p.data.size ≤ 70000) (n6 : ¬ 65535 < p.pl) (n7 : ¬ 65535 < p.pl + 20 + (p.data.size : Int)) (hf : p.frag = false) (hz : ¬ (p.data.size : Int) ≤ 1240) :
    Calls Try.prog 15 #[.agg (p.vals v).toArray, .agg ([.int .u8 f0, .int .u8 f1, .int .u8 f2, .int .u8 f3] : List Value).toArray, .agg ([.int .u8 t0, .int .u8 t1, .int .u8 t2, .int .u8 t3] : List Value).toArray, .int .i64 id] w (fun e w' => e = .returned (.tuple #[.agg (((⟨p.cls, 0, (p.hop - 1), pr64 p.proto, 0, true, false, f0, f1, f2, f3, t0, t1, t2, t3, ⟨#[]⟩, p.data⟩ : P4.Pkt).vals)).toArray, .int .i64 0]) ∧ Below w.heap.size w w') := by
  have HP : Hid (∀ W, Calls Try.prog 17 #[.int .i64 p.proto] W fun e w' => e = .returned (.tuple #[.int .i64 (pr64 p.proto), .bool true]) ∧ W = w') := Lib.hid (fun W => by rw [← hp]; exact rproto64_any p.proto W)
  clear hp
  have HR : Hid (∀ W, Below w.heap.size w W → Calls Try.prog 34 #[v] W fun e w' => e = .returned (.bool false) ∧ W = w') := Lib.hid (fun W hW => by rw [← hr]; exact rrouted_any v p.exts W (hx.below hW (Nat.le_refl _)) hl)
  clear hx hl hr
  have HWn : Hid (∀ W, Calls Try.prog 18 #[.agg (p.vals v).toArray] W fun e w' => e = .returned (.bool false) ∧ Below W.heap.size W w') := Lib.hid (fun W => rwants_big p v W hf hz)
  have HF := Lib.hid hf
  clear hf hz
  generalize pr64 p.proto = pr at *
  have HI_Q1 : Hid ((Try.prog.info? 25).map (·.size) = some (((⟨p.cls, 0, 0, 0, 0, false, false, 0, 0, 0, 0, 0, 0, 0, 0, ⟨#[]⟩, ⟨#[]⟩⟩ : P4.Pkt).vals)).length) := Lib.hid (P4.Try.infoIp _)
  have HO_Q1 : Hid ((((⟨p.cls, 0, 0, 0, 0, false, false, 0, 0, 0, 0, 0, 0, 0, 0, ⟨#[]⟩, ⟨#[]⟩⟩ : P4.Pkt).vals)).toArray.all (·.oneCell') = true) := Lib.hid (P4.vals_one _)
  have HL_Q1 : Hid ((((⟨p.cls, 0, 0, 0, 0, false, false, 0, 0, 0, 0, 0, 0, 0, 0, ⟨#[]⟩, ⟨#[]⟩⟩ : P4.Pkt).vals)).length = 17) := Lib.hid rfl
  have HE1 : Hid (((⟨0, 0, 0, 0, 0, false, false, 0, 0, 0, 0, 0, 0, 0, 0, ⟨#[]⟩, ⟨#[]⟩⟩ : P4.Pkt).vals).set 0 (.int .i64 p.cls) = ((⟨p.cls, 0, 0, 0, 0, false, false, 0, 0, 0, 0, 0, 0, 0, 0, ⟨#[]⟩, ⟨#[]⟩⟩ : P4.Pkt).vals)) := Lib.hid rfl
  have HI_Q2 : Hid ((Try.prog.info? 25).map (·.size) = some (((⟨p.cls, 0, (p.hop - 1), 0, 0, false, false, 0, 0, 0, 0, 0, 0, 0, 0, ⟨#[]⟩, ⟨#[]⟩⟩ : P4.Pkt).vals)).length) := Lib.hid (P4.Try.infoIp _)
  have HO_Q2 : Hid ((((⟨p.cls, 0, (p.hop - 1), 0, 0, false, false, 0, 0, 0, 0, 0, 0, 0, 0, ⟨#[]⟩, ⟨#[]⟩⟩ : P4.Pkt).vals)).toArray.all (·.oneCell') = true) := Lib.hid (P4.vals_one _)
  have HL_Q2 : Hid ((((⟨p.cls, 0, (p.hop - 1), 0, 0, false, false, 0, 0, 0, 0, 0, 0, 0, 0, ⟨#[]⟩, ⟨#[]⟩⟩ : P4.Pkt).vals)).length = 17) := Lib.hid rfl
  have HE2 : Hid (((⟨p.cls, 0, 0, 0, 0, false, false, 0, 0, 0, 0, 0, 0, 0, 0, ⟨#[]⟩, ⟨#[]⟩⟩ : P4.Pkt).vals).set 2 (.int .i64 (p.hop - 1)) = ((⟨p.cls, 0, (p.hop - 1), 0, 0, false, false, 0, 0, 0, 0, 0, 0, 0, 0, ⟨#[]⟩, ⟨#[]⟩⟩ : P4.Pkt).vals)) := Lib.hid rfl
  have HI_Q3 : Hid ((Try.prog.info? 25).map (·.size) = some (((⟨p.cls, 0, (p.hop - 1), pr, 0, false, false, 0, 0, 0, 0, 0, 0, 0, 0, ⟨#[]⟩, ⟨#[]⟩⟩ : P4.Pkt).vals)).length) := Lib.hid (P4.Try.infoIp _)
  have HO_Q3 : Hid ((((⟨p.cls, 0, (p.hop - 1), pr, 0, false, false, 0, 0, 0, 0, 0, 0, 0, 0, ⟨#[]⟩, ⟨#[]⟩⟩ : P4.Pkt).vals)).toArray.all (·.oneCell') = true) := Lib.hid (P4.vals_one _)
  have HL_Q3 : Hid ((((⟨p.cls, 0, (p.hop - 1), pr, 0, false, false, 0, 0, 0, 0, 0, 0, 0, 0, ⟨#[]⟩, ⟨#[]⟩⟩ : P4.Pkt).vals)).length = 17) := Lib.hid rfl
  have HE3 : Hid (((⟨p.cls, 0, (p.hop - 1), 0, 0, false, false, 0, 0, 0, 0, 0, 0, 0, 0, ⟨#[]⟩, ⟨#[]⟩⟩ : P4.Pkt).vals).set 3 (.int .i64 pr) = ((⟨p.cls, 0, (p.hop - 1), pr, 0, false, false, 0, 0, 0, 0, 0, 0, 0, 0, ⟨#[]⟩, ⟨#[]⟩⟩ : P4.Pkt).vals)) := Lib.hid rfl
  have HI_Q4 : Hid ((Try.prog.info? 25).map (·.size) = some (((⟨p.cls, 0, (p.hop - 1), pr, 0, false, false, f0, f1, f2, f3, 0, 0, 0, 0, ⟨#[]⟩, ⟨#[]⟩⟩ : P4.Pkt).vals)).length) := Lib.hid (P4.Try.infoIp _)
  have HO_Q4 : Hid ((((⟨p.cls, 0, (p.hop - 1), pr, 0, false, false, f0, f1, f2, f3, 0, 0, 0, 0, ⟨#[]⟩, ⟨#[]⟩⟩ : P4.Pkt).vals)).toArray.all (·.oneCell') = true) := Lib.hid (P4.vals_one _)
  have HL_Q4 : Hid ((((⟨p.cls, 0, (p.hop - 1), pr, 0, false, false, f0, f1, f2, f3, 0, 0, 0, 0, ⟨#[]⟩, ⟨#[]⟩⟩ : P4.Pkt).vals)).length = 17) := Lib.hid rfl
  have HE4 : Hid (puts ((⟨p.cls, 0, (p.hop - 1), pr, 0, false, false, 0, 0, 0, 0, 0, 0, 0, 0, ⟨#[]⟩, ⟨#[]⟩⟩ : P4.Pkt).vals).toArray 7 ([.int .u8 f0, .int .u8 f1, .int .u8 f2, .int .u8 f3] : List Value) = ((⟨p.cls, 0, (p.hop - 1), pr, 0, false, false, f0, f1, f2, f3, 0, 0, 0, 0, ⟨#[]⟩, ⟨#[]⟩⟩ : P4.Pkt).vals).toArray) := Lib.hid rfl
  have HI_Q5 : Hid ((Try.prog.info? 25).map (·.size) = some (((⟨p.cls, 0, (p.hop - 1), pr, 0, false, false, f0, f1, f2, f3, t0, t1, t2, t3, ⟨#[]⟩, ⟨#[]⟩⟩ : P4.Pkt).vals)).length) := Lib.hid (P4.Try.infoIp _)
  have HO_Q5 : Hid ((((⟨p.cls, 0, (p.hop - 1), pr, 0, false, false, f0, f1, f2, f3, t0, t1, t2, t3, ⟨#[]⟩, ⟨#[]⟩⟩ : P4.Pkt).vals)).toArray.all (·.oneCell') = true) := Lib.hid (P4.vals_one _)
  have HL_Q5 : Hid ((((⟨p.cls, 0, (p.hop - 1), pr, 0, false, false, f0, f1, f2, f3, t0, t1, t2, t3, ⟨#[]⟩, ⟨#[]⟩⟩ : P4.Pkt).vals)).length = 17) := Lib.hid rfl
  have HE5 : Hid (puts ((⟨p.cls, 0, (p.hop - 1), pr, 0, false, false, f0, f1, f2, f3, 0, 0, 0, 0, ⟨#[]⟩, ⟨#[]⟩⟩ : P4.Pkt).vals).toArray 11 ([.int .u8 t0, .int .u8 t1, .int .u8 t2, .int .u8 t3] : List Value) = ((⟨p.cls, 0, (p.hop - 1), pr, 0, false, false, f0, f1, f2, f3, t0, t1, t2, t3, ⟨#[]⟩, ⟨#[]⟩⟩ : P4.Pkt).vals).toArray) := Lib.hid rfl
  have HI_Q6 : Hid ((Try.prog.info? 25).map (·.size) = some (((⟨p.cls, 0, (p.hop - 1), pr, 0, false, false, f0, f1, f2, f3, t0, t1, t2, t3, ⟨#[]⟩, p.data⟩ : P4.Pkt).vals)).length) := Lib.hid (P4.Try.infoIp _)
  have HO_Q6 : Hid ((((⟨p.cls, 0, (p.hop - 1), pr, 0, false, false, f0, f1, f2, f3, t0, t1, t2, t3, ⟨#[]⟩, p.data⟩ : P4.Pkt).vals)).toArray.all (·.oneCell') = true) := Lib.hid (P4.vals_one _)
  have HL_Q6 : Hid ((((⟨p.cls, 0, (p.hop - 1), pr, 0, false, false, f0, f1, f2, f3, t0, t1, t2, t3, ⟨#[]⟩, p.data⟩ : P4.Pkt).vals)).length = 17) := Lib.hid rfl
  have HE6 : Hid (((⟨p.cls, 0, (p.hop - 1), pr, 0, false, false, f0, f1, f2, f3, t0, t1, t2, t3, ⟨#[]⟩, ⟨#[]⟩⟩ : P4.Pkt).vals).set 16 (.string p.data) = ((⟨p.cls, 0, (p.hop - 1), pr, 0, false, false, f0, f1, f2, f3, t0, t1, t2, t3, ⟨#[]⟩, p.data⟩ : P4.Pkt).vals)) := Lib.hid rfl
  have HI_Q7 : Hid ((Try.prog.info? 25).map (·.size) = some (((⟨p.cls, 0, (p.hop - 1), pr, 0, true, false, f0, f1, f2, f3, t0, t1, t2, t3, ⟨#[]⟩, p.data⟩ : P4.Pkt).vals)).length) := Lib.hid (P4.Try.infoIp _)
  have HO_Q7 : Hid ((((⟨p.cls, 0, (p.hop - 1), pr, 0, true, false, f0, f1, f2, f3, t0, t1, t2, t3, ⟨#[]⟩, p.data⟩ : P4.Pkt).vals)).toArray.all (·.oneCell') = true) := Lib.hid (P4.vals_one _)
  have HL_Q7 : Hid ((((⟨p.cls, 0, (p.hop - 1), pr, 0, true, false, f0, f1, f2, f3, t0, t1, t2, t3, ⟨#[]⟩, p.data⟩ : P4.Pkt).vals)).length = 17) := Lib.hid rfl
  have HE7 : Hid (((⟨p.cls, 0, (p.hop - 1), pr, 0, false, false, f0, f1, f2, f3, t0, t1, t2, t3, ⟨#[]⟩, p.data⟩ : P4.Pkt).vals).set 5 (.bool true) = ((⟨p.cls, 0, (p.hop - 1), pr, 0, true, false, f0, f1, f2, f3, t0, t1, t2, t3, ⟨#[]⟩, p.data⟩ : P4.Pkt).vals)) := Lib.hid rfl
  obtain ⟨Z9, hZ9⟩ : ∃ Z, Z = ((⟨0, 0, 0, 0, 0, false, false, 0, 0, 0, 0, 0, 0, 0, 0, ⟨#[]⟩, ⟨#[]⟩⟩ : P4.Pkt).vals) := ⟨_, rfl⟩
  rw [← hZ9] at HE1
  generalize ((⟨p.cls, 0, 0, 0, 0, false, false, 0, 0, 0, 0, 0, 0, 0, 0, ⟨#[]⟩, ⟨#[]⟩⟩ : P4.Pkt).vals) = Q1 at *
  generalize ((⟨p.cls, 0, (p.hop - 1), 0, 0, false, false, 0, 0, 0, 0, 0, 0, 0, 0, ⟨#[]⟩, ⟨#[]⟩⟩ : P4.Pkt).vals) = Q2 at *
  generalize ((⟨p.cls, 0, (p.hop - 1), pr, 0, false, false, 0, 0, 0, 0, 0, 0, 0, 0, ⟨#[]⟩, ⟨#[]⟩⟩ : P4.Pkt).vals) = Q3 at *
  generalize ((⟨p.cls, 0, (p.hop - 1), pr, 0, false, false, f0, f1, f2, f3, 0, 0, 0, 0, ⟨#[]⟩, ⟨#[]⟩⟩ : P4.Pkt).vals) = Q4 at *
  generalize ((⟨p.cls, 0, (p.hop - 1), pr, 0, false, false, f0, f1, f2, f3, t0, t1, t2, t3, ⟨#[]⟩, ⟨#[]⟩⟩ : P4.Pkt).vals) = Q5 at *
  generalize ((⟨p.cls, 0, (p.hop - 1), pr, 0, false, false, f0, f1, f2, f3, t0, t1, t2, t3, ⟨#[]⟩, p.data⟩ : P4.Pkt).vals) = Q6 at *
  generalize ((⟨p.cls, 0, (p.hop - 1), pr, 0, true, false, f0, f1, f2, f3, t0, t1, t2, t3, ⟨#[]⟩, p.data⟩ : P4.Pkt).vals) = Q7 at *
  obtain ⟨Z, hZ⟩ : ∃ Z, Z = P4.pkt0.vals := ⟨_, rfl⟩
  have HBZ : Hid (∀ W, (Instr.build 25 #[]).run Try.prog W = .ok (.agg Z.toArray) W) := Lib.hid (fun W => by rw [hZ]; exact build4Z W)
  have HI_Z : Hid ((Try.prog.info? 25).map (·.size) = some Z.length) := Lib.hid (by rw [hZ]; exact P4.Try.infoIp _)
  have HO_Z : Hid (Z.toArray.all (·.oneCell') = true) := Lib.hid (by rw [hZ]; exact P4.vals_one _)
  have HL_Z : Hid (Z.length = 17) := Lib.hid (by rw [hZ]; rfl)
  have hz0 : Z.toArray = #[.int .i64 0, .int .i64 0, .int .i64 0, .int .i64 0, .int .i64 0, .bool false, .bool false, .int .u8 0, .int .u8 0, .int .u8 0, .int .u8 0, .int .u8 0, .int .u8 0, .int .u8 0, .int .u8 0, .string ⟨#[]⟩, .string ⟨#[]⟩] := by rw [hZ]; rfl
  have HZ := Lib.hid hZ
  clear hZ
  have HI_VP : Hid ((Try.prog.info? 35).map (·.size) = some (p.vals v).length) := Lib.hid (Try.info6 _ _)
  have HC_VP_0 : Hid ((p.vals v)[0]? = some (.int .i64 p.cls)) := Lib.hid (rfl)
  have HC_VP_2 : Hid ((p.vals v)[2]? = some (.int .i64 p.hop)) := Lib.hid (rfl)
  have HC_VP_35 : Hid ((p.vals v)[35]? = some (v)) := Lib.hid (vals_tail p v 0)
  have HC_VP_36 : Hid ((p.vals v)[36]? = some (.bool p.frag)) := Lib.hid (vals_tail p v 1)
  have HC_VP_37 : Hid ((p.vals v)[37]? = some (.int .u32 p.id)) := Lib.hid (vals_tail p v 2)
  have HC_VP_38 : Hid ((p.vals v)[38]? = some (.int .i64 p.pl)) := Lib.hid (vals_tail p v 3)
  have HC_VP_39 : Hid ((p.vals v)[39]? = some (.bool p.more)) := Lib.hid (vals_tail p v 4)
  have HC_VP_40 : Hid ((p.vals v)[40]? = some (.int .i64 p.proto)) := Lib.hid (vals_tail p v 5)
  have HC_VP_41 : Hid ((p.vals v)[41]? = some (.string p.data)) := Lib.hid (vals_tail p v 6)
  have HI_VF : Hid ((Try.prog.info? 23).map (·.size) = some (([.int .u8 f0, .int .u8 f1, .int .u8 f2, .int .u8 f3] : List Value)).length) := Lib.hid (Try.infoV4c _ _ _ _)
  have HO_VF : Hid ((([.int .u8 f0, .int .u8 f1, .int .u8 f2, .int .u8 f3] : List Value)).toArray.all (·.oneCell') = true) := Lib.hid (by simp [Value.oneCell'])
  have HL_VF : Hid ((([.int .u8 f0, .int .u8 f1, .int .u8 f2, .int .u8 f3] : List Value)).length = 4) := Lib.hid rfl
  have HI_VT : Hid ((Try.prog.info? 23).map (·.size) = some (([.int .u8 t0, .int .u8 t1, .int .u8 t2, .int .u8 t3] : List Value)).length) := Lib.hid (Try.infoV4c _ _ _ _)
  have HO_VT : Hid ((([.int .u8 t0, .int .u8 t1, .int .u8 t2, .int .u8 t3] : List Value)).toArray.all (·.oneCell') = true) := Lib.hid (by simp [Value.oneCell'])
  have HL_VT : Hid ((([.int .u8 t0, .int .u8 t1, .int .u8 t2, .int .u8 t3] : List Value)).length = 4) := Lib.hid rfl
  have HK1 : Hid (Kp w w.heap.size [(w.heap.size + 1 + 1 + 1, 25, Z), (w.heap.size + 1 + 1, 23, ([.int .u8 t0, .int .u8 t1, .int .u8 t2, .int .u8 t3] : List Value)), (w.heap.size + 1, 23, ([.int .u8 f0, .int .u8 f1, .int .u8 f2, .int .u8 f3] : List Value)), (w.heap.size, 35, p.vals v)] ((((w.alloc (.cells (p.vals v).toArray 35)).alloc (.cells ([.int .u8 f0, .int .u8 f1, .int .u8 f2, .int .u8 f3] : List Value).toArray 23)).alloc (.cells ([.int .u8 t0, .int .u8 t1, .int .u8 t2, .int .u8 t3] : List Value).toArray 23)).alloc (.cells Z.toArray 25))) := Lib.hid (by
    have h := (((Kp.start w).new 35 (p.vals v)).new 23 ([.int .u8 f0, .int .u8 f1, .int .u8 f2, .int .u8 f3] : List Value)).new 23 ([.int .u8 t0, .int .u8 t1, .int .u8 t2, .int .u8 t3] : List Value)
    have e1 : (w.alloc (.cells (p.vals v).toArray 35)).heap.size = w.heap.size + 1 := by simp
    have e2 : ((w.alloc (.cells (p.vals v).toArray 35)).alloc (.cells ([.int .u8 f0, .int .u8 f1, .int .u8 f2, .int .u8 f3] : List Value).toArray 23)).heap.size = w.heap.size + 1 + 1 := by simp
    have e3 : (((w.alloc (.cells (p.vals v).toArray 35)).alloc (.cells ([.int .u8 f0, .int .u8 f1, .int .u8 f2, .int .u8 f3] : List Value).toArray 23)).alloc (.cells ([.int .u8 t0, .int .u8 t1, .int .u8 t2, .int .u8 t3] : List Value).toArray 23)).heap.size = w.heap.size + 1 + 1 + 1 := by simp
    rw [e1, e2] at h
    have h2 := h.new 25 Z
    rwa [e3] at h2)

  generalize p.vals v = VP at *
  generalize ([.int .u8 f0, .int .u8 f1, .int .u8 f2, .int .u8 f3] : List Value) = VF at *
  generalize ([.int .u8 t0, .int .u8 t1, .int .u8 t2, .int .u8 t3] : List Value) = VT at *
  generalize hw1 : (((w.alloc (.cells VP.toArray 35)).alloc (.cells VF.toArray 23)).alloc (.cells VT.toArray 23)).alloc (.cells Z.toArray 25) = w1 at *
  rw [hz0] at hw1
  go_enter Try.func15, Try.ntmps15
  go_upto_region 1 with (fail)
  clear hw1 hz0
  obtain rfl : Z = Z9 := HZ.out.trans hZ9.symm
  clear hZ9
  have ht := (bk_new w1 25 ([.int .i64 0, .int .i64 0, .int .i64 0, .int .i64 0, .int .i64 0, .bool false, .bool false, .int .u8 0, .int .u8 0, .int .u8 0, .int .u8 0, .int .u8 0, .int .u8 0, .int .u8 0, .int .u8 0, .string ⟨#[]⟩, .string ⟨#[]⟩] : List Value).toArray).there Z.toArray.size (by have := HL_Z.out; simp; omega)
  go_upto_region 2 with (((with_reducible (change wpList _ _ _ _ _ _)); (first | (refine Great.wpList_readTo rfl _ rfl (.agg Z.toArray) (run_execN (T := 25) (l := #[]) (m := #[]) rfl (by simp) (HBZ.out _)) ?_) | (refine wpList_store_mid rfl 25 _ _ rfl (w1.heap.size) 0 Z.toArray rfl rfl ht (by simpa using HI_Z.out) HO_Z.out ?_))))
  have HK2 := Lib.hid (HK1.out.put 25 ([.int .i64 0, .int .i64 0, .int .i64 0, .int .i64 0, .int .i64 0, .bool false, .bool false, .int .u8 0, .int .u8 0, .int .u8 0, .int .u8 0, .int .u8 0, .int .u8 0, .int .u8 0, .int .u8 0, .string ⟨#[]⟩, .string ⟨#[]⟩] : List Value).toArray Z (by have := HL_Z.out; simp; omega))
  clear ht HK1
  generalize (w1.alloc (.cells ([.int .i64 0, .int .i64 0, .int .i64 0, .int .i64 0, .int .i64 0, .bool false, .bool false, .int .u8 0, .int .u8 0, .int .u8 0, .int .u8 0, .int .u8 0, .int .u8 0, .int .u8 0, .int .u8 0, .string ⟨#[]⟩, .string ⟨#[]⟩] : List Value).toArray 25)).setCells w1.heap.size 0 Z = w2 at *
  generalize w1.heap.size = g0 at *
  have c2 : w2.cell? ⟨w.heap.size, 2, none⟩ = some (.int .i64 p.hop) := HK2.out.tl.tl.tl.tl.hd.at HC_VP_2.out
  have c0 : w2.cell? ⟨w.heap.size, 0, none⟩ = some (.int .i64 p.cls) := HK2.out.tl.tl.tl.tl.hd.at HC_VP_0.out
  go_upto_region 4 with (fail)
  clear c2 c0
  have c40 : w2.cell? ⟨w.heap.size, 40, none⟩ = some (.int .i64 p.proto) := HK2.out.tl.tl.tl.tl.hd.at HC_VP_40.out
  go_wp2_with (fail)
  clear c40
  refine (HP.out _).mono ?_
  rintro e w9 ⟨rfl, rfl⟩
  have c35 : w2.cell? ⟨w.heap.size, 35, none⟩ = some (v) := HK2.out.tl.tl.tl.tl.hd.at HC_VP_35.out
  go_wp2_with (fail)
  clear c35
  refine (HR.out _ HK2.out.2.1).mono ?_
  rintro e w9 ⟨rfl, rfl⟩
  go_upto_region 7 with (fail)
  have c38 : w2.cell? ⟨w.heap.size, 38, none⟩ = some (.int .i64 p.pl) := HK2.out.tl.tl.tl.tl.hd.at HC_VP_38.out
  have c41 : w2.cell? ⟨w.heap.size, 41, none⟩ = some (.string p.data) := HK2.out.tl.tl.tl.tl.hd.at HC_VP_41.out
  have k1 : IntKind.i64.wrap (p.pl + 20) = p.pl + 20 := IntWalk.i64_in _ (by omega)
  have k2 : IntKind.i64.wrap (p.pl + 20 + (p.data.size : Int)) = p.pl + 20 + (p.data.size : Int) := IntWalk.i64_in _ (by omega)
  go_upto_region 9 with (fail)
  clear k1 k2 c38 c41
  have hr0 := HK2.out.hd.range
  have HG3 : Hid (w.heap.size + 1 + 1 + 1 < w2.heap.size ∧ g0 < w2.heap.size) := Lib.hid ⟨HK2.out.tl.hd.lt, HK2.out.hd.lt⟩
  have ht := (bk_new w2 25 ([.int .i64 0, .int .i64 0, .int .i64 0, .int .i64 0, .int .i64 0, .bool false, .bool false, .int .u8 0, .int .u8 0, .int .u8 0, .int .u8 0, .int .u8 0, .int .u8 0, .int .u8 0, .int .u8 0, .string ⟨#[]⟩, .string ⟨#[]⟩] : List Value).toArray).there Z.toArray.size (by have := HL_Z.out; simp; omega)
  go_upto_region 10 with (((with_reducible (change wpList _ _ _ _ _ _)); (first | (refine wpList_load_mid rfl 25 _ rfl (g0) 0 rfl (Z) _ hr0 Try.underlying25 rfl HI_Z.out ?_) | (refine wpList_store_mid rfl 25 _ _ rfl (w2.heap.size) 0 Z.toArray rfl rfl ht (by simpa using HI_Z.out) HO_Z.out ?_))))
  have HK3 := Lib.hid (HK2.out.put 25 ([.int .i64 0, .int .i64 0, .int .i64 0, .int .i64 0, .int .i64 0, .bool false, .bool false, .int .u8 0, .int .u8 0, .int .u8 0, .int .u8 0, .int .u8 0, .int .u8 0, .int .u8 0, .int .u8 0, .string ⟨#[]⟩, .string ⟨#[]⟩] : List Value).toArray Z (by have := HL_Z.out; simp; omega))
  clear ht HK2
  generalize (w2.alloc (.cells ([.int .i64 0, .int .i64 0, .int .i64 0, .int .i64 0, .int .i64 0, .bool false, .bool false, .int .u8 0, .int .u8 0, .int .u8 0, .int .u8 0, .int .u8 0, .int .u8 0, .int .u8 0, .int .u8 0, .string ⟨#[]⟩, .string ⟨#[]⟩] : List Value).toArray 25)).setCells w2.heap.size 0 Z = w3 at *
  generalize w2.heap.size = g3 at *
  clear hr0
  have hne : ∀ x ∈ ([(g0, 25, Z), (w.heap.size + 1 + 1 + 1, 25, Z), (w.heap.size + 1 + 1, 23, VT), (w.heap.size + 1, 23, VF), (w.heap.size, 35, VP)] : List (Nat × TypeId × List Value)), x.1 ≠ g3 := by
    have hg := HG3.out
    intro x hx
    simp only [List.mem_cons, List.not_mem_nil, or_false] at hx
    rcases hx with rfl | rfl | rfl | rfl | rfl <;> (show _ ≠ g3; omega)
  have hgB : w.heap.size ≤ g3 := by have := HG3.out; omega
  have HNE := Lib.hid (And.intro hne hgB)
  clear hne hgB
  obtain ⟨uu, hu, hz⟩ := HK3.out.some1 0 (by have := HL_Z.out; omega)
  have c0 : w3.cell? ⟨w.heap.size, 0, none⟩ = some (.int .i64 p.cls) := HK3.out.tl.tl.tl.tl.tl.hd.at HC_VP_0.out
  go_upto_region 11 with (fail)
  have hk := HK3.out.set1 HNE.out.1 HNE.out.2 0 (.int .i64 p.cls)
  rw [HE1.out] at hk
  have HK4 := Lib.hid hk
  clear hk hu hz HK3 c0
  generalize w3.setCell ⟨g3, 0, none⟩ (.int .i64 p.cls) = w4 at *
  obtain ⟨uu, hu, hz⟩ := HK4.out.some1 2 (by have := HL_Q1.out; omega)
  have c2 : w4.cell? ⟨w.heap.size, 2, none⟩ = some (.int .i64 p.hop) := HK4.out.tl.tl.tl.tl.tl.hd.at HC_VP_2.out
  have kw : IntKind.i64.wrap (p.hop - 1) = p.hop - 1 := IntWalk.i64_in _ (by omega)
  go_upto_region 12 with (fail)
  have hk := HK4.out.set1 HNE.out.1 HNE.out.2 2 (.int .i64 (p.hop - 1))
  rw [HE2.out] at hk
  have HK5 := Lib.hid hk
  clear hk hu hz HK4 c2 kw
  generalize w4.setCell ⟨g3, 2, none⟩ (.int .i64 (p.hop - 1)) = w5 at *
  obtain ⟨uu, hu, hz⟩ := HK5.out.some1 3 (by have := HL_Q2.out; omega)
  go_upto_region 13 with (fail)
  have hk := HK5.out.set1 HNE.out.1 HNE.out.2 3 (.int .i64 pr)
  rw [HE3.out] at hk
  have HK6 := Lib.hid hk
  clear hk hu hz HK5 
  generalize w5.setCell ⟨g3, 3, none⟩ (.int .i64 pr) = w6 at *
  have hr0 := HK6.out.tl.tl.tl.tl.hd.range
  have ht := HK6.out.hd.there' 7 VF.toArray.size (by have := HL_VF.out; have := HL_Q3.out; simp; omega)
  go_upto_region 14 with (((with_reducible (change wpList _ _ _ _ _ _)); (first | (refine wpList_load_mid rfl 23 _ rfl (w.heap.size + 1) 0 rfl (VF) _ hr0 Try.underlying23 rfl HI_VF.out ?_) | (refine wpList_store_mid rfl 23 _ _ rfl g3 7 VF.toArray rfl rfl ht (by simpa using HI_VF.out) HO_VF.out ?_))))
  have HK7 := Lib.hid (HK6.out.sets1 HNE.out.1 HNE.out.2 7 VF HE4.out)
  clear ht hr0 HK6
  generalize w6.setCells g3 7 VF = w7 at *
  have hr0 := HK7.out.tl.tl.tl.hd.range
  have ht := HK7.out.hd.there' 11 VT.toArray.size (by have := HL_VT.out; have := HL_Q4.out; simp; omega)
  go_upto_region 15 with (((with_reducible (change wpList _ _ _ _ _ _)); (first | (refine wpList_load_mid rfl 23 _ rfl (w.heap.size + 1 + 1) 0 rfl (VT) _ hr0 Try.underlying23 rfl HI_VT.out ?_) | (refine wpList_store_mid rfl 23 _ _ rfl g3 11 VT.toArray rfl rfl ht (by simpa using HI_VT.out) HO_VT.out ?_))))
  have HK8 := Lib.hid (HK7.out.sets1 HNE.out.1 HNE.out.2 11 VT HE5.out)
  clear ht hr0 HK7
  generalize w7.setCells g3 11 VT = w8 at *
  obtain ⟨uu, hu, hz⟩ := HK8.out.some1 16 (by have := HL_Q5.out; omega)
  have c41 : w8.cell? ⟨w.heap.size, 41, none⟩ = some (.string p.data) := HK8.out.tl.tl.tl.tl.tl.hd.at HC_VP_41.out
  go_upto_region 16 with (fail)
  have hk := HK8.out.set1 HNE.out.1 HNE.out.2 16 (.string p.data)
  rw [HE6.out] at hk
  have HK9 := Lib.hid hk
  clear hk hu hz HK8 c41
  generalize w8.setCell ⟨g3, 16, none⟩ (.string p.data) = w9 at *
  have c36 : w9.cell? ⟨w.heap.size, 36, none⟩ = some (.bool false) := HK9.out.tl.tl.tl.tl.tl.hd.at (by rw [HC_VP_36.out, HF.out])
  go_upto_region 21 with (fail)
  clear c36
  have hr0 := HK9.out.tl.tl.tl.tl.tl.hd.range
  go_wp2_with (((with_reducible (change wpList _ _ _ _ _ _)); ((refine wpList_load_mid rfl 35 _ rfl (w.heap.size) 0 rfl (VP) _ hr0 Try.underlying35 rfl HI_VP.out ?_))))
  clear hr0
  refine (HWn.out _).mono ?_
  rintro e w10 ⟨rfl, bb⟩
  have HK10 := Lib.hid (HK9.out.below bb (Nat.le_refl _))
  clear bb HK9
  go_upto_region 23 with (fail)
  obtain ⟨uu, hu, hz⟩ := HK10.out.some1 5 (by have := HL_Q6.out; omega)
  go_upto_region 24 with (fail)
  have hk := HK10.out.set1 HNE.out.1 HNE.out.2 5 (.bool true)
  rw [HE7.out] at hk
  have HK11 := Lib.hid hk
  clear hk hu hz HK10 
  generalize w10.setCell ⟨g3, 5, none⟩ (.bool true) = w11 at *
  have hr0 := HK11.out.hd.range
  have hkc := HK11.out.tl.tl.hd
  have htf : w11.there (w.heap.size + 1 + 1 + 1) 0 Q7.toArray.size := hkc.there _ (by have := HL_Q7.out; have := HL_Z.out; simp; omega)
  go_wp2_with (((with_reducible (change wpList _ _ _ _ _ _)); (first | (refine wpList_load_mid rfl 25 _ rfl (g3) 0 rfl (Q7) _ hr0 Try.underlying25 rfl HI_Q7.out ?_) | (refine wpList_store_mid rfl 25 _ _ rfl (w.heap.size + 1 + 1 + 1) 0 Q7.toArray rfl rfl htf (by simpa using HI_Q7.out) HO_Q7.out ?_))))
  have hk5 := Bk.sets Q7 0 _ _ hkc
  rw [puts_whole Z.toArray Q7 (by have := HL_Q7.out; have := HL_Z.out; simp; omega)] at hk5
  refine bodyPost_ret (v := .tuple #[.agg Q7.toArray, .int .i64 0]) ?_ rfl ?_
  · exact results_cell2 rfl rfl rfl (run_loadVar_mid _ (w.heap.size + 1 + 1 + 1) 0 25 Q7 _ hk5.range Try.underlying25 rfl HI_Q7.out)
  · exact ⟨rfl, below_sets _ (by omega) 0 _ HK11.out.2.1⟩
end Go.Proofs.Ytkihhmnlefekoaa
