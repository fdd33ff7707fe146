/-
  Proved here: what head64.Head answers of a fragment.
  Conditions: the slice reads as the packet's extensions.
-/
import Derived.Test.YtkihhmnlefekoaaPp
namespace Go.Proofs.Ytkihhmnlefekoaa
open Go.RowKit

theorem build4H (x h pr : Int) (d : ByteArray) (f0 f1 f2 f3 t0 t1 t2 t3 : Int) (w : World) : (Instr.build 25 #[(0, .int .i64 x), (2, .int .i64 h), (7, .agg ([.int .u8 f0, .int .u8 f1, .int .u8 f2, .int .u8 f3] : List Value).toArray), (8, .agg ([.int .u8 t0, .int .u8 t1, .int .u8 t2, .int .u8 t3] : List Value).toArray), (3, .int .i64 pr), (10, .string d)]).run Try.prog w = .ok (.agg ((⟨x, 0, h, pr, 0, false, false, f0, f1, f2, f3, t0, t1, t2, t3, ⟨#[]⟩, d⟩ : P4.Pkt).vals).toArray) w := by kernel_rfl
theorem and_u32_16 (x : Int) : bits .and .u32 x 65535 = x % 65536 := by
  have h2 : (BitVec.ofInt 32 65535).toNat = 2 ^ 16 - 1 := by decide
  show IntKind.u32.wrap ((BitVec.ofInt 32 x &&& BitVec.ofInt 32 65535).toNat : Int) = _
  rw [BitVec.toNat_and, h2, Nat.and_two_pow_sub_one_eq_mod, BitVec.toNat_ofInt, IntKind.wrap_u32]
  omega
/-- Some blocks are kept; one more has so many cells. -/
def Pst (w0 : World) (B : Nat) (l : List (Nat × TypeId × List Value)) (g : Nat) (T : TypeId) (n : Nat) (w : World) : Prop := Kp w0 B l w ∧ ∃ A : Array Value, Bk w g T A ∧ A.size = n
theorem Pst.of {w0 w : World} {B g n : Nat} {T : TypeId} {V : List Value} {l : List (Nat × TypeId × List Value)} (h : Kp w0 B ((g, T, V) :: l) w) (hn : V.length = n) : Pst w0 B l g T n w := ⟨h.tl, _, h.hd, by simpa using hn⟩
theorem Pst.set {w0 w : World} {B g n : Nat} {T : TypeId} {l : List (Nat × TypeId × List Value)} (h : Pst w0 B l g T n w) (hne : ∀ x ∈ l, x.1 ≠ g) (hB : B ≤ g) (i : Nat) (v : Value) : Pst w0 B l g T n (w.setCell ⟨g, i, none⟩ v) := by
  obtain ⟨h1, A, h2, h3⟩ := h
  exact ⟨h1.set hne hB i v, _, h2.set i v, by simpa using h3⟩
theorem Pst.set9 {w0 w : World} {B g n : Nat} {T : TypeId} {l : List (Nat × TypeId × List Value)} (h : Pst w0 B l g T n w.drew) (hne : ∀ x ∈ l, x.1 ≠ g) (hB : B ≤ g) (i : Nat) (v : Value) : Pst w0 B l g T n (w.setCell ⟨g, i, none⟩ v).drew := h.set hne hB i v
theorem Pst.there {w0 w : World} {B g n : Nat} {T : TypeId} {l : List (Nat × TypeId × List Value)} (h : Pst w0 B l g T n w) (i : Nat) (hi : i < n) : ∃ v, w.cell? ⟨g, i, none⟩ = some v ∧ w.frozen? ⟨g, i, none⟩ = false := by
  obtain ⟨h1, A, h2, h3⟩ := h
  exact ⟨A[i]'(by omega), h2.c i _ (Array.getElem?_eq_getElem (by omega)), h2.z i⟩
set_option maxRecDepth 100000 in
set_option maxHeartbeats 4000000 in
theorem head64_frag (p : Pk6) (v : Value) (f0 f1 f2 f3 t0 t1 t2 t3 id : Int) (w : World) (n0 : ¬ (p.hop < 2)) (n1 : ¬ (255 < p.hop)) (n2 : ¬ (p.cls < 0)) (n3 : ¬ (255 < p.cls)) (n4 : ¬ (id < 0)) (n5 : ¬ (65535 < id)) (hx : Exs w v p.exts) (hl : p.exts.length ≤ 1099511627776) (hr : rtd p.exts = false) (hp : prOk64 p.proto = true) (hd : p.data.size ≤ 70000) (hz : p.pl ≤ 65515 - (p.data.size : Int)) (hf : p.frag = true) :
    Calls Try.prog 9 #[.agg (p.vals v).toArray, .agg ([.int .u8 f0, .int .u8 f1, .int .u8 f2, .int .u8 f3] : List Value).toArray, .agg ([.int .u8 t0, .int .u8 t1, .int .u8 t2, .int .u8 t3] : List Value).toArray, .int .i64 id] w (fun e w' => e = .returned (.tuple #[.agg (((⟨p.cls, (p.id % 65536), p.hop - 1, pr64 p.proto, p.pl, false, p.more, f0, f1, f2, f3, t0, t1, t2, t3, ⟨#[]⟩, p.data⟩ : P4.Pkt).vals)).toArray, .nilIface]) ∧ Below w.heap.size w w') := by
  have HWc : Hid (∀ W, Calls Try.prog 24 #[.int .i64 p.cls, .int .i64 255] W fun e w' => e = .returned (.bool true) ∧ W = w') := Lib.hid (fun W => within64_in _ _ W n2 n3)
  have HWi : Hid (∀ W, Calls Try.prog 24 #[.int .i64 id, .int .i64 65535] W fun e w' => e = .returned (.bool true) ∧ W = w') := Lib.hid (fun W => within64_in _ _ W n4 n5)
  clear n2 n3 n4 n5
  have HR : Hid (∀ W, Below w.heap.size w W → Calls Try.prog 26 #[v] W fun e w' => e = .returned (.bool false) ∧ Below W.heap.size W w') := Lib.hid (fun W hW => by rw [← hr]; exact routed_any v p.exts W (hx.below hW (Nat.le_refl _)) hl)
  clear hr hx hl
  have HF := Lib.hid hf
  clear hf
  have HFi : Hid (∀ W, Calls Try.prog 27 #[.agg (p.vals v).toArray] W fun e w' => e = .returned (.bool true) ∧ Below W.heap.size W w') := Lib.hid (fun W => fits_yes p v W hd hz)
  clear hd hz
  have HP : Hid (∀ W, Calls Try.prog 16 #[.int .i64 p.proto] W fun e w' => e = .returned (.tuple #[.int .i64 (pr64 p.proto), .bool true]) ∧ W = w') := Lib.hid (fun W => by rw [← hp]; exact proto64_any p.proto W)
  clear hp
  generalize pr64 p.proto = pr at *
  have HB : Hid (∀ W, (Instr.build 25 #[(0, .int .i64 p.cls), (2, .int .i64 (p.hop - 1)), (7, .agg (([.int .u8 f0, .int .u8 f1, .int .u8 f2, .int .u8 f3] : List Value)).toArray), (8, .agg (([.int .u8 t0, .int .u8 t1, .int .u8 t2, .int .u8 t3] : List Value)).toArray), (3, .int .i64 pr), (10, .string p.data)]).run Try.prog W = .ok (.agg (((⟨p.cls, 0, p.hop - 1, pr, 0, false, false, f0, f1, f2, f3, t0, t1, t2, t3, ⟨#[]⟩, p.data⟩ : P4.Pkt).vals)).toArray) W) := Lib.hid (fun W => build4H p.cls (p.hop - 1) pr p.data f0 f1 f2 f3 t0 t1 t2 t3 W)
  have HI_V0 : Hid ((Try.prog.info? 25).map (·.size) = some (((⟨p.cls, 0, p.hop - 1, pr, 0, false, false, f0, f1, f2, f3, t0, t1, t2, t3, ⟨#[]⟩, p.data⟩ : P4.Pkt).vals)).length) := Lib.hid (P4.Try.infoIp _)
  have HO_V0 : Hid ((((⟨p.cls, 0, p.hop - 1, pr, 0, false, false, f0, f1, f2, f3, t0, t1, t2, t3, ⟨#[]⟩, p.data⟩ : P4.Pkt).vals)).toArray.all (·.oneCell') = true) := Lib.hid (P4.vals_one _)
  have HL_V0 : Hid ((((⟨p.cls, 0, p.hop - 1, pr, 0, false, false, f0, f1, f2, f3, t0, t1, t2, t3, ⟨#[]⟩, p.data⟩ : P4.Pkt).vals)).length = 17) := Lib.hid rfl
  have HI_V1 : Hid ((Try.prog.info? 25).map (·.size) = some (((⟨p.cls, (p.id % 65536), p.hop - 1, pr, 0, false, false, f0, f1, f2, f3, t0, t1, t2, t3, ⟨#[]⟩, p.data⟩ : P4.Pkt).vals)).length) := Lib.hid (P4.Try.infoIp _)
  have HO_V1 : Hid ((((⟨p.cls, (p.id % 65536), p.hop - 1, pr, 0, false, false, f0, f1, f2, f3, t0, t1, t2, t3, ⟨#[]⟩, p.data⟩ : P4.Pkt).vals)).toArray.all (·.oneCell') = true) := Lib.hid (P4.vals_one _)
  have HL_V1 : Hid ((((⟨p.cls, (p.id % 65536), p.hop - 1, pr, 0, false, false, f0, f1, f2, f3, t0, t1, t2, t3, ⟨#[]⟩, p.data⟩ : P4.Pkt).vals)).length = 17) := Lib.hid rfl
  have HE1 : Hid (((⟨p.cls, 0, p.hop - 1, pr, 0, false, false, f0, f1, f2, f3, t0, t1, t2, t3, ⟨#[]⟩, p.data⟩ : P4.Pkt).vals).set 1 (.int .i64 (p.id % 65536)) = ((⟨p.cls, (p.id % 65536), p.hop - 1, pr, 0, false, false, f0, f1, f2, f3, t0, t1, t2, t3, ⟨#[]⟩, p.data⟩ : P4.Pkt).vals)) := Lib.hid rfl
  have HI_V2 : Hid ((Try.prog.info? 25).map (·.size) = some (((⟨p.cls, (p.id % 65536), p.hop - 1, pr, p.pl, false, false, f0, f1, f2, f3, t0, t1, t2, t3, ⟨#[]⟩, p.data⟩ : P4.Pkt).vals)).length) := Lib.hid (P4.Try.infoIp _)
  have HO_V2 : Hid ((((⟨p.cls, (p.id % 65536), p.hop - 1, pr, p.pl, false, false, f0, f1, f2, f3, t0, t1, t2, t3, ⟨#[]⟩, p.data⟩ : P4.Pkt).vals)).toArray.all (·.oneCell') = true) := Lib.hid (P4.vals_one _)
  have HL_V2 : Hid ((((⟨p.cls, (p.id % 65536), p.hop - 1, pr, p.pl, false, false, f0, f1, f2, f3, t0, t1, t2, t3, ⟨#[]⟩, p.data⟩ : P4.Pkt).vals)).length = 17) := Lib.hid rfl
  have HE2 : Hid (((⟨p.cls, (p.id % 65536), p.hop - 1, pr, 0, false, false, f0, f1, f2, f3, t0, t1, t2, t3, ⟨#[]⟩, p.data⟩ : P4.Pkt).vals).set 4 (.int .i64 p.pl) = ((⟨p.cls, (p.id % 65536), p.hop - 1, pr, p.pl, false, false, f0, f1, f2, f3, t0, t1, t2, t3, ⟨#[]⟩, p.data⟩ : P4.Pkt).vals)) := Lib.hid rfl
  have HI_V3 : Hid ((Try.prog.info? 25).map (·.size) = some (((⟨p.cls, (p.id % 65536), p.hop - 1, pr, p.pl, false, p.more, f0, f1, f2, f3, t0, t1, t2, t3, ⟨#[]⟩, p.data⟩ : P4.Pkt).vals)).length) := Lib.hid (P4.Try.infoIp _)
  have HO_V3 : Hid ((((⟨p.cls, (p.id % 65536), p.hop - 1, pr, p.pl, false, p.more, f0, f1, f2, f3, t0, t1, t2, t3, ⟨#[]⟩, p.data⟩ : P4.Pkt).vals)).toArray.all (·.oneCell') = true) := Lib.hid (P4.vals_one _)
  have HL_V3 : Hid ((((⟨p.cls, (p.id % 65536), p.hop - 1, pr, p.pl, false, p.more, f0, f1, f2, f3, t0, t1, t2, t3, ⟨#[]⟩, p.data⟩ : P4.Pkt).vals)).length = 17) := Lib.hid rfl
  have HE3 : Hid (((⟨p.cls, (p.id % 65536), p.hop - 1, pr, p.pl, false, false, f0, f1, f2, f3, t0, t1, t2, t3, ⟨#[]⟩, p.data⟩ : P4.Pkt).vals).set 6 (.bool p.more) = ((⟨p.cls, (p.id % 65536), p.hop - 1, pr, p.pl, false, p.more, f0, f1, f2, f3, t0, t1, t2, t3, ⟨#[]⟩, p.data⟩ : P4.Pkt).vals)) := Lib.hid rfl
  generalize ((⟨p.cls, 0, p.hop - 1, pr, 0, false, false, f0, f1, f2, f3, t0, t1, t2, t3, ⟨#[]⟩, p.data⟩ : P4.Pkt).vals) = V0 at *
  generalize ((⟨p.cls, (p.id % 65536), p.hop - 1, pr, 0, false, false, f0, f1, f2, f3, t0, t1, t2, t3, ⟨#[]⟩, p.data⟩ : P4.Pkt).vals) = V1 at *
  generalize ((⟨p.cls, (p.id % 65536), p.hop - 1, pr, p.pl, false, false, f0, f1, f2, f3, t0, t1, t2, t3, ⟨#[]⟩, p.data⟩ : P4.Pkt).vals) = V2 at *
  generalize ((⟨p.cls, (p.id % 65536), p.hop - 1, pr, p.pl, false, p.more, f0, f1, f2, f3, t0, t1, t2, t3, ⟨#[]⟩, p.data⟩ : P4.Pkt).vals) = V3 at *
  obtain ⟨Z, hZ⟩ : ∃ Z, Z = P4.pkt0.vals := ⟨_, rfl⟩
  have HBZ : Hid (∀ W, (Instr.build 25 #[]).run Try.prog W = .ok (.agg Z.toArray) W) := Lib.hid (fun W => by rw [hZ]; exact build4Z W)
  have HI_Z : Hid ((Try.prog.info? 25).map (·.size) = some Z.length) := Lib.hid (by rw [hZ]; exact P4.Try.infoIp _)
  have HO_Z : Hid (Z.toArray.all (·.oneCell') = true) := Lib.hid (by rw [hZ]; exact P4.vals_one _)
  have HL_Z : Hid (Z.length = 17) := Lib.hid (by rw [hZ]; rfl)
  have hz0 : Z.toArray = #[.int .i64 0, .int .i64 0, .int .i64 0, .int .i64 0, .int .i64 0, .bool false, .bool false, .int .u8 0, .int .u8 0, .int .u8 0, .int .u8 0, .int .u8 0, .int .u8 0, .int .u8 0, .int .u8 0, .string ⟨#[]⟩, .string ⟨#[]⟩] := by rw [hZ]; rfl
  have HZ := Lib.hid hZ
  clear hZ
  have HI_VP : Hid ((Try.prog.info? 35).map (·.size) = some (p.vals v).length) := Lib.hid (Try.info6 _ _)
  have HC_VP_0 : Hid ((p.vals v)[0]? = some (.int .i64 p.cls)) := Lib.hid (rfl)
  have HC_VP_2 : Hid ((p.vals v)[2]? = some (.int .i64 p.hop)) := Lib.hid (rfl)
  have HC_VP_35 : Hid ((p.vals v)[35]? = some (v)) := Lib.hid (vals_tail p v 0)
  have HC_VP_36 : Hid ((p.vals v)[36]? = some (.bool p.frag)) := Lib.hid (vals_tail p v 1)
  have HC_VP_37 : Hid ((p.vals v)[37]? = some (.int .u32 p.id)) := Lib.hid (vals_tail p v 2)
  have HC_VP_38 : Hid ((p.vals v)[38]? = some (.int .i64 p.pl)) := Lib.hid (vals_tail p v 3)
  have HC_VP_39 : Hid ((p.vals v)[39]? = some (.bool p.more)) := Lib.hid (vals_tail p v 4)
  have HC_VP_40 : Hid ((p.vals v)[40]? = some (.int .i64 p.proto)) := Lib.hid (vals_tail p v 5)
  have HC_VP_41 : Hid ((p.vals v)[41]? = some (.string p.data)) := Lib.hid (vals_tail p v 6)
  have HI_VF : Hid ((Try.prog.info? 23).map (·.size) = some (([.int .u8 f0, .int .u8 f1, .int .u8 f2, .int .u8 f3] : List Value)).length) := Lib.hid (Try.infoV4c _ _ _ _)
  have HO_VF : Hid ((([.int .u8 f0, .int .u8 f1, .int .u8 f2, .int .u8 f3] : List Value)).toArray.all (·.oneCell') = true) := Lib.hid (by simp [Value.oneCell'])
  have HL_VF : Hid ((([.int .u8 f0, .int .u8 f1, .int .u8 f2, .int .u8 f3] : List Value)).length = 4) := Lib.hid rfl
  have HI_VT : Hid ((Try.prog.info? 23).map (·.size) = some (([.int .u8 t0, .int .u8 t1, .int .u8 t2, .int .u8 t3] : List Value)).length) := Lib.hid (Try.infoV4c _ _ _ _)
  have HO_VT : Hid ((([.int .u8 t0, .int .u8 t1, .int .u8 t2, .int .u8 t3] : List Value)).toArray.all (·.oneCell') = true) := Lib.hid (by simp [Value.oneCell'])
  have HL_VT : Hid ((([.int .u8 t0, .int .u8 t1, .int .u8 t2, .int .u8 t3] : List Value)).length = 4) := Lib.hid rfl
  have HK1 : Hid (Kp w w.heap.size [(w.heap.size + 1 + 1 + 1, 25, Z), (w.heap.size + 1 + 1, 23, ([.int .u8 t0, .int .u8 t1, .int .u8 t2, .int .u8 t3] : List Value)), (w.heap.size + 1, 23, ([.int .u8 f0, .int .u8 f1, .int .u8 f2, .int .u8 f3] : List Value)), (w.heap.size, 35, p.vals v)] ((((w.alloc (.cells (p.vals v).toArray 35)).alloc (.cells ([.int .u8 f0, .int .u8 f1, .int .u8 f2, .int .u8 f3] : List Value).toArray 23)).alloc (.cells ([.int .u8 t0, .int .u8 t1, .int .u8 t2, .int .u8 t3] : List Value).toArray 23)).alloc (.cells Z.toArray 25))) := Lib.hid (by
    have h := (((Kp.start w).new 35 (p.vals v)).new 23 ([.int .u8 f0, .int .u8 f1, .int .u8 f2, .int .u8 f3] : List Value)).new 23 ([.int .u8 t0, .int .u8 t1, .int .u8 t2, .int .u8 t3] : List Value)
    have e1 : (w.alloc (.cells (p.vals v).toArray 35)).heap.size = w.heap.size + 1 := by simp
    have e2 : ((w.alloc (.cells (p.vals v).toArray 35)).alloc (.cells ([.int .u8 f0, .int .u8 f1, .int .u8 f2, .int .u8 f3] : List Value).toArray 23)).heap.size = w.heap.size + 1 + 1 := by simp
    have e3 : (((w.alloc (.cells (p.vals v).toArray 35)).alloc (.cells ([.int .u8 f0, .int .u8 f1, .int .u8 f2, .int .u8 f3] : List Value).toArray 23)).alloc (.cells ([.int .u8 t0, .int .u8 t1, .int .u8 t2, .int .u8 t3] : List Value).toArray 23)).heap.size = w.heap.size + 1 + 1 + 1 := by simp
    rw [e1, e2] at h
    have h2 := h.new 25 Z
    rwa [e3] at h2)

  generalize p.vals v = VP at *
  generalize ([.int .u8 f0, .int .u8 f1, .int .u8 f2, .int .u8 f3] : List Value) = VF at *
  generalize ([.int .u8 t0, .int .u8 t1, .int .u8 t2, .int .u8 t3] : List Value) = VT at *
  generalize hw1 : (((w.alloc (.cells VP.toArray 35)).alloc (.cells VF.toArray 23)).alloc (.cells VT.toArray 23)).alloc (.cells Z.toArray 25) = w1 at *
  rw [hz0] at hw1
  go_enter Try.func9, Try.ntmps9
  go_upto_region 1 with (fail)
  clear hw1 hz0
  have c2 : w1.cell? ⟨w.heap.size, 2, none⟩ = some (.int .i64 p.hop) := HK1.out.tl.tl.tl.hd.at HC_VP_2.out
  have c0 : w1.cell? ⟨w.heap.size, 0, none⟩ = some (.int .i64 p.cls) := HK1.out.tl.tl.tl.hd.at HC_VP_0.out
  go_wp2_with (fail)
  refine (HWc.out _).mono ?_
  rintro e w9 ⟨rfl, rfl⟩
  go_wp2_with (fail)
  refine (HWi.out _).mono ?_
  rintro e w9 ⟨rfl, rfl⟩
  go_upto_region 3 with (fail)
  have c40 : w1.cell? ⟨w.heap.size, 40, none⟩ = some (.int .i64 p.proto) := HK1.out.tl.tl.tl.hd.at HC_VP_40.out
  go_wp2_with (fail)
  refine (HP.out _).mono ?_
  rintro e w9 ⟨rfl, rfl⟩
  have c35 : w1.cell? ⟨w.heap.size, 35, none⟩ = some (v) := HK1.out.tl.tl.tl.hd.at HC_VP_35.out
  go_wp2_with (fail)
  clear c2 c0 c40 c35
  refine (HR.out _ HK1.out.2.1).mono ?_
  rintro e w2 ⟨rfl, bb⟩
  have HK2 := Lib.hid (HK1.out.below bb (Nat.le_refl _))
  clear bb HK1
  go_upto_region 6 with (fail)
  have hr0 := HK2.out.tl.tl.tl.hd.range
  go_wp2_with (((with_reducible (change wpList _ _ _ _ _ _)); ((refine wpList_load_mid rfl 35 _ rfl (w.heap.size) 0 rfl (VP) _ hr0 Try.underlying35 rfl HI_VP.out ?_))))
  clear hr0
  refine (HFi.out _).mono ?_
  rintro e w3 ⟨rfl, bb⟩
  have HK3 := Lib.hid (HK2.out.below bb (Nat.le_refl _))
  clear bb HK2
  go_upto_region 8 with (fail)
  have c0 : w3.cell? ⟨w.heap.size, 0, none⟩ = some (.int .i64 p.cls) := HK3.out.tl.tl.tl.hd.at HC_VP_0.out
  have c2 : w3.cell? ⟨w.heap.size, 2, none⟩ = some (.int .i64 p.hop) := HK3.out.tl.tl.tl.hd.at HC_VP_2.out
  have c41 : w3.cell? ⟨w.heap.size, 41, none⟩ = some (.string p.data) := HK3.out.tl.tl.tl.hd.at HC_VP_41.out
  have hr0 := HK3.out.tl.hd.range
  have hr1 := HK3.out.tl.tl.hd.range
  have kw : IntKind.i64.wrap (p.hop - 1) = p.hop - 1 := IntWalk.i64_in _ (by omega)
  have HG3 : Hid (w.heap.size + 1 + 1 + 1 < w3.heap.size) := Lib.hid HK3.out.hd.lt
  have ht := (bk_new w3 25 ([.int .i64 0, .int .i64 0, .int .i64 0, .int .i64 0, .int .i64 0, .bool false, .bool false, .int .u8 0, .int .u8 0, .int .u8 0, .int .u8 0, .int .u8 0, .int .u8 0, .int .u8 0, .int .u8 0, .string ⟨#[]⟩, .string ⟨#[]⟩] : List Value).toArray).there V0.toArray.size (by have := HL_V0.out; simp; omega)
  go_upto_region 10 with (((with_reducible (change wpList _ _ _ _ _ _)); (first | (refine wpList_load_mid rfl 23 _ rfl (w.heap.size + 1 + 1) 0 rfl (VT) _ hr0 Try.underlying23 rfl HI_VT.out ?_) | (refine wpList_load_mid rfl 23 _ rfl (w.heap.size + 1) 0 rfl (VF) _ hr1 Try.underlying23 rfl HI_VF.out ?_) | (refine Great.wpList_readTo rfl _ rfl (.agg V0.toArray) (run_execN rfl (by rw [List.map_toArray]; rfl) (HB.out _)) ?_) | (refine wpList_store_mid rfl 25 _ _ rfl (w3.heap.size) 0 V0.toArray rfl rfl ht (by simpa using HI_V0.out) HO_V0.out ?_))))
  have HK4 := Lib.hid (HK3.out.put 25 ([.int .i64 0, .int .i64 0, .int .i64 0, .int .i64 0, .int .i64 0, .bool false, .bool false, .int .u8 0, .int .u8 0, .int .u8 0, .int .u8 0, .int .u8 0, .int .u8 0, .int .u8 0, .int .u8 0, .string ⟨#[]⟩, .string ⟨#[]⟩] : List Value).toArray V0 (by have := HL_V0.out; simp; omega))
  clear ht HK3
  generalize (w3.alloc (.cells ([.int .i64 0, .int .i64 0, .int .i64 0, .int .i64 0, .int .i64 0, .bool false, .bool false, .int .u8 0, .int .u8 0, .int .u8 0, .int .u8 0, .int .u8 0, .int .u8 0, .int .u8 0, .int .u8 0, .string ⟨#[]⟩, .string ⟨#[]⟩] : List Value).toArray 25)).setCells w3.heap.size 0 V0 = w4 at *
  generalize w3.heap.size = g3 at *
  clear kw hr0 hr1 c0 c2 c41
  have hne : ∀ x ∈ ([(w.heap.size + 1 + 1 + 1, 25, Z), (w.heap.size + 1 + 1, 23, VT), (w.heap.size + 1, 23, VF), (w.heap.size, 35, VP)] : List (Nat × TypeId × List Value)), x.1 ≠ g3 := by
    have hg := HG3.out
    intro x hx
    simp only [List.mem_cons, List.not_mem_nil, or_false] at hx
    rcases hx with rfl | rfl | rfl | rfl <;> (show _ ≠ g3; omega)
  have hgB : w.heap.size ≤ g3 := by have := HG3.out; omega
  have HNE := Lib.hid (And.intro hne hgB)
  clear hne hgB
  have c36 : w4.cell? ⟨w.heap.size, 36, none⟩ = some (.bool true) := HK4.out.tl.tl.tl.tl.hd.at (by rw [HC_VP_36.out, HF.out])
  have c37 : w4.cell? ⟨w.heap.size, 37, none⟩ = some (.int .u32 p.id) := HK4.out.tl.tl.tl.tl.hd.at HC_VP_37.out
  have c38 : w4.cell? ⟨w.heap.size, 38, none⟩ = some (.int .i64 p.pl) := HK4.out.tl.tl.tl.tl.hd.at HC_VP_38.out
  have c39 : w4.cell? ⟨w.heap.size, 39, none⟩ = some (.bool p.more) := HK4.out.tl.tl.tl.tl.hd.at HC_VP_39.out
  go_upto_region 11 with (fail)
  have HKR : Hid (∀ W : World, Pst w w.heap.size [(w.heap.size + 1 + 1 + 1, 25, Z), (w.heap.size + 1 + 1, 23, VT), (w.heap.size + 1, 23, VF), (w.heap.size, 35, VP)] g3 25 17 W → (fun w' => Pst w w.heap.size [(w.heap.size + 1 + 1 + 1, 25, Z), (w.heap.size + 1 + 1, 23, VT), (w.heap.size + 1, 23, VF), (w.heap.size, 35, VP)] g3 25 17 w' ∧ w'.cell? ⟨w.heap.size, 37, none⟩ = some (.int .u32 p.id) ∧ w'.cell? ⟨w.heap.size, 38, none⟩ = some (.int .i64 p.pl) ∧ w'.cell? ⟨w.heap.size, 39, none⟩ = some (.bool p.more)) W) := Lib.hid (fun W k => ⟨k, k.1.tl.tl.tl.hd.at HC_VP_37.out, k.1.tl.tl.tl.hd.at HC_VP_38.out, k.1.tl.tl.tl.hd.at HC_VP_39.out⟩)
  have kid : IntKind.i64.wrap (p.id % 65536) = p.id % 65536 := IntWalk.i64_in _ (by omega)
  have kand := and_u32_16 p.id
  refine wp_region_noPanic ?_
  refine wp_region_held_drew (S := fun w' => Pst w w.heap.size [(w.heap.size + 1 + 1 + 1, 25, Z), (w.heap.size + 1 + 1, 23, VT), (w.heap.size + 1, 23, VF), (w.heap.size, 35, VP)] g3 25 17 w' ∧ w'.cell? ⟨w.heap.size, 37, none⟩ = some (.int .u32 p.id) ∧ w'.cell? ⟨w.heap.size, 38, none⟩ = some (.int .i64 p.pl) ∧ w'.cell? ⟨w.heap.size, 39, none⟩ = some (.bool p.more)) (by kernel_rfl) (HKR.out _ (Pst.of HK4.out.drew HL_V0.out)) (fun hHeld => ?_)
  refine wpAnyH_take (i := 0) (oi := { dst := some 69, op := Op.fieldAddr 35 (Operand.tmp 4) 7, type := 0, pos := "head64.go:47", after := #[], guard := none }) (v := ?_) rfl (by kernel_rfl) (by kernel_rfl) (by kernel_rfl) (fun _ _ _ h => h) (Or.inl ⟨by rfl, ?_⟩) (by assumption) ?_
  rotate_left
  · (intro ww hSw; (try dsimp only at hSw); go_simp; try with_reducible rfl)
  (try simp only [Act.put, List.setIfInBounds_toArray, List.set_cons_zero, List.set_cons_succ])
  refine wpAnyH_take (i := 1) (oi := { dst := some 70, op := Op.load 30 (Operand.tmp 69), type := 30, pos := "head64.go:47", after := #[{ on := 0, ground := Ground.data }], guard := none }) (v := ?_) rfl (by kernel_rfl) (by kernel_rfl) (by kernel_rfl) (fun _ _ _ h => h) (Or.inl ⟨by rfl, ?_⟩) (by assumption) ?_
  rotate_left
  · (intro ww hSw; (try dsimp only at hSw); go_simp; try with_reducible rfl)
  (try simp only [Act.put, List.setIfInBounds_toArray, List.set_cons_zero, List.set_cons_succ])
  refine wpAnyH_take (i := 2) (oi := { dst := some 71, op := Op.binOp BinOp.and 30 (Operand.tmp 70) (Operand.const (Value.int IntKind.u32 65535)) 30, type := 30, pos := "head64.go:47", after := #[{ on := 1, ground := Ground.data }], guard := none }) (v := ?_) rfl (by kernel_rfl) (by kernel_rfl) (by kernel_rfl) (fun _ _ _ h => h) (Or.inl ⟨by rfl, ?_⟩) (by assumption) ?_
  rotate_left
  · (intro ww hSw; (try dsimp only at hSw); go_simp; try with_reducible rfl)
  (try simp only [Act.put, List.setIfInBounds_toArray, List.set_cons_zero, List.set_cons_succ])
  refine wpAnyH_take (i := 3) (oi := { dst := some 72, op := Op.convert 30 3 (Operand.tmp 71), type := 3, pos := "head64.go:47", after := #[{ on := 2, ground := Ground.data }], guard := none }) (v := ?_) rfl (by kernel_rfl) (by kernel_rfl) (by kernel_rfl) (fun _ _ _ h => h) (Or.inl ⟨by rfl, ?_⟩) (by assumption) ?_
  rotate_left
  · (intro ww hSw; (try dsimp only at hSw); go_simp; try with_reducible rfl)
  (try simp only [Act.put, List.setIfInBounds_toArray, List.set_cons_zero, List.set_cons_succ])
  refine wpAnyH_take (i := 4) (oi := { dst := some 73, op := Op.fieldAddr 35 (Operand.tmp 4) 8, type := 0, pos := "head64.go:47", after := #[{ on := 9, ground := Ground.gcOnly Departure.lateStores }], guard := none }) (v := ?_) rfl (by kernel_rfl) (by kernel_rfl) (by kernel_rfl) (fun _ _ _ h => h) (Or.inl ⟨by rfl, ?_⟩) (by assumption) ?_
  rotate_left
  · (intro ww hSw; (try dsimp only at hSw); go_simp; try with_reducible rfl)
  (try simp only [Act.put, List.setIfInBounds_toArray, List.set_cons_zero, List.set_cons_succ])
  refine wpAnyH_take (i := 5) (oi := { dst := some 74, op := Op.load 3 (Operand.tmp 73), type := 3, pos := "head64.go:47", after := #[{ on := 4, ground := Ground.data }, { on := 9, ground := Ground.gcOnly Departure.lateStores }], guard := none }) (v := ?_) rfl (by kernel_rfl) (by kernel_rfl) (by kernel_rfl) (fun _ _ _ h => h) (Or.inl ⟨by rfl, ?_⟩) (by assumption) ?_
  rotate_left
  · (intro ww hSw; (try dsimp only at hSw); go_simp; try with_reducible rfl)
  (try simp only [Act.put, List.setIfInBounds_toArray, List.set_cons_zero, List.set_cons_succ])
  refine wpAnyH_take (i := 6) (oi := { dst := some 75, op := Op.fieldAddr 35 (Operand.tmp 4) 9, type := 0, pos := "head64.go:47", after := #[{ on := 11, ground := Ground.gcOnly Departure.lateStores }], guard := none }) (v := ?_) rfl (by kernel_rfl) (by kernel_rfl) (by kernel_rfl) (fun _ _ _ h => h) (Or.inl ⟨by rfl, ?_⟩) (by assumption) ?_
  rotate_left
  · (intro ww hSw; (try dsimp only at hSw); go_simp; try with_reducible rfl)
  (try simp only [Act.put, List.setIfInBounds_toArray, List.set_cons_zero, List.set_cons_succ])
  refine wpAnyH_take (i := 7) (oi := { dst := some 76, op := Op.load 4 (Operand.tmp 75), type := 4, pos := "head64.go:47", after := #[{ on := 6, ground := Ground.data }, { on := 11, ground := Ground.gcOnly Departure.lateStores }], guard := none }) (v := ?_) rfl (by kernel_rfl) (by kernel_rfl) (by kernel_rfl) (fun _ _ _ h => h) (Or.inl ⟨by rfl, ?_⟩) (by assumption) ?_
  rotate_left
  · (intro ww hSw; (try dsimp only at hSw); go_simp; try with_reducible rfl)
  (try simp only [Act.put, List.setIfInBounds_toArray, List.set_cons_zero, List.set_cons_succ])
  refine wpAnyH_take (i := 8) (oi := { dst := some 77, op := Op.fieldAddr 25 (Operand.tmp 12) 1, type := 0, pos := "head64.go:47", after := #[{ on := 0, ground := Ground.phase }, { on := 1, ground := Ground.phase }, { on := 2, ground := Ground.phase }, { on := 3, ground := Ground.phase }, { on := 4, ground := Ground.textOnly Departure.lateStores }, { on := 5, ground := Ground.textOnly Departure.lateStores }, { on := 6, ground := Ground.textOnly Departure.lateStores }, { on := 7, ground := Ground.textOnly Departure.lateStores }], guard := none }) (v := ?_) rfl (by kernel_rfl) (by kernel_rfl) (by kernel_rfl) (fun _ _ _ h => h) (Or.inl ⟨by rfl, ?_⟩) (by assumption) ?_
  rotate_left
  · (intro ww hSw; (try dsimp only at hSw); go_simp; try with_reducible rfl)
  (try simp only [Act.put, List.setIfInBounds_toArray, List.set_cons_zero, List.set_cons_succ])
  refine wpAnyH_ready (rs := [9]) (by kernel_rfl) (by simp) ?_
  refine AllReadyH.cons (o := { dst := none, op := Op.store 3 (Operand.tmp 77) (Operand.tmp 72), type := 0, pos := "head64.go:47", after := #[{ on := 8, ground := Ground.data }, { on := 3, ground := Ground.data }, { on := 0, ground := Ground.phase }, { on := 1, ground := Ground.phase }, { on := 2, ground := Ground.phase }, { on := 3, ground := Ground.phase }, { on := 4, ground := Ground.textOnly Departure.lateStores }, { on := 5, ground := Ground.textOnly Departure.lateStores }, { on := 6, ground := Ground.textOnly Departure.lateStores }, { on := 7, ground := Ground.textOnly Departure.lateStores }], guard := none }) rfl (fun K hK => ?_) AllReadyH.nil
  obtain ⟨u1, hu1, hz1⟩ := (And.left hHeld).there 1 (by omega)
  go_simp
  refine hK.out _ _ (HKR.out _ ((And.left hHeld).set HNE.out.1 HNE.out.2 1 _)) (fun hHeld => ?_)
  clear hK K
  (try simp only [Act.put])
  refine wpAnyH_take (i := 10) (oi := { dst := some 78, op := Op.fieldAddr 25 (Operand.tmp 12) 4, type := 0, pos := "head64.go:47", after := #[{ on := 0, ground := Ground.phase }, { on := 1, ground := Ground.phase }, { on := 2, ground := Ground.phase }, { on := 3, ground := Ground.phase }, { on := 4, ground := Ground.phase }, { on := 5, ground := Ground.phase }, { on := 6, ground := Ground.textOnly Departure.lateStores }, { on := 7, ground := Ground.textOnly Departure.lateStores }, { on := 8, ground := Ground.phase }, { on := 9, ground := Ground.phase }], guard := none }) (v := ?_) rfl (by kernel_rfl) (by kernel_rfl) (by kernel_rfl) (fun _ _ _ h => h) (Or.inl ⟨by rfl, ?_⟩) (by assumption) ?_
  rotate_left
  · (intro ww hSw; (try dsimp only at hSw); go_simp; try with_reducible rfl)
  (try simp only [Act.put, List.setIfInBounds_toArray, List.set_cons_zero, List.set_cons_succ])
  refine wpAnyH_ready (rs := [11]) (by kernel_rfl) (by simp) ?_
  refine AllReadyH.cons (o := { dst := none, op := Op.store 3 (Operand.tmp 78) (Operand.tmp 74), type := 0, pos := "head64.go:47", after := #[{ on := 10, ground := Ground.data }, { on := 5, ground := Ground.data }, { on := 9, ground := Ground.chain }, { on := 0, ground := Ground.phase }, { on := 1, ground := Ground.phase }, { on := 2, ground := Ground.phase }, { on := 3, ground := Ground.phase }, { on := 4, ground := Ground.phase }, { on := 5, ground := Ground.phase }, { on := 6, ground := Ground.textOnly Departure.lateStores }, { on := 7, ground := Ground.textOnly Departure.lateStores }, { on := 8, ground := Ground.phase }, { on := 9, ground := Ground.phase }], guard := none }) rfl (fun K hK => ?_) AllReadyH.nil
  obtain ⟨u4, hu4, hz4⟩ := (And.left hHeld).there 4 (by omega)
  go_simp
  refine hK.out _ _ (HKR.out _ ((And.left hHeld).set HNE.out.1 HNE.out.2 4 _)) (fun hHeld => ?_)
  clear hK K
  (try simp only [Act.put])
  refine wpAnyH_take (i := 12) (oi := { dst := some 79, op := Op.fieldAddr 25 (Operand.tmp 12) 6, type := 0, pos := "head64.go:47", after := #[{ on := 0, ground := Ground.phase }, { on := 1, ground := Ground.phase }, { on := 2, ground := Ground.phase }, { on := 3, ground := Ground.phase }, { on := 4, ground := Ground.phase }, { on := 5, ground := Ground.phase }, { on := 6, ground := Ground.phase }, { on := 7, ground := Ground.phase }, { on := 8, ground := Ground.phase }, { on := 9, ground := Ground.phase }, { on := 10, ground := Ground.phase }, { on := 11, ground := Ground.phase }], guard := none }) (v := ?_) rfl (by kernel_rfl) (by kernel_rfl) (by kernel_rfl) (fun _ _ _ h => h) (Or.inl ⟨by rfl, ?_⟩) (by assumption) ?_
  rotate_left
  · (intro ww hSw; (try dsimp only at hSw); go_simp; try with_reducible rfl)
  (try simp only [Act.put, List.setIfInBounds_toArray, List.set_cons_zero, List.set_cons_succ])
  refine wpAnyH_ready (rs := [13]) (by kernel_rfl) (by simp) ?_
  refine AllReadyH.cons (o := { dst := none, op := Op.store 4 (Operand.tmp 79) (Operand.tmp 76), type := 0, pos := "head64.go:47", after := #[{ on := 12, ground := Ground.data }, { on := 7, ground := Ground.data }, { on := 11, ground := Ground.chain }, { on := 0, ground := Ground.phase }, { on := 1, ground := Ground.phase }, { on := 2, ground := Ground.phase }, { on := 3, ground := Ground.phase }, { on := 4, ground := Ground.phase }, { on := 5, ground := Ground.phase }, { on := 6, ground := Ground.phase }, { on := 7, ground := Ground.phase }, { on := 8, ground := Ground.phase }, { on := 9, ground := Ground.phase }, { on := 10, ground := Ground.phase }, { on := 11, ground := Ground.phase }], guard := none }) rfl (fun K hK => ?_) AllReadyH.nil
  obtain ⟨u6, hu6, hz6⟩ := (And.left hHeld).there 6 (by omega)
  go_simp
  refine hK.out _ _ (HKR.out _ ((And.left hHeld).set HNE.out.1 HNE.out.2 6 _)) (fun hHeld => ?_)
  clear hK K
  (try simp only [Act.put])
  refine wpAnyH_done (by kernel_rfl) ?_ _
  refine NoPanic.normal ?_
  have hkf := ((HK4.out.drew.set1 HNE.out.1 HNE.out.2 1 (.int .i64 (p.id % 65536))).set1 HNE.out.1 HNE.out.2 4 (.int .i64 p.pl)).set1 HNE.out.1 HNE.out.2 6 (.bool p.more)
  rw [HE1.out, HE2.out, HE3.out] at hkf
  have HK5 : Hid (Kp w w.heap.size [(g3, 25, V3), (w.heap.size + 1 + 1 + 1, 25, Z), (w.heap.size + 1 + 1, 23, VT), (w.heap.size + 1, 23, VF), (w.heap.size, 35, VP)] ((((w4.setCell ⟨g3, 1, none⟩ (.int .i64 (p.id % 65536))).setCell ⟨g3, 4, none⟩ (.int .i64 p.pl)).setCell ⟨g3, 6, none⟩ (.bool p.more)).drew)) := Lib.hid hkf
  clear hkf hHeld HK4 kid kand hu1 hz1 hu4 hz4 hu6 hz6 c37 c38 c39 c36
  generalize (((w4.setCell ⟨g3, 1, none⟩ (.int .i64 (p.id % 65536))).setCell ⟨g3, 4, none⟩ (.int .i64 p.pl)).setCell ⟨g3, 6, none⟩ (.bool p.more)).drew = w5 at *
  have hr0 := HK5.out.hd.range
  have hkc := HK5.out.tl.hd
  have htf : w5.there (w.heap.size + 1 + 1 + 1) 0 V3.toArray.size := hkc.there _ (by have := HL_V3.out; have := HL_Z.out; simp; omega)
  go_wp2_with (((with_reducible (change wpList _ _ _ _ _ _)); (first | (refine wpList_load_mid rfl 25 _ rfl (g3) 0 rfl (V3) _ hr0 Try.underlying25 rfl HI_V3.out ?_) | (refine wpList_store_mid rfl 25 _ _ rfl (w.heap.size + 1 + 1 + 1) 0 V3.toArray rfl rfl htf (by simpa using HI_V3.out) HO_V3.out ?_))))
  have hk5 := Bk.sets V3 0 _ _ hkc
  rw [puts_whole Z.toArray V3 (by have := HL_V3.out; have := HL_Z.out; simp; omega)] at hk5
  refine bodyPost_ret (v := .tuple #[.agg V3.toArray, .nilIface]) ?_ rfl ?_
  · exact results_cell2 rfl rfl rfl (run_loadVar_mid _ (w.heap.size + 1 + 1 + 1) 0 25 V3 _ hk5.range Try.underlying25 rfl HI_V3.out)
  · exact ⟨rfl, below_sets _ (by omega) 0 _ HK5.out.2.1⟩
end Go.Proofs.Ytkihhmnlefekoaa
