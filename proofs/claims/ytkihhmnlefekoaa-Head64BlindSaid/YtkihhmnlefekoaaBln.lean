/-
  Proved here: what the law Head64Blind makes of a packet, plainly; that it answers true of what is great.
  Conditions: none.
-/
import Derived.Test.YtkihhmnlefekoaaLDoes64
import Derived.Test.YtkihhmnlefekoaaFits64
import Derived.Test.YtkihhmnlefekoaaSame
namespace Go.Proofs.Ytkihhmnlefekoaa
open Go.RowKit

theorem neqP (p : P4.Pkt) (w : World) : (binOp .neq 25 (.agg p.vals.toArray) (.agg p.vals.toArray)).run Try.prog w = .ok (.bool false) w := by
  have h := P4.eqlP p w
  rw [run_eql_struct] at h
  rw [run_neq_struct]
  generalize (Op.equalIn 10000 25 (.agg p.vals.toArray) (.agg p.vals.toArray)).run Try.prog w = r at h ⊢
  cases r <;> simp [Result.andThen] at h ⊢
  simp [h]
/-- The packet with another flow, its addresses turned about, and no extensions. -/
def bl1 (p : Pk6) (x : Int) : Pk6 := ⟨p.cls, x, p.hop, p.fr, p.dst, p.exts, p.frag, p.id, p.pl, p.more, p.proto, p.data, p.hfr, p.hdst⟩
def bl2 (p : Pk6) (x : Int) : Pk6 := ⟨p.cls, x, p.hop, p.dst, p.dst, p.exts, p.frag, p.id, p.pl, p.more, p.proto, p.data, p.hdst, p.hdst⟩
def bl3 (p : Pk6) (x : Int) : Pk6 := ⟨p.cls, x, p.hop, p.dst, p.fr, p.exts, p.frag, p.id, p.pl, p.more, p.proto, p.data, p.hdst, p.hfr⟩
def bl4 (p : Pk6) (x : Int) : Pk6 := ⟨p.cls, x, p.hop, p.dst, p.fr, [], p.frag, p.id, p.pl, p.more, p.proto, p.data, p.hdst, p.hfr⟩
theorem bl3_code (p : Pk6) (x y : Int) : hcode64 (bl3 p x) y = hcode64 p y := rfl
theorem hcode64_id {p : Pk6} {x y : Int} (hx : 0 ≤ x ∧ x ≤ 65535) (hy : 0 ≤ y ∧ y ≤ 65535) : hcode64 p x = hcode64 p y := by
  unfold hcode64
  have e : (p.hop < 2 ∨ 255 < p.hop ∨ p.cls < 0 ∨ 255 < p.cls ∨ x < 0 ∨ 65535 < x) = (p.hop < 2 ∨ 255 < p.hop ∨ p.cls < 0 ∨ 255 < p.cls ∨ y < 0 ∨ 65535 < y) := propext (by omega)
  simp only [e]
theorem bl4_code {p : Pk6} {x y : Int} (h : hcode64 p y = 0) : hcode64 (bl4 p x) y = 0 := by
  obtain ⟨a0, a1, a2, a3, a4, a5, a6, _, a8, a9⟩ := hcode64_ok h
  have e : hcode64 (bl4 p x) y = (if p.hop < 2 ∨ 255 < p.hop ∨ p.cls < 0 ∨ 255 < p.cls ∨ y < 0 ∨ 65535 < y then 13 else if prOk64 p.proto = false ∨ rtd [] = true then 10 else if 65535 < p.pl ∨ 65535 < p.pl + 20 + (p.data.size : Int) then 3 else 0) := rfl
  rw [e, if_neg (show ¬ (p.hop < 2 ∨ 255 < p.hop ∨ p.cls < 0 ∨ 255 < p.cls ∨ y < 0 ∨ 65535 < y) by omega), if_neg (show ¬ (prOk64 p.proto = false ∨ rtd [] = true) by rw [a6]; decide), if_neg (show ¬ (65535 < p.pl ∨ 65535 < p.pl + 20 + (p.data.size : Int)) by omega)]
theorem bl_vals1 (p : Pk6) (v : Value) (x : Int) : (p.vals v).set 1 (.int .i64 x) = (bl1 p x).vals v := rfl
theorem bl_vals2 (p : Pk6) (v : Value) (x : Int) : puts ((bl1 p x).vals v).toArray 3 (bytV p.dst) = ((bl2 p x).vals v).toArray := vputs_fr _ _ p.dst p.hdst
theorem bl_vals3 (p : Pk6) (v : Value) (x : Int) : puts ((bl2 p x).vals v).toArray 19 (bytV p.fr) = ((bl3 p x).vals v).toArray := vputs_dst _ _ p.fr p.hfr
theorem bl_vals4 (p : Pk6) (v : Value) (x : Int) : ((bl3 p x).vals v).set 35 (.slice none 0 0) = (bl4 p x).vals (.slice none 0 0) := by
  obtain ⟨cls, flow, hop, fr, dst, exts, frag, id, pl, more, proto, data, hfr, hdst⟩ := p
  obtain ⟨x0, x1, x2, x3, x4, x5, x6, x7, x8, x9, x10, x11, x12, x13, x14, x15, rfl⟩ := list16u hfr
  obtain ⟨y0, y1, y2, y3, y4, y5, y6, y7, y8, y9, y10, y11, y12, y13, y14, y15, rfl⟩ := list16u hdst
  rfl
theorem h64_small {p : Pk6} {f0 f1 f2 f3 t0 t1 t2 t3 id : Int} (h : p.small = true) : h64 p f0 f1 f2 f3 t0 t1 t2 t3 id = ⟨p.cls, id, p.hop - 1, pr64 p.proto, 0, false, false, f0, f1, f2, f3, t0, t1, t2, t3, ⟨#[]⟩, p.data⟩ := by
  unfold Pk6.small at h
  rw [Bool.and_eq_true, decide_eq_true_eq] at h
  have hf : p.frag = false := by cases hq : p.frag; rfl; rw [hq] at h; simp at h
  unfold h64
  rw [hf, if_neg (by simp), if_pos (by omega), if_neg (by simp), show decide (1240 < p.data.size) = false by rw [decide_eq_false_iff_not]; omega]
  rfl
theorem h64_other {p : Pk6} {f0 f1 f2 f3 t0 t1 t2 t3 id y : Int} (h : p.small = false) : h64 p f0 f1 f2 f3 t0 t1 t2 t3 id = h64 p f0 f1 f2 f3 t0 t1 t2 t3 y := by
  unfold Pk6.small at h
  unfold h64
  cases hf : p.frag
  · rw [hf] at h
    have hz : ¬ p.data.size ≤ 1240 := by simpa using h
    rw [if_neg (by simp), if_neg hz, if_neg hz]
    rfl
  · rfl
theorem puts_size (vs : List Value) : ∀ (o : Nat) (A : Array Value), (puts A o vs).size = A.size := by
  induction vs with
  | nil => intro o A; rfl
  | cons v r ih => intro o A; show (puts (A.setIfInBounds o v) (o + 1) r).size = _; rw [ih]; simp
theorem Pst.sets {w0 w : World} {B g n : Nat} {T : TypeId} {l : List (Nat × TypeId × List Value)} (h : Pst w0 B l g T n w) (hne : ∀ x ∈ l, x.1 ≠ g) (hB : B ≤ g) (o : Nat) (vs : List Value) : Pst w0 B l g T n (w.setCells g o vs) := by
  obtain ⟨h1, A, h2, h3⟩ := h
  exact ⟨h1.sets hne hB o vs, _, h2.sets vs o _ _, by rw [puts_size]; exact h3⟩
theorem Pst.thereN {w0 w : World} {B g n : Nat} {T : TypeId} {l : List (Nat × TypeId × List Value)} (h : Pst w0 B l g T n w) (o m : Nat) (hm : o + m ≤ n) : w.there g o m := by
  obtain ⟨h1, A, h2, h3⟩ := h
  exact h2.there' o m (by omega)
set_option maxRecDepth 100000 in
set_option maxHeartbeats 4000000 in
theorem blind64_great (p : Pk6) (v : Value) (f0 f1 f2 f3 t0 t1 t2 t3 : Int) (x y flow : Int) (w : World) (hx : Exs w v p.exts) (hq : Rch p) (hg : p.great = true) :
    Calls Try.prog 7 #[.agg (p.vals v).toArray, .agg ([.int .u8 f0, .int .u8 f1, .int .u8 f2, .int .u8 f3] : List Value).toArray, .agg ([.int .u8 t0, .int .u8 t1, .int .u8 t2, .int .u8 t3] : List Value).toArray, .int .u16 x, .int .u16 y, .int .i64 flow] w (fun e w' => e = .returned (.bool true) ∧ Below w.heap.size w w') := by
  have HG : Hid (∀ W, Below w.heap.size w W → Calls Try.prog 14 #[.agg (p.vals v).toArray] W fun e w' => e = .returned (.bool true) ∧ Below W.heap.size W w') := Lib.hid (fun W hW => by rw [← hg]; exact great_any p v W (hx.below hW (Nat.le_refl _)) hq.len hq.data hq.body)
  clear hg
  have HI_VP : Hid ((Try.prog.info? 35).map (·.size) = some (p.vals v).length) := Lib.hid (Try.info6 _ _)
  have HO_VP : Hid ((p.vals v).toArray.all (·.oneCell') = true) := Lib.hid (vals_one _ _ (exs_cell hx))
  have HL_VP : Hid ((p.vals v).length = 42) := Lib.hid (vals_len _ _)
  have HC_VP_0 : Hid ((p.vals v)[0]? = some (.int .i64 p.cls)) := Lib.hid (rfl)
  have HC_VP_2 : Hid ((p.vals v)[2]? = some (.int .i64 p.hop)) := Lib.hid (rfl)
  have HC_VP_35 : Hid ((p.vals v)[35]? = some (v)) := Lib.hid (vals_tail p v 0)
  have HC_VP_36 : Hid ((p.vals v)[36]? = some (.bool p.frag)) := Lib.hid (vals_tail p v 1)
  have HC_VP_37 : Hid ((p.vals v)[37]? = some (.int .u32 p.id)) := Lib.hid (vals_tail p v 2)
  have HC_VP_38 : Hid ((p.vals v)[38]? = some (.int .i64 p.pl)) := Lib.hid (vals_tail p v 3)
  have HC_VP_39 : Hid ((p.vals v)[39]? = some (.bool p.more)) := Lib.hid (vals_tail p v 4)
  have HC_VP_40 : Hid ((p.vals v)[40]? = some (.int .i64 p.proto)) := Lib.hid (vals_tail p v 5)
  have HC_VP_41 : Hid ((p.vals v)[41]? = some (.string p.data)) := Lib.hid (vals_tail p v 6)
  have HI_VF : Hid ((Try.prog.info? 23).map (·.size) = some (([.int .u8 f0, .int .u8 f1, .int .u8 f2, .int .u8 f3] : List Value)).length) := Lib.hid (Try.infoV4c _ _ _ _)
  have HI_VT : Hid ((Try.prog.info? 23).map (·.size) = some (([.int .u8 t0, .int .u8 t1, .int .u8 t2, .int .u8 t3] : List Value)).length) := Lib.hid (Try.infoV4c _ _ _ _)
  have HX := Lib.hid hx
  clear hx
  have HK1 : Hid (Kp w w.heap.size [(w.heap.size + 1 + 1, 23, ([.int .u8 t0, .int .u8 t1, .int .u8 t2, .int .u8 t3] : List Value)), (w.heap.size + 1, 23, ([.int .u8 f0, .int .u8 f1, .int .u8 f2, .int .u8 f3] : List Value)), (w.heap.size, 35, p.vals v)] (((w.alloc (.cells (p.vals v).toArray 35)).alloc (.cells ([.int .u8 f0, .int .u8 f1, .int .u8 f2, .int .u8 f3] : List Value).toArray 23)).alloc (.cells ([.int .u8 t0, .int .u8 t1, .int .u8 t2, .int .u8 t3] : List Value).toArray 23))) := Lib.hid (by
    have h := ((Kp.start w).new 35 (p.vals v)).new 23 ([.int .u8 f0, .int .u8 f1, .int .u8 f2, .int .u8 f3] : List Value)
    have e1 : (w.alloc (.cells (p.vals v).toArray 35)).heap.size = w.heap.size + 1 := by simp
    have e2 : ((w.alloc (.cells (p.vals v).toArray 35)).alloc (.cells ([.int .u8 f0, .int .u8 f1, .int .u8 f2, .int .u8 f3] : List Value).toArray 23)).heap.size = w.heap.size + 1 + 1 := by simp
    rw [e1] at h
    have h2 := h.new 23 ([.int .u8 t0, .int .u8 t1, .int .u8 t2, .int .u8 t3] : List Value)
    rwa [e2] at h2)
  generalize p.vals v = VP at *
  generalize ([.int .u8 f0, .int .u8 f1, .int .u8 f2, .int .u8 f3] : List Value) = VF at *
  generalize ([.int .u8 t0, .int .u8 t1, .int .u8 t2, .int .u8 t3] : List Value) = VT at *
  generalize hw1 : ((w.alloc (.cells VP.toArray 35)).alloc (.cells VF.toArray 23)).alloc (.cells VT.toArray 23) = w1 at *
  go_enter Try.func7, Try.ntmps7
  go_upto_region 1 with (fail)
  clear hw1
  go_wp2_with (fail)
  refine (awake64_true _).mono ?_
  rintro e w2 ⟨rfl, bb⟩
  have HK2 := Lib.hid (HK1.out.below bb (Nat.le_refl _))
  clear bb HK1
  have hr0 := HK2.out.tl.tl.hd.range
  go_wp2_with (((with_reducible (change wpList _ _ _ _ _ _)); ((refine wpList_load_mid rfl 35 _ rfl (w.heap.size) 0 rfl (VP) _ hr0 Try.underlying35 rfl HI_VP.out ?_))))
  clear hr0
  refine (HG.out _ HK2.out.2.1).mono ?_
  rintro e w3 ⟨rfl, bb⟩
  have HK3 := Lib.hid (HK2.out.below bb (Nat.le_refl _))
  clear bb HK2
  go_wp2_with (fail)
  go_ret
  exact ⟨rfl, HK3.out.2.1⟩
end Go.Proofs.Ytkihhmnlefekoaa
