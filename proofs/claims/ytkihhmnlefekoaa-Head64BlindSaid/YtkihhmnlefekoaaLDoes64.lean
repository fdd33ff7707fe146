/-
  Proved here: the law Head64Does answers true.
  Conditions: none.
-/
import Derived.Test.YtkihhmnlefekoaaAwk64
import Derived.Test.YtkihhmnlefekoaaGreat64
namespace Go.Proofs.Ytkihhmnlefekoaa
open Go.RowKit

theorem four_of {l : List Int} (h : l.length = 4) : ∃ y0 y1 y2 y3 : Int, l = [y0, y1, y2, y3] := by
  match l, h with
  | [a, b, c, d], _ => exact ⟨a, b, c, d, rfl⟩
/-- What the form's own reach gives of a packet. -/
structure Rch (p : Pk6) : Prop where
  len : p.exts.length ≤ 281474976710656
  data : p.data.size ≤ 281474976710656
  body : ∀ e ∈ p.exts, e.2.size ≤ 281474976710656
  id : 0 ≤ p.id ∧ p.id < 4294967296
set_option maxRecDepth 100000 in
set_option maxHeartbeats 4000000 in
theorem does64_great (p : Pk6) (v : Value) (f0 f1 f2 f3 t0 t1 t2 t3 : Int) (id n : Int) (w : World) (hx : Exs w v p.exts) (hq : Rch p) (hg : p.great = true) :
    Calls Try.prog 4 #[.agg (p.vals v).toArray, .agg ([.int .u8 f0, .int .u8 f1, .int .u8 f2, .int .u8 f3] : List Value).toArray, .agg ([.int .u8 t0, .int .u8 t1, .int .u8 t2, .int .u8 t3] : List Value).toArray, .int .i64 id, .int .i64 n] w (fun e w' => e = .returned (.bool true) ∧ Below w.heap.size w w') := by
  have HG : Hid (∀ W, Below w.heap.size w W → Calls Try.prog 14 #[.agg (p.vals v).toArray] W fun e w' => e = .returned (.bool true) ∧ Below W.heap.size W w') := Lib.hid (fun W hW => by rw [← hg]; exact great_any p v W (hx.below hW (Nat.le_refl _)) hq.len hq.data hq.body)
  clear hg
  have HI_VP : Hid ((Try.prog.info? 35).map (·.size) = some (p.vals v).length) := Lib.hid (Try.info6 _ _)
  have HO_VP : Hid ((p.vals v).toArray.all (·.oneCell') = true) := Lib.hid (vals_one _ _ (exs_cell hx))
  have HL_VP : Hid ((p.vals v).length = 42) := Lib.hid (vals_len _ _)
  have HC_VP_0 : Hid ((p.vals v)[0]? = some (.int .i64 p.cls)) := Lib.hid (rfl)
  have HC_VP_2 : Hid ((p.vals v)[2]? = some (.int .i64 p.hop)) := Lib.hid (rfl)
  have HC_VP_35 : Hid ((p.vals v)[35]? = some (v)) := Lib.hid (vals_tail p v 0)
  have HC_VP_36 : Hid ((p.vals v)[36]? = some (.bool p.frag)) := Lib.hid (vals_tail p v 1)
  have HC_VP_37 : Hid ((p.vals v)[37]? = some (.int .u32 p.id)) := Lib.hid (vals_tail p v 2)
  have HC_VP_38 : Hid ((p.vals v)[38]? = some (.int .i64 p.pl)) := Lib.hid (vals_tail p v 3)
  have HC_VP_39 : Hid ((p.vals v)[39]? = some (.bool p.more)) := Lib.hid (vals_tail p v 4)
  have HC_VP_40 : Hid ((p.vals v)[40]? = some (.int .i64 p.proto)) := Lib.hid (vals_tail p v 5)
  have HC_VP_41 : Hid ((p.vals v)[41]? = some (.string p.data)) := Lib.hid (vals_tail p v 6)
  have HI_VF : Hid ((Try.prog.info? 23).map (·.size) = some (([.int .u8 f0, .int .u8 f1, .int .u8 f2, .int .u8 f3] : List Value)).length) := Lib.hid (Try.infoV4c _ _ _ _)
  have HI_VT : Hid ((Try.prog.info? 23).map (·.size) = some (([.int .u8 t0, .int .u8 t1, .int .u8 t2, .int .u8 t3] : List Value)).length) := Lib.hid (Try.infoV4c _ _ _ _)
  have HX := Lib.hid hx
  clear hx
  have HK1 : Hid (Kp w w.heap.size [(w.heap.size + 1 + 1, 23, ([.int .u8 t0, .int .u8 t1, .int .u8 t2, .int .u8 t3] : List Value)), (w.heap.size + 1, 23, ([.int .u8 f0, .int .u8 f1, .int .u8 f2, .int .u8 f3] : List Value)), (w.heap.size, 35, p.vals v)] (((w.alloc (.cells (p.vals v).toArray 35)).alloc (.cells ([.int .u8 f0, .int .u8 f1, .int .u8 f2, .int .u8 f3] : List Value).toArray 23)).alloc (.cells ([.int .u8 t0, .int .u8 t1, .int .u8 t2, .int .u8 t3] : List Value).toArray 23))) := Lib.hid (by
    have h := ((Kp.start w).new 35 (p.vals v)).new 23 ([.int .u8 f0, .int .u8 f1, .int .u8 f2, .int .u8 f3] : List Value)
    have e1 : (w.alloc (.cells (p.vals v).toArray 35)).heap.size = w.heap.size + 1 := by simp
    have e2 : ((w.alloc (.cells (p.vals v).toArray 35)).alloc (.cells ([.int .u8 f0, .int .u8 f1, .int .u8 f2, .int .u8 f3] : List Value).toArray 23)).heap.size = w.heap.size + 1 + 1 := by simp
    rw [e1] at h
    have h2 := h.new 23 ([.int .u8 t0, .int .u8 t1, .int .u8 t2, .int .u8 t3] : List Value)
    rwa [e2] at h2)
  generalize p.vals v = VP at *
  generalize ([.int .u8 f0, .int .u8 f1, .int .u8 f2, .int .u8 f3] : List Value) = VF at *
  generalize ([.int .u8 t0, .int .u8 t1, .int .u8 t2, .int .u8 t3] : List Value) = VT at *
  generalize hw1 : ((w.alloc (.cells VP.toArray 35)).alloc (.cells VF.toArray 23)).alloc (.cells VT.toArray 23) = w1 at *
  go_enter Try.func4, Try.ntmps4
  go_upto_region 1 with (fail)
  clear hw1
  go_wp2_with (fail)
  refine (awake64_true _).mono ?_
  rintro e w2 ⟨rfl, bb⟩
  have HK2 := Lib.hid (HK1.out.below bb (Nat.le_refl _))
  clear bb HK1
  have hr0 := HK2.out.tl.tl.hd.range
  go_wp2_with (((with_reducible (change wpList _ _ _ _ _ _)); ((refine wpList_load_mid rfl 35 _ rfl (w.heap.size) 0 rfl (VP) _ hr0 Try.underlying35 rfl HI_VP.out ?_))))
  clear hr0
  refine (HG.out _ HK2.out.2.1).mono ?_
  rintro e w3 ⟨rfl, bb⟩
  have HK3 := Lib.hid (HK2.out.below bb (Nat.le_refl _))
  clear bb HK2
  go_wp2_with (fail)
  go_ret
  exact ⟨rfl, HK3.out.2.1⟩
set_option maxRecDepth 100000 in
set_option maxHeartbeats 4000000 in
theorem does64_neg (p : Pk6) (v : Value) (f0 f1 f2 f3 t0 t1 t2 t3 : Int) (id n : Int) (w : World) (hx : Exs w v p.exts) (hq : Rch p) (hg : p.great = false) (hp : p.pl < 0) :
    Calls Try.prog 4 #[.agg (p.vals v).toArray, .agg ([.int .u8 f0, .int .u8 f1, .int .u8 f2, .int .u8 f3] : List Value).toArray, .agg ([.int .u8 t0, .int .u8 t1, .int .u8 t2, .int .u8 t3] : List Value).toArray, .int .i64 id, .int .i64 n] w (fun e w' => e = .returned (.bool true) ∧ Below w.heap.size w w') := by
  have HG : Hid (∀ W, Below w.heap.size w W → Calls Try.prog 14 #[.agg (p.vals v).toArray] W fun e w' => e = .returned (.bool false) ∧ Below W.heap.size W w') := Lib.hid (fun W hW => by rw [← hg]; exact great_any p v W (hx.below hW (Nat.le_refl _)) hq.len hq.data hq.body)
  clear hg
  have HI_VP : Hid ((Try.prog.info? 35).map (·.size) = some (p.vals v).length) := Lib.hid (Try.info6 _ _)
  have HO_VP : Hid ((p.vals v).toArray.all (·.oneCell') = true) := Lib.hid (vals_one _ _ (exs_cell hx))
  have HL_VP : Hid ((p.vals v).length = 42) := Lib.hid (vals_len _ _)
  have HC_VP_0 : Hid ((p.vals v)[0]? = some (.int .i64 p.cls)) := Lib.hid (rfl)
  have HC_VP_2 : Hid ((p.vals v)[2]? = some (.int .i64 p.hop)) := Lib.hid (rfl)
  have HC_VP_35 : Hid ((p.vals v)[35]? = some (v)) := Lib.hid (vals_tail p v 0)
  have HC_VP_36 : Hid ((p.vals v)[36]? = some (.bool p.frag)) := Lib.hid (vals_tail p v 1)
  have HC_VP_37 : Hid ((p.vals v)[37]? = some (.int .u32 p.id)) := Lib.hid (vals_tail p v 2)
  have HC_VP_38 : Hid ((p.vals v)[38]? = some (.int .i64 p.pl)) := Lib.hid (vals_tail p v 3)
  have HC_VP_39 : Hid ((p.vals v)[39]? = some (.bool p.more)) := Lib.hid (vals_tail p v 4)
  have HC_VP_40 : Hid ((p.vals v)[40]? = some (.int .i64 p.proto)) := Lib.hid (vals_tail p v 5)
  have HC_VP_41 : Hid ((p.vals v)[41]? = some (.string p.data)) := Lib.hid (vals_tail p v 6)
  have HI_VF : Hid ((Try.prog.info? 23).map (·.size) = some (([.int .u8 f0, .int .u8 f1, .int .u8 f2, .int .u8 f3] : List Value)).length) := Lib.hid (Try.infoV4c _ _ _ _)
  have HI_VT : Hid ((Try.prog.info? 23).map (·.size) = some (([.int .u8 t0, .int .u8 t1, .int .u8 t2, .int .u8 t3] : List Value)).length) := Lib.hid (Try.infoV4c _ _ _ _)
  have HX := Lib.hid hx
  clear hx
  have HK1 : Hid (Kp w w.heap.size [(w.heap.size + 1 + 1, 23, ([.int .u8 t0, .int .u8 t1, .int .u8 t2, .int .u8 t3] : List Value)), (w.heap.size + 1, 23, ([.int .u8 f0, .int .u8 f1, .int .u8 f2, .int .u8 f3] : List Value)), (w.heap.size, 35, p.vals v)] (((w.alloc (.cells (p.vals v).toArray 35)).alloc (.cells ([.int .u8 f0, .int .u8 f1, .int .u8 f2, .int .u8 f3] : List Value).toArray 23)).alloc (.cells ([.int .u8 t0, .int .u8 t1, .int .u8 t2, .int .u8 t3] : List Value).toArray 23))) := Lib.hid (by
    have h := ((Kp.start w).new 35 (p.vals v)).new 23 ([.int .u8 f0, .int .u8 f1, .int .u8 f2, .int .u8 f3] : List Value)
    have e1 : (w.alloc (.cells (p.vals v).toArray 35)).heap.size = w.heap.size + 1 := by simp
    have e2 : ((w.alloc (.cells (p.vals v).toArray 35)).alloc (.cells ([.int .u8 f0, .int .u8 f1, .int .u8 f2, .int .u8 f3] : List Value).toArray 23)).heap.size = w.heap.size + 1 + 1 := by simp
    rw [e1] at h
    have h2 := h.new 23 ([.int .u8 t0, .int .u8 t1, .int .u8 t2, .int .u8 t3] : List Value)
    rwa [e2] at h2)
  generalize p.vals v = VP at *
  generalize ([.int .u8 f0, .int .u8 f1, .int .u8 f2, .int .u8 f3] : List Value) = VF at *
  generalize ([.int .u8 t0, .int .u8 t1, .int .u8 t2, .int .u8 t3] : List Value) = VT at *
  generalize hw1 : ((w.alloc (.cells VP.toArray 35)).alloc (.cells VF.toArray 23)).alloc (.cells VT.toArray 23) = w1 at *
  go_enter Try.func4, Try.ntmps4
  go_upto_region 1 with (fail)
  clear hw1
  go_wp2_with (fail)
  refine (awake64_true _).mono ?_
  rintro e w2 ⟨rfl, bb⟩
  have HK2 := Lib.hid (HK1.out.below bb (Nat.le_refl _))
  clear bb HK1
  have hr0 := HK2.out.tl.tl.hd.range
  go_wp2_with (((with_reducible (change wpList _ _ _ _ _ _)); ((refine wpList_load_mid rfl 35 _ rfl (w.heap.size) 0 rfl (VP) _ hr0 Try.underlying35 rfl HI_VP.out ?_))))
  clear hr0
  refine (HG.out _ HK2.out.2.1).mono ?_
  rintro e w3 ⟨rfl, bb⟩
  have HK3 := Lib.hid (HK2.out.below bb (Nat.le_refl _))
  clear bb HK2
  have c38 : w3.cell? ⟨w.heap.size, 38, none⟩ = some (.int .i64 p.pl) := HK3.out.tl.tl.hd.at HC_VP_38.out
  go_wp2_with (fail)
  go_ret
  exact ⟨rfl, HK3.out.2.1⟩
set_option maxRecDepth 100000 in
set_option maxHeartbeats 4000000 in
theorem does64_main (p : Pk6) (v : Value) (f0 f1 f2 f3 t0 t1 t2 t3 : Int) (id n : Int) (w : World) (hx : Exs w v p.exts) (hq : Rch p) (hg : p.great = false) (hp : ¬ p.pl < 0) :
    Calls Try.prog 4 #[.agg (p.vals v).toArray, .agg ([.int .u8 f0, .int .u8 f1, .int .u8 f2, .int .u8 f3] : List Value).toArray, .agg ([.int .u8 t0, .int .u8 t1, .int .u8 t2, .int .u8 t3] : List Value).toArray, .int .i64 id, .int .i64 n] w (fun e w' => e = .returned (.bool true) ∧ Below w.heap.size w w') := by
  have hn := great_no hg
  have HG : Hid (∀ W, Below w.heap.size w W → Calls Try.prog 14 #[.agg (p.vals v).toArray] W fun e w' => e = .returned (.bool false) ∧ Below W.heap.size W w') := Lib.hid (fun W hW => by rw [← hg]; exact great_any p v W (hx.below hW (Nat.le_refl _)) hq.len hq.data hq.body)
  obtain ⟨VQ, hVQ⟩ : ∃ V, V = (hout64 p f0 f1 f2 f3 t0 t1 t2 t3 id).vals := ⟨_, rfl⟩
  have CH : Hid (∀ W, Below w.heap.size w W → Calls Try.prog 9 #[.agg (p.vals v).toArray, .agg ([.int .u8 f0, .int .u8 f1, .int .u8 f2, .int .u8 f3] : List Value).toArray, .agg ([.int .u8 t0, .int .u8 t1, .int .u8 t2, .int .u8 t3] : List Value).toArray, .int .i64 id] W fun e w' => ∃ x, e = .returned (.tuple #[.agg VQ.toArray, x]) ∧ ErrV W.heap.size (hcode64 p id) x w' ∧ Below W.heap.size W w') := Lib.hid (fun W hW => by rw [hVQ]; exact head64_any p v f0 f1 f2 f3 t0 t1 t2 t3 id W (hx.below hW (Nat.le_refl _)) (by omega) (by omega))
  have CR : Hid (∀ W, Below w.heap.size w W → Calls Try.prog 15 #[.agg (p.vals v).toArray, .agg ([.int .u8 f0, .int .u8 f1, .int .u8 f2, .int .u8 f3] : List Value).toArray, .agg ([.int .u8 t0, .int .u8 t1, .int .u8 t2, .int .u8 t3] : List Value).toArray, .int .i64 id] W fun e w' => e = .returned (.tuple #[.agg VQ.toArray, .int .i64 (hcode64 p id)]) ∧ Below W.heap.size W w') := Lib.hid (fun W hW => by rw [hVQ]; exact rhead64_any p v f0 f1 f2 f3 t0 t1 t2 t3 id W (hx.below hW (Nat.le_refl _)) (by omega) (by omega) (by omega) hq.id)
  have HWa := Lib.hid (fun W => wants64_any p v W)
  have HWb := Lib.hid (fun W => rwants64_any p v W)
  generalize p.small = sm at *
  have CP := Lib.hid (fun W => proto64_any n W)
  have CQ := Lib.hid (fun W => rproto64_any n W)
  generalize pr64 n = pn at *
  generalize prOk64 n = ok at *
  generalize hcode64 p id = c at *
  have HI_VQ : Hid ((Try.prog.info? 25).map (·.size) = some VQ.length) := Lib.hid (by rw [hVQ]; exact P4.Try.infoIp _)
  have HO_VQ : Hid ((VQ).toArray.all (·.oneCell') = true) := Lib.hid (by rw [hVQ]; exact P4.vals_one _)
  have HL_VQ : Hid (VQ.length = 17) := Lib.hid (by rw [hVQ]; rfl)
  have HEV_VQ : Hid (∀ W, (binOp .eql 25 (.agg VQ.toArray) (.agg VQ.toArray)).run Try.prog W = .ok (.bool true) W) := Lib.hid (fun W => by rw [hVQ]; exact P4.eqlP (hout64 p f0 f1 f2 f3 t0 t1 t2 t3 id) W)
  clear hVQ hg hn
  have HI_VP : Hid ((Try.prog.info? 35).map (·.size) = some (p.vals v).length) := Lib.hid (Try.info6 _ _)
  have HO_VP : Hid ((p.vals v).toArray.all (·.oneCell') = true) := Lib.hid (vals_one _ _ (exs_cell hx))
  have HL_VP : Hid ((p.vals v).length = 42) := Lib.hid (vals_len _ _)
  have HC_VP_0 : Hid ((p.vals v)[0]? = some (.int .i64 p.cls)) := Lib.hid (rfl)
  have HC_VP_2 : Hid ((p.vals v)[2]? = some (.int .i64 p.hop)) := Lib.hid (rfl)
  have HC_VP_35 : Hid ((p.vals v)[35]? = some (v)) := Lib.hid (vals_tail p v 0)
  have HC_VP_36 : Hid ((p.vals v)[36]? = some (.bool p.frag)) := Lib.hid (vals_tail p v 1)
  have HC_VP_37 : Hid ((p.vals v)[37]? = some (.int .u32 p.id)) := Lib.hid (vals_tail p v 2)
  have HC_VP_38 : Hid ((p.vals v)[38]? = some (.int .i64 p.pl)) := Lib.hid (vals_tail p v 3)
  have HC_VP_39 : Hid ((p.vals v)[39]? = some (.bool p.more)) := Lib.hid (vals_tail p v 4)
  have HC_VP_40 : Hid ((p.vals v)[40]? = some (.int .i64 p.proto)) := Lib.hid (vals_tail p v 5)
  have HC_VP_41 : Hid ((p.vals v)[41]? = some (.string p.data)) := Lib.hid (vals_tail p v 6)
  have HI_VF : Hid ((Try.prog.info? 23).map (·.size) = some (([.int .u8 f0, .int .u8 f1, .int .u8 f2, .int .u8 f3] : List Value)).length) := Lib.hid (Try.infoV4c _ _ _ _)
  have HI_VT : Hid ((Try.prog.info? 23).map (·.size) = some (([.int .u8 t0, .int .u8 t1, .int .u8 t2, .int .u8 t3] : List Value)).length) := Lib.hid (Try.infoV4c _ _ _ _)
  have HX := Lib.hid hx
  clear hx
  have HK1 : Hid (Kp w w.heap.size [(w.heap.size + 1 + 1, 23, ([.int .u8 t0, .int .u8 t1, .int .u8 t2, .int .u8 t3] : List Value)), (w.heap.size + 1, 23, ([.int .u8 f0, .int .u8 f1, .int .u8 f2, .int .u8 f3] : List Value)), (w.heap.size, 35, p.vals v)] (((w.alloc (.cells (p.vals v).toArray 35)).alloc (.cells ([.int .u8 f0, .int .u8 f1, .int .u8 f2, .int .u8 f3] : List Value).toArray 23)).alloc (.cells ([.int .u8 t0, .int .u8 t1, .int .u8 t2, .int .u8 t3] : List Value).toArray 23))) := Lib.hid (by
    have h := ((Kp.start w).new 35 (p.vals v)).new 23 ([.int .u8 f0, .int .u8 f1, .int .u8 f2, .int .u8 f3] : List Value)
    have e1 : (w.alloc (.cells (p.vals v).toArray 35)).heap.size = w.heap.size + 1 := by simp
    have e2 : ((w.alloc (.cells (p.vals v).toArray 35)).alloc (.cells ([.int .u8 f0, .int .u8 f1, .int .u8 f2, .int .u8 f3] : List Value).toArray 23)).heap.size = w.heap.size + 1 + 1 := by simp
    rw [e1] at h
    have h2 := h.new 23 ([.int .u8 t0, .int .u8 t1, .int .u8 t2, .int .u8 t3] : List Value)
    rwa [e2] at h2)
  generalize p.vals v = VP at *
  generalize ([.int .u8 f0, .int .u8 f1, .int .u8 f2, .int .u8 f3] : List Value) = VF at *
  generalize ([.int .u8 t0, .int .u8 t1, .int .u8 t2, .int .u8 t3] : List Value) = VT at *
  generalize hw1 : ((w.alloc (.cells VP.toArray 35)).alloc (.cells VF.toArray 23)).alloc (.cells VT.toArray 23) = w1 at *
  go_enter Try.func4, Try.ntmps4
  go_upto_region 1 with (fail)
  clear hw1
  go_wp2_with (fail)
  refine (awake64_true _).mono ?_
  rintro e w2 ⟨rfl, bb⟩
  have HK2 := Lib.hid (HK1.out.below bb (Nat.le_refl _))
  clear bb HK1
  have hr0 := HK2.out.tl.tl.hd.range
  go_wp2_with (((with_reducible (change wpList _ _ _ _ _ _)); ((refine wpList_load_mid rfl 35 _ rfl (w.heap.size) 0 rfl (VP) _ hr0 Try.underlying35 rfl HI_VP.out ?_))))
  clear hr0
  refine (HG.out _ HK2.out.2.1).mono ?_
  rintro e w3 ⟨rfl, bb⟩
  have HK3 := Lib.hid (HK2.out.below bb (Nat.le_refl _))
  clear bb HK2
  have c38 : w3.cell? ⟨w.heap.size, 38, none⟩ = some (.int .i64 p.pl) := HK3.out.tl.tl.hd.at HC_VP_38.out
  go_upto_region 5 with (fail)
  clear c38
  have hr0 := HK3.out.tl.tl.hd.range
  have hr1 := HK3.out.tl.hd.range
  have hr2 := HK3.out.hd.range
  go_wp2_with (((with_reducible (change wpList _ _ _ _ _ _)); (first | (refine wpList_load_mid rfl 35 _ rfl (w.heap.size) 0 rfl (VP) _ hr0 Try.underlying35 rfl HI_VP.out ?_) | (refine wpList_load_mid rfl 23 _ rfl (w.heap.size + 1) 0 rfl (VF) _ hr1 Try.underlying23 rfl HI_VF.out ?_) | (refine wpList_load_mid rfl 23 _ rfl (w.heap.size + 1 + 1) 0 rfl (VT) _ hr2 Try.underlying23 rfl HI_VT.out ?_))))
  clear hr0 hr1 hr2
  refine (CH.out _ HK3.out.2.1).mono ?_
  rintro e w4 ⟨x, rfl, her, bb⟩
  have HK4 := Lib.hid (HK3.out.below bb (Nat.le_refl _))
  clear bb HK3
  have HE4 := Lib.hid her
  clear her
  have hbp := below_sets VQ (Nat.le_refl w4.heap.size) 0 _ ((Below.refl w4.heap.size w4).alloc (Nat.le_refl _) (.cells ([.int .i64 0, .int .i64 0, .int .i64 0, .int .i64 0, .int .i64 0, .bool false, .bool false, .int .u8 0, .int .u8 0, .int .u8 0, .int .u8 0, .int .u8 0, .int .u8 0, .int .u8 0, .int .u8 0, .string ⟨#[]⟩, .string ⟨#[]⟩] : List Value).toArray 25))
  have HE5 := Lib.hid (HE4.out.below hbp (Nat.le_refl _))
  clear hbp HE4
  have ht := (bk_new w4 25 ([.int .i64 0, .int .i64 0, .int .i64 0, .int .i64 0, .int .i64 0, .bool false, .bool false, .int .u8 0, .int .u8 0, .int .u8 0, .int .u8 0, .int .u8 0, .int .u8 0, .int .u8 0, .int .u8 0, .string ⟨#[]⟩, .string ⟨#[]⟩] : List Value).toArray).there VQ.toArray.size (by have := HL_VQ.out; simp; omega)
  go_upto_region 6 with (((with_reducible (change wpList _ _ _ _ _ _)); ((refine wpList_store_mid rfl 25 _ _ rfl (w4.heap.size) 0 VQ.toArray rfl rfl ht (by simpa using HI_VQ.out) HO_VQ.out ?_))))
  have HK5 := Lib.hid (HK4.out.put 25 ([.int .i64 0, .int .i64 0, .int .i64 0, .int .i64 0, .int .i64 0, .bool false, .bool false, .int .u8 0, .int .u8 0, .int .u8 0, .int .u8 0, .int .u8 0, .int .u8 0, .int .u8 0, .int .u8 0, .string ⟨#[]⟩, .string ⟨#[]⟩] : List Value).toArray VQ (by have := HL_VQ.out; simp; omega))
  clear ht HK4
  generalize (w4.alloc (.cells ([.int .i64 0, .int .i64 0, .int .i64 0, .int .i64 0, .int .i64 0, .bool false, .bool false, .int .u8 0, .int .u8 0, .int .u8 0, .int .u8 0, .int .u8 0, .int .u8 0, .int .u8 0, .int .u8 0, .string ⟨#[]⟩, .string ⟨#[]⟩] : List Value).toArray 25)).setCells w4.heap.size 0 VQ = w5 at *
  generalize w4.heap.size = g7 at *
  have hr0 := HK5.out.tl.tl.tl.hd.range
  have hr1 := HK5.out.tl.tl.hd.range
  have hr2 := HK5.out.tl.hd.range
  go_wp2_with (((with_reducible (change wpList _ _ _ _ _ _)); (first | (refine wpList_load_mid rfl 35 _ rfl (w.heap.size) 0 rfl (VP) _ hr0 Try.underlying35 rfl HI_VP.out ?_) | (refine wpList_load_mid rfl 23 _ rfl (w.heap.size + 1) 0 rfl (VF) _ hr1 Try.underlying23 rfl HI_VF.out ?_) | (refine wpList_load_mid rfl 23 _ rfl (w.heap.size + 1 + 1) 0 rfl (VT) _ hr2 Try.underlying23 rfl HI_VT.out ?_))))
  clear hr0 hr1 hr2
  refine (CR.out _ HK5.out.2.1).mono ?_
  rintro e w6 ⟨rfl, bb⟩
  have HK6 := Lib.hid (HK5.out.below bb (Nat.le_refl _))
  have HE6 := Lib.hid (HE5.out.below bb (Nat.le_refl _))
  clear bb HK5 HE5
  have hbp := below_sets VQ (Nat.le_refl w6.heap.size) 0 _ ((Below.refl w6.heap.size w6).alloc (Nat.le_refl _) (.cells ([.int .i64 0, .int .i64 0, .int .i64 0, .int .i64 0, .int .i64 0, .bool false, .bool false, .int .u8 0, .int .u8 0, .int .u8 0, .int .u8 0, .int .u8 0, .int .u8 0, .int .u8 0, .int .u8 0, .string ⟨#[]⟩, .string ⟨#[]⟩] : List Value).toArray 25))
  have HE7 := Lib.hid (HE6.out.below hbp (Nat.le_refl _))
  clear hbp HE6
  have ht := (bk_new w6 25 ([.int .i64 0, .int .i64 0, .int .i64 0, .int .i64 0, .int .i64 0, .bool false, .bool false, .int .u8 0, .int .u8 0, .int .u8 0, .int .u8 0, .int .u8 0, .int .u8 0, .int .u8 0, .int .u8 0, .string ⟨#[]⟩, .string ⟨#[]⟩] : List Value).toArray).there VQ.toArray.size (by have := HL_VQ.out; simp; omega)
  go_upto_region 7 with (((with_reducible (change wpList _ _ _ _ _ _)); ((refine wpList_store_mid rfl 25 _ _ rfl (w6.heap.size) 0 VQ.toArray rfl rfl ht (by simpa using HI_VQ.out) HO_VQ.out ?_))))
  have HK7 := Lib.hid (HK6.out.put 25 ([.int .i64 0, .int .i64 0, .int .i64 0, .int .i64 0, .int .i64 0, .bool false, .bool false, .int .u8 0, .int .u8 0, .int .u8 0, .int .u8 0, .int .u8 0, .int .u8 0, .int .u8 0, .int .u8 0, .string ⟨#[]⟩, .string ⟨#[]⟩] : List Value).toArray VQ (by have := HL_VQ.out; simp; omega))
  clear ht HK6
  generalize (w6.alloc (.cells ([.int .i64 0, .int .i64 0, .int .i64 0, .int .i64 0, .int .i64 0, .bool false, .bool false, .int .u8 0, .int .u8 0, .int .u8 0, .int .u8 0, .int .u8 0, .int .u8 0, .int .u8 0, .int .u8 0, .string ⟨#[]⟩, .string ⟨#[]⟩] : List Value).toArray 25)).setCells w6.heap.size 0 VQ = w7 at *
  generalize w6.heap.size = g8 at *
  go_wp2_with (fail)
  refine (CP.out _).mono ?_
  rintro e w99 ⟨rfl, rfl⟩
  go_wp2_with (fail)
  refine (CQ.out _).mono ?_
  rintro e w99 ⟨rfl, rfl⟩
  go_upto_region 9 with (fail)
  have heq := HEV_VQ.out
  refine wp_region_noPanic ?_
  refine wp_region_held_drew (S := fun w' => Kp w w.heap.size [(g8, 25, VQ), (g7, 25, VQ), (w.heap.size + 1 + 1, 23, VT), (w.heap.size + 1, 23, VF), (w.heap.size, 35, VP)] w' ∧ ErrV w3.heap.size c x w') (by kernel_rfl) (⟨HK7.out.drew, HE7.out⟩) (fun hHeld => ?_)
  refine wpAnyH_take (i := 0) (oi := { dst := some 54, op := Op.load 25 (Operand.tmp 11), type := 25, pos := "law.go:49", after := #[], guard := none }) (v := .agg (VQ).toArray) rfl (by kernel_rfl) (by kernel_rfl) (by kernel_rfl) (fun _ _ _ h => h) (yieldsIf_load_mid (by rfl) _ _ rfl (g7) 0 rfl (VQ) _ (fun ww hSw => (And.left hSw).tl.hd.range) Try.underlying25 rfl HI_VQ.out) (by assumption) ?_
  (try simp only [Act.put, List.setIfInBounds_toArray, List.set_cons_zero, List.set_cons_succ])
  refine wpAnyH_take (i := 1) (oi := { dst := some 55, op := Op.load 25 (Operand.tmp 13), type := 25, pos := "law.go:49", after := #[], guard := none }) (v := .agg (VQ).toArray) rfl (by kernel_rfl) (by kernel_rfl) (by kernel_rfl) (fun _ _ _ h => h) (yieldsIf_load_mid (by rfl) _ _ rfl (g8) 0 rfl (VQ) _ (fun ww hSw => (And.left hSw).hd.range) Try.underlying25 rfl HI_VQ.out) (by assumption) ?_
  (try simp only [Act.put, List.setIfInBounds_toArray, List.set_cons_zero, List.set_cons_succ])
  refine wpAnyH_take (i := 2) (oi := { dst := some 56, op := Op.binOp BinOp.eql 25 (Operand.tmp 54) (Operand.tmp 55) 25, type := 4, pos := "law.go:49", after := #[{ on := 0, ground := Ground.data }, { on := 1, ground := Ground.data }], guard := none }) (v := ?_) rfl (by kernel_rfl) (by kernel_rfl) (by kernel_rfl) (fun _ _ _ h => h) (Or.inl ⟨by rfl, ?_⟩) (by assumption) ?_
  rotate_left
  · (intro ww hSw; (try dsimp only at hSw); go_simp; try with_reducible rfl)
  (try simp only [Act.put, List.setIfInBounds_toArray, List.set_cons_zero, List.set_cons_succ])
  refine wpAnyH_take (i := 3) (oi := { dst := some 57, op := Op.move (Operand.tmp 56), type := 4, pos := "law.go:49", after := #[{ on := 2, ground := Ground.data }], guard := none }) (v := ?_) rfl (by kernel_rfl) (by kernel_rfl) (by kernel_rfl) (fun _ _ _ h => h) (Or.inl ⟨by rfl, ?_⟩) (by assumption) ?_
  rotate_left
  · (intro ww hSw; (try dsimp only at hSw); go_simp; try with_reducible rfl)
  (try simp only [Act.put, List.setIfInBounds_toArray, List.set_cons_zero, List.set_cons_succ])
  refine wpAnyH_take (i := 4) (oi := { dst := some 58, op := Op.move (Operand.tmp 12), type := 27, pos := "law.go:49", after := #[{ on := 3, ground := Ground.guard }], guard := some (3, true) }) (v := ?_) rfl (by kernel_rfl) (by kernel_rfl) (by kernel_rfl) (fun _ _ _ h => h) (Or.inl ⟨by rfl, ?_⟩) (by assumption) ?_
  rotate_left
  · (intro ww hSw; (try dsimp only at hSw); go_simp; try with_reducible rfl)
  (try simp only [Act.put, List.setIfInBounds_toArray, List.set_cons_zero, List.set_cons_succ])
  refine wpAnyH_take (i := 5) (oi := { dst := some 59, op := Op.move (Operand.tmp 14), type := 3, pos := "law.go:49", after := #[{ on := 3, ground := Ground.guard }], guard := some (3, true) }) (v := ?_) rfl (by kernel_rfl) (by kernel_rfl) (by kernel_rfl) (fun _ _ _ h => h) (Or.inl ⟨by rfl, ?_⟩) (by assumption) ?_
  rotate_left
  · (intro ww hSw; (try dsimp only at hSw); go_simp; try with_reducible rfl)
  (try simp only [Act.put, List.setIfInBounds_toArray, List.set_cons_zero, List.set_cons_succ])
  refine wpAnyH_ready (rs := [6]) (by kernel_rfl) (by simp) ?_
  refine AllReadyH.cons (o := { dst := some 60, op := Op.call { callee := Callee.value (Operand.func 13), args := #[Operand.tmp 58, Operand.tmp 59], argTypes := #[27, 3] }, type := 4, pos := "law.go:49", after := #[{ on := 4, ground := Ground.data }, { on := 5, ground := Ground.data }, { on := 3, ground := Ground.chain }, { on := 3, ground := Ground.guard }], guard := some (3, true) }) rfl (fun K hK => ?_) AllReadyH.nil
  go_simp
  ((with_reducible refine (same_any (And.right hHeld)).mono ?_); rintro e w9 ⟨rfl, rfl⟩)
  refine hK.out _ _ (hHeld) (fun hHeld => ?_)
  clear hK K
  (try simp only [Act.put, List.setIfInBounds_toArray, List.set_cons_zero, List.set_cons_succ])
  refine wpAnyH_take (i := 7) (oi := { dst := some 61, op := Op.pick (Operand.tmp 57) (Operand.tmp 60) (Operand.const (Value.bool false)), type := 4, pos := "law.go:49", after := #[{ on := 3, ground := Ground.data }, { on := 6, ground := Ground.data }], guard := none }) (v := ?_) rfl (by kernel_rfl) (by kernel_rfl) (by kernel_rfl) (fun _ _ _ h => h) (Or.inl ⟨by rfl, ?_⟩) (by assumption) ?_
  rotate_left
  · (intro ww hSw; (try dsimp only at hSw); go_simp; try with_reducible rfl)
  (try simp only [Act.put, List.setIfInBounds_toArray, List.set_cons_zero, List.set_cons_succ])
  refine wpAnyH_take (i := 8) (oi := { dst := some 62, op := Op.move (Operand.tmp 61), type := 4, pos := "law.go:49", after := #[{ on := 7, ground := Ground.data }, { on := 6, ground := Ground.chain }], guard := none }) (v := ?_) rfl (by kernel_rfl) (by kernel_rfl) (by kernel_rfl) (fun _ _ _ h => h) (Or.inl ⟨by rfl, ?_⟩) (by assumption) ?_
  rotate_left
  · (intro ww hSw; (try dsimp only at hSw); go_simp; try with_reducible rfl)
  (try simp only [Act.put, List.setIfInBounds_toArray, List.set_cons_zero, List.set_cons_succ])
  refine wpAnyH_take (i := 9) (oi := { dst := some 63, op := Op.move (Operand.tmp 15), type := 3, pos := "law.go:49", after := #[{ on := 8, ground := Ground.guard }], guard := some (8, true) }) (v := ?_) rfl (by kernel_rfl) (by kernel_rfl) (by kernel_rfl) (fun _ _ _ h => h) (Or.inl ⟨by rfl, ?_⟩) (by assumption) ?_
  rotate_left
  · (intro ww hSw; (try dsimp only at hSw); go_simp; try with_reducible rfl)
  (try simp only [Act.put, List.setIfInBounds_toArray, List.set_cons_zero, List.set_cons_succ])
  refine wpAnyH_take (i := 10) (oi := { dst := some 64, op := Op.move (Operand.tmp 17), type := 3, pos := "law.go:49", after := #[{ on := 8, ground := Ground.guard }], guard := some (8, true) }) (v := ?_) rfl (by kernel_rfl) (by kernel_rfl) (by kernel_rfl) (fun _ _ _ h => h) (Or.inl ⟨by rfl, ?_⟩) (by assumption) ?_
  rotate_left
  · (intro ww hSw; (try dsimp only at hSw); go_simp; try with_reducible rfl)
  (try simp only [Act.put, List.setIfInBounds_toArray, List.set_cons_zero, List.set_cons_succ])
  refine wpAnyH_take (i := 11) (oi := { dst := some 65, op := Op.binOp BinOp.eql 3 (Operand.tmp 63) (Operand.tmp 64) 3, type := 4, pos := "law.go:49", after := #[{ on := 9, ground := Ground.data }, { on := 10, ground := Ground.data }, { on := 8, ground := Ground.guard }], guard := some (8, true) }) (v := ?_) rfl (by kernel_rfl) (by kernel_rfl) (by kernel_rfl) (fun _ _ _ h => h) (Or.inl ⟨by rfl, ?_⟩) (by assumption) ?_
  rotate_left
  · (intro ww hSw; (try dsimp only at hSw); go_simp; try with_reducible rfl)
  (try simp only [Act.put, List.setIfInBounds_toArray, List.set_cons_zero, List.set_cons_succ])
  refine wpAnyH_take (i := 12) (oi := { dst := some 66, op := Op.pick (Operand.tmp 62) (Operand.tmp 65) (Operand.const (Value.bool false)), type := 4, pos := "law.go:49", after := #[{ on := 8, ground := Ground.data }, { on := 11, ground := Ground.data }], guard := none }) (v := ?_) rfl (by kernel_rfl) (by kernel_rfl) (by kernel_rfl) (fun _ _ _ h => h) (Or.inl ⟨by rfl, ?_⟩) (by assumption) ?_
  rotate_left
  · (intro ww hSw; (try dsimp only at hSw); go_simp; try with_reducible rfl)
  (try simp only [Act.put, List.setIfInBounds_toArray, List.set_cons_zero, List.set_cons_succ])
  refine wpAnyH_take (i := 13) (oi := { dst := some 67, op := Op.move (Operand.tmp 66), type := 4, pos := "law.go:49", after := #[{ on := 12, ground := Ground.data }, { on := 8, ground := Ground.chain }], guard := none }) (v := ?_) rfl (by kernel_rfl) (by kernel_rfl) (by kernel_rfl) (fun _ _ _ h => h) (Or.inl ⟨by rfl, ?_⟩) (by assumption) ?_
  rotate_left
  · (intro ww hSw; (try dsimp only at hSw); go_simp; try with_reducible rfl)
  (try simp only [Act.put, List.setIfInBounds_toArray, List.set_cons_zero, List.set_cons_succ])
  refine wpAnyH_take (i := 14) (oi := { dst := some 68, op := Op.move (Operand.tmp 16), type := 4, pos := "law.go:49", after := #[{ on := 13, ground := Ground.guard }], guard := some (13, true) }) (v := ?_) rfl (by kernel_rfl) (by kernel_rfl) (by kernel_rfl) (fun _ _ _ h => h) (Or.inl ⟨by rfl, ?_⟩) (by assumption) ?_
  rotate_left
  · (intro ww hSw; (try dsimp only at hSw); go_simp; try with_reducible rfl)
  (try simp only [Act.put, List.setIfInBounds_toArray, List.set_cons_zero, List.set_cons_succ])
  refine wpAnyH_take (i := 15) (oi := { dst := some 69, op := Op.move (Operand.tmp 18), type := 4, pos := "law.go:49", after := #[{ on := 13, ground := Ground.guard }], guard := some (13, true) }) (v := ?_) rfl (by kernel_rfl) (by kernel_rfl) (by kernel_rfl) (fun _ _ _ h => h) (Or.inl ⟨by rfl, ?_⟩) (by assumption) ?_
  rotate_left
  · (intro ww hSw; (try dsimp only at hSw); go_simp; try with_reducible rfl)
  (try simp only [Act.put, List.setIfInBounds_toArray, List.set_cons_zero, List.set_cons_succ])
  refine wpAnyH_take (i := 16) (oi := { dst := some 70, op := Op.binOp BinOp.eql 4 (Operand.tmp 68) (Operand.tmp 69) 4, type := 4, pos := "law.go:49", after := #[{ on := 14, ground := Ground.data }, { on := 15, ground := Ground.data }, { on := 13, ground := Ground.guard }], guard := some (13, true) }) (v := ?_) rfl (by kernel_rfl) (by kernel_rfl) (by kernel_rfl) (fun _ _ _ h => h) (Or.inl ⟨by rfl, ?_⟩) (by assumption) ?_
  rotate_left
  · (intro ww hSw; (try dsimp only at hSw); go_simp; try with_reducible rfl)
  (try simp only [Act.put, List.setIfInBounds_toArray, List.set_cons_zero, List.set_cons_succ])
  refine wpAnyH_take (i := 17) (oi := { dst := some 71, op := Op.pick (Operand.tmp 67) (Operand.tmp 70) (Operand.const (Value.bool false)), type := 4, pos := "law.go:49", after := #[{ on := 13, ground := Ground.data }, { on := 16, ground := Ground.data }], guard := none }) (v := ?_) rfl (by kernel_rfl) (by kernel_rfl) (by kernel_rfl) (fun _ _ _ h => h) (Or.inl ⟨by rfl, ?_⟩) (by assumption) ?_
  rotate_left
  · (intro ww hSw; (try dsimp only at hSw); go_simp; try with_reducible rfl)
  (try simp only [Act.put, List.setIfInBounds_toArray, List.set_cons_zero, List.set_cons_succ])
  refine wpAnyH_take (i := 18) (oi := { dst := some 72, op := Op.move (Operand.tmp 71), type := 4, pos := "law.go:49", after := #[{ on := 17, ground := Ground.data }, { on := 13, ground := Ground.chain }], guard := none }) (v := ?_) rfl (by kernel_rfl) (by kernel_rfl) (by kernel_rfl) (fun _ _ _ h => h) (Or.inl ⟨by rfl, ?_⟩) (by assumption) ?_
  rotate_left
  · (intro ww hSw; (try dsimp only at hSw); go_simp; try with_reducible rfl)
  (try simp only [Act.put, List.setIfInBounds_toArray, List.set_cons_zero, List.set_cons_succ])
  refine wpAnyH_take (i := 19) (oi := { dst := some 73, op := Op.load 35 (Operand.tmp 5), type := 35, pos := "law.go:49", after := #[{ on := 18, ground := Ground.guard }], guard := some (18, true) }) (v := .agg (VP).toArray) rfl (by kernel_rfl) (by kernel_rfl) (by kernel_rfl) (fun _ _ _ h => h) (yieldsIf_load_mid (by rfl) _ _ rfl (w.heap.size) 0 rfl (VP) _ (fun ww hSw => (And.left hSw).tl.tl.tl.tl.hd.range) Try.underlying35 rfl HI_VP.out) (by assumption) ?_
  (try simp only [Act.put, List.setIfInBounds_toArray, List.set_cons_zero, List.set_cons_succ])
  refine wpAnyH_take (i := 21) (oi := { dst := some 75, op := Op.load 35 (Operand.tmp 5), type := 35, pos := "law.go:49", after := #[{ on := 18, ground := Ground.guard }], guard := some (18, true) }) (v := .agg (VP).toArray) rfl (by kernel_rfl) (by kernel_rfl) (by kernel_rfl) (fun _ _ _ h => h) (yieldsIf_load_mid (by rfl) _ _ rfl (w.heap.size) 0 rfl (VP) _ (fun ww hSw => (And.left hSw).tl.tl.tl.tl.hd.range) Try.underlying35 rfl HI_VP.out) (by assumption) ?_
  (try simp only [Act.put, List.setIfInBounds_toArray, List.set_cons_zero, List.set_cons_succ])
  refine wpAnyH_ready (rs := [20]) (by kernel_rfl) (by simp) ?_
  refine AllReadyH.cons (o := { dst := some 74, op := Op.call { callee := Callee.value (Operand.func 12), args := #[Operand.tmp 73], argTypes := #[35] }, type := 4, pos := "law.go:49", after := #[{ on := 19, ground := Ground.data }, { on := 18, ground := Ground.chain }, { on := 18, ground := Ground.guard }], guard := some (18, true) }) rfl (fun K hK => ?_) AllReadyH.nil
  go_simp
  ((with_reducible refine (HWa.out _).mono ?_); rintro e w9 ⟨rfl, hb9⟩)
  refine hK.out _ _ (⟨(And.left hHeld).below hb9 (Nat.le_refl _), (And.right hHeld).below hb9 (Nat.le_refl _)⟩) (fun hHeld => ?_)
  clear hK K
  (try simp only [Act.put, List.setIfInBounds_toArray, List.set_cons_zero, List.set_cons_succ])
  refine wpAnyH_ready (rs := [22]) (by kernel_rfl) (by simp) ?_
  refine AllReadyH.cons (o := { dst := some 76, op := Op.call { callee := Callee.value (Operand.func 18), args := #[Operand.tmp 75], argTypes := #[35] }, type := 4, pos := "law.go:49", after := #[{ on := 21, ground := Ground.data }, { on := 20, ground := Ground.chain }, { on := 18, ground := Ground.guard }], guard := some (18, true) }) rfl (fun K hK => ?_) AllReadyH.nil
  go_simp
  ((with_reducible refine (HWb.out _).mono ?_); rintro e w9 ⟨rfl, hb9⟩)
  refine hK.out _ _ (⟨(And.left hHeld).below hb9 (Nat.le_refl _), (And.right hHeld).below hb9 (Nat.le_refl _)⟩) (fun hHeld => ?_)
  clear hK K
  (try simp only [Act.put, List.setIfInBounds_toArray, List.set_cons_zero, List.set_cons_succ])
  refine wpAnyH_take (i := 23) (oi := { dst := some 77, op := Op.binOp BinOp.eql 4 (Operand.tmp 74) (Operand.tmp 76) 4, type := 4, pos := "law.go:49", after := #[{ on := 20, ground := Ground.data }, { on := 22, ground := Ground.data }, { on := 18, ground := Ground.guard }], guard := some (18, true) }) (v := ?_) rfl (by kernel_rfl) (by kernel_rfl) (by kernel_rfl) (fun _ _ _ h => h) (Or.inl ⟨by rfl, ?_⟩) (by assumption) ?_
  rotate_left
  · (intro ww hSw; (try dsimp only at hSw); go_simp; try with_reducible rfl)
  (try simp only [Act.put, List.setIfInBounds_toArray, List.set_cons_zero, List.set_cons_succ])
  refine wpAnyH_take (i := 24) (oi := { dst := some 78, op := Op.pick (Operand.tmp 72) (Operand.tmp 77) (Operand.const (Value.bool false)), type := 4, pos := "law.go:49", after := #[{ on := 18, ground := Ground.data }, { on := 23, ground := Ground.data }], guard := none }) (v := ?_) rfl (by kernel_rfl) (by kernel_rfl) (by kernel_rfl) (fun _ _ _ h => h) (Or.inl ⟨by rfl, ?_⟩) (by assumption) ?_
  rotate_left
  · (intro ww hSw; (try dsimp only at hSw); go_simp; try with_reducible rfl)
  (try simp only [Act.put, List.setIfInBounds_toArray, List.set_cons_zero, List.set_cons_succ])
  refine wpAnyH_take (i := 25) (oi := { dst := some 10, op := Op.assign (Operand.tmp 78), type := 4, pos := "law.go:49", after := #[{ on := 24, ground := Ground.data }, { on := 22, ground := Ground.chain }, { on := 0, ground := Ground.phase }, { on := 1, ground := Ground.phase }, { on := 2, ground := Ground.phase }, { on := 3, ground := Ground.phase }, { on := 4, ground := Ground.phase }, { on := 5, ground := Ground.phase }, { on := 6, ground := Ground.phase }, { on := 7, ground := Ground.phase }, { on := 8, ground := Ground.phase }, { on := 9, ground := Ground.phase }, { on := 10, ground := Ground.phase }, { on := 11, ground := Ground.phase }, { on := 12, ground := Ground.phase }, { on := 13, ground := Ground.phase }, { on := 14, ground := Ground.phase }, { on := 15, ground := Ground.phase }, { on := 16, ground := Ground.phase }, { on := 17, ground := Ground.phase }, { on := 18, ground := Ground.phase }, { on := 19, ground := Ground.phase }, { on := 20, ground := Ground.phase }, { on := 21, ground := Ground.phase }, { on := 22, ground := Ground.phase }, { on := 23, ground := Ground.phase }, { on := 24, ground := Ground.phase }], guard := none }) (v := ?_) rfl (by kernel_rfl) (by kernel_rfl) (by kernel_rfl) (fun _ _ _ h => h) (Or.inl ⟨by rfl, ?_⟩) (by assumption) ?_
  rotate_left
  · (intro ww hSw; (try dsimp only at hSw); go_simp; try with_reducible rfl)
  (try simp only [Act.put, List.setIfInBounds_toArray, List.set_cons_zero, List.set_cons_succ])
  refine wpAnyH_done (by kernel_rfl) ?_ _
  refine NoPanic.normal ?_
  go_wp2_with (fail)
  go_ret
  exact ⟨rfl, (And.left hHeld).2.1⟩
theorem head64Does_any (p : Pk6) (v : Value) (F T : List Int) (id n : Int) (w : World) (hx : Exs w v p.exts) (hq : Rch p) (hF : F.length = 4) (hT : T.length = 4) :
    Calls Try.prog 4 #[.agg (p.vals v).toArray, .agg (F.map (Value.int .u8)).toArray, .agg (T.map (Value.int .u8)).toArray, .int .i64 id, .int .i64 n] w (fun e w' => e = .returned (.bool true) ∧ Below w.heap.size w w') := by
  obtain ⟨f0, f1, f2, f3, rfl⟩ := four_of hF
  obtain ⟨t0, t1, t2, t3, rfl⟩ := four_of hT
  cases hg : p.great
  · by_cases hp : p.pl < 0
    · exact does64_neg p v f0 f1 f2 f3 t0 t1 t2 t3 id n w hx hq hg hp
    · exact does64_main p v f0 f1 f2 f3 t0 t1 t2 t3 id n w hx hq hg hp
  · exact does64_great p v f0 f1 f2 f3 t0 t1 t2 t3 id n w hx hq hg
end Go.Proofs.Ytkihhmnlefekoaa
