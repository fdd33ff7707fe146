/-
  Proved here: what the document's Head of layer 13 answers of what is out of range.
  Conditions: none.
-/
import Derived.Test.YtkihhmnlefekoaaRx
namespace Go.Proofs.Ytkihhmnlefekoaa
open Go.RowKit

set_option maxRecDepth 100000 in
set_option maxHeartbeats 4000000 in
theorem rhead64_r0 (p : Pk6) (v : Value) (f0 f1 f2 f3 t0 t1 t2 t3 id : Int) (w : World) (h0 : (p.hop < 2)) :
    Calls Try.prog 15 #[.agg (p.vals v).toArray, .agg ([.int .u8 f0, .int .u8 f1, .int .u8 f2, .int .u8 f3] : List Value).toArray, .agg ([.int .u8 t0, .int .u8 t1, .int .u8 t2, .int .u8 t3] : List Value).toArray, .int .i64 id] w (fun e w' => e = .returned (.tuple #[.agg (P4.pkt0.vals).toArray, .int .i64 13]) ∧ Below w.heap.size w w') := by
  obtain ⟨Z, hZ⟩ : ∃ Z, Z = P4.pkt0.vals := ⟨_, rfl⟩
  have HBZ : Hid (∀ W, (Instr.build 25 #[]).run Try.prog W = .ok (.agg Z.toArray) W) := Lib.hid (fun W => by rw [hZ]; exact build4Z W)
  have HI_Z : Hid ((Try.prog.info? 25).map (·.size) = some Z.length) := Lib.hid (by rw [hZ]; exact P4.Try.infoIp _)
  have HO_Z : Hid (Z.toArray.all (·.oneCell') = true) := Lib.hid (by rw [hZ]; exact P4.vals_one _)
  have HL_Z : Hid (Z.length = 17) := Lib.hid (by rw [hZ]; rfl)
  have hz0 : Z.toArray = #[.int .i64 0, .int .i64 0, .int .i64 0, .int .i64 0, .int .i64 0, .bool false, .bool false, .int .u8 0, .int .u8 0, .int .u8 0, .int .u8 0, .int .u8 0, .int .u8 0, .int .u8 0, .int .u8 0, .string ⟨#[]⟩, .string ⟨#[]⟩] := by rw [hZ]; rfl
  have HZ := Lib.hid hZ
  clear hZ
  have HI_VP : Hid ((Try.prog.info? 35).map (·.size) = some (p.vals v).length) := Lib.hid (Try.info6 _ _)
  have HC_VP_0 : Hid ((p.vals v)[0]? = some (.int .i64 p.cls)) := Lib.hid (rfl)
  have HC_VP_2 : Hid ((p.vals v)[2]? = some (.int .i64 p.hop)) := Lib.hid (rfl)
  have HC_VP_35 : Hid ((p.vals v)[35]? = some (v)) := Lib.hid (vals_tail p v 0)
  have HC_VP_36 : Hid ((p.vals v)[36]? = some (.bool p.frag)) := Lib.hid (vals_tail p v 1)
  have HC_VP_37 : Hid ((p.vals v)[37]? = some (.int .u32 p.id)) := Lib.hid (vals_tail p v 2)
  have HC_VP_38 : Hid ((p.vals v)[38]? = some (.int .i64 p.pl)) := Lib.hid (vals_tail p v 3)
  have HC_VP_39 : Hid ((p.vals v)[39]? = some (.bool p.more)) := Lib.hid (vals_tail p v 4)
  have HC_VP_40 : Hid ((p.vals v)[40]? = some (.int .i64 p.proto)) := Lib.hid (vals_tail p v 5)
  have HC_VP_41 : Hid ((p.vals v)[41]? = some (.string p.data)) := Lib.hid (vals_tail p v 6)
  have HI_VF : Hid ((Try.prog.info? 23).map (·.size) = some (([.int .u8 f0, .int .u8 f1, .int .u8 f2, .int .u8 f3] : List Value)).length) := Lib.hid (Try.infoV4c _ _ _ _)
  have HO_VF : Hid ((([.int .u8 f0, .int .u8 f1, .int .u8 f2, .int .u8 f3] : List Value)).toArray.all (·.oneCell') = true) := Lib.hid (by simp [Value.oneCell'])
  have HL_VF : Hid ((([.int .u8 f0, .int .u8 f1, .int .u8 f2, .int .u8 f3] : List Value)).length = 4) := Lib.hid rfl
  have HI_VT : Hid ((Try.prog.info? 23).map (·.size) = some (([.int .u8 t0, .int .u8 t1, .int .u8 t2, .int .u8 t3] : List Value)).length) := Lib.hid (Try.infoV4c _ _ _ _)
  have HO_VT : Hid ((([.int .u8 t0, .int .u8 t1, .int .u8 t2, .int .u8 t3] : List Value)).toArray.all (·.oneCell') = true) := Lib.hid (by simp [Value.oneCell'])
  have HL_VT : Hid ((([.int .u8 t0, .int .u8 t1, .int .u8 t2, .int .u8 t3] : List Value)).length = 4) := Lib.hid rfl
  have HK1 : Hid (Kp w w.heap.size [(w.heap.size + 1 + 1 + 1, 25, Z), (w.heap.size + 1 + 1, 23, ([.int .u8 t0, .int .u8 t1, .int .u8 t2, .int .u8 t3] : List Value)), (w.heap.size + 1, 23, ([.int .u8 f0, .int .u8 f1, .int .u8 f2, .int .u8 f3] : List Value)), (w.heap.size, 35, p.vals v)] ((((w.alloc (.cells (p.vals v).toArray 35)).alloc (.cells ([.int .u8 f0, .int .u8 f1, .int .u8 f2, .int .u8 f3] : List Value).toArray 23)).alloc (.cells ([.int .u8 t0, .int .u8 t1, .int .u8 t2, .int .u8 t3] : List Value).toArray 23)).alloc (.cells Z.toArray 25))) := Lib.hid (by
    have h := (((Kp.start w).new 35 (p.vals v)).new 23 ([.int .u8 f0, .int .u8 f1, .int .u8 f2, .int .u8 f3] : List Value)).new 23 ([.int .u8 t0, .int .u8 t1, .int .u8 t2, .int .u8 t3] : List Value)
    have e1 : (w.alloc (.cells (p.vals v).toArray 35)).heap.size = w.heap.size + 1 := by simp
    have e2 : ((w.alloc (.cells (p.vals v).toArray 35)).alloc (.cells ([.int .u8 f0, .int .u8 f1, .int .u8 f2, .int .u8 f3] : List Value).toArray 23)).heap.size = w.heap.size + 1 + 1 := by simp
    have e3 : (((w.alloc (.cells (p.vals v).toArray 35)).alloc (.cells ([.int .u8 f0, .int .u8 f1, .int .u8 f2, .int .u8 f3] : List Value).toArray 23)).alloc (.cells ([.int .u8 t0, .int .u8 t1, .int .u8 t2, .int .u8 t3] : List Value).toArray 23)).heap.size = w.heap.size + 1 + 1 + 1 := by simp
    rw [e1, e2] at h
    have h2 := h.new 25 Z
    rwa [e3] at h2)

  generalize p.vals v = VP at *
  generalize ([.int .u8 f0, .int .u8 f1, .int .u8 f2, .int .u8 f3] : List Value) = VF at *
  generalize ([.int .u8 t0, .int .u8 t1, .int .u8 t2, .int .u8 t3] : List Value) = VT at *
  generalize hw1 : (((w.alloc (.cells VP.toArray 35)).alloc (.cells VF.toArray 23)).alloc (.cells VT.toArray 23)).alloc (.cells Z.toArray 25) = w1 at *
  rw [hz0] at hw1
  go_enter Try.func15, Try.ntmps15
  go_upto_region 1 with (fail)
  clear hw1 hz0
  have ht := (bk_new w1 25 ([.int .i64 0, .int .i64 0, .int .i64 0, .int .i64 0, .int .i64 0, .bool false, .bool false, .int .u8 0, .int .u8 0, .int .u8 0, .int .u8 0, .int .u8 0, .int .u8 0, .int .u8 0, .int .u8 0, .string ⟨#[]⟩, .string ⟨#[]⟩] : List Value).toArray).there Z.toArray.size (by have := HL_Z.out; simp; omega)
  go_upto_region 2 with (((with_reducible (change wpList _ _ _ _ _ _)); (first | (refine Great.wpList_readTo rfl _ rfl (.agg Z.toArray) (run_execN (T := 25) (l := #[]) (m := #[]) rfl (by simp) (HBZ.out _)) ?_) | (refine wpList_store_mid rfl 25 _ _ rfl (w1.heap.size) 0 Z.toArray rfl rfl ht (by simpa using HI_Z.out) HO_Z.out ?_))))
  have HK2 := Lib.hid (HK1.out.put 25 ([.int .i64 0, .int .i64 0, .int .i64 0, .int .i64 0, .int .i64 0, .bool false, .bool false, .int .u8 0, .int .u8 0, .int .u8 0, .int .u8 0, .int .u8 0, .int .u8 0, .int .u8 0, .int .u8 0, .string ⟨#[]⟩, .string ⟨#[]⟩] : List Value).toArray Z (by have := HL_Z.out; simp; omega))
  clear ht HK1
  generalize (w1.alloc (.cells ([.int .i64 0, .int .i64 0, .int .i64 0, .int .i64 0, .int .i64 0, .bool false, .bool false, .int .u8 0, .int .u8 0, .int .u8 0, .int .u8 0, .int .u8 0, .int .u8 0, .int .u8 0, .int .u8 0, .string ⟨#[]⟩, .string ⟨#[]⟩] : List Value).toArray 25)).setCells w1.heap.size 0 Z = w2 at *
  generalize w1.heap.size = g0 at *
  have c2 : w2.cell? ⟨w.heap.size, 2, none⟩ = some (.int .i64 p.hop) := HK2.out.tl.tl.tl.tl.hd.at HC_VP_2.out
  go_upto_region 3 with (fail)
  have hr0 := HK2.out.hd.range
  have hkc := HK2.out.tl.hd
  have htf : w2.there (w.heap.size + 1 + 1 + 1) 0 Z.toArray.size := hkc.there _ (Nat.le_refl _)
  go_wp2_with (((with_reducible (change wpList _ _ _ _ _ _)); (first | (refine wpList_load_mid rfl 25 _ rfl (g0) 0 rfl (Z) _ hr0 Try.underlying25 rfl HI_Z.out ?_) | (refine wpList_store_mid rfl 25 _ _ rfl (w.heap.size + 1 + 1 + 1) 0 Z.toArray rfl rfl htf (by simpa using HI_Z.out) HO_Z.out ?_))))
  have hk5 := Bk.sets Z 0 _ _ hkc
  rw [puts_whole Z.toArray Z (by simp)] at hk5
  refine bodyPost_ret (v := .tuple #[.agg Z.toArray, .int .i64 13]) ?_ rfl ?_
  · exact results_cell2 rfl rfl rfl (run_loadVar_mid _ (w.heap.size + 1 + 1 + 1) 0 25 Z _ hk5.range Try.underlying25 rfl HI_Z.out)
  · exact ⟨by rw [HZ.out], below_sets _ (by omega) 0 _ HK2.out.2.1⟩
set_option maxRecDepth 100000 in
set_option maxHeartbeats 4000000 in
theorem rhead64_r1 (p : Pk6) (v : Value) (f0 f1 f2 f3 t0 t1 t2 t3 id : Int) (w : World) (n0 : ¬ (p.hop < 2)) (h1 : (255 < p.hop)) :
    Calls Try.prog 15 #[.agg (p.vals v).toArray, .agg ([.int .u8 f0, .int .u8 f1, .int .u8 f2, .int .u8 f3] : List Value).toArray, .agg ([.int .u8 t0, .int .u8 t1, .int .u8 t2, .int .u8 t3] : List Value).toArray, .int .i64 id] w (fun e w' => e = .returned (.tuple #[.agg (P4.pkt0.vals).toArray, .int .i64 13]) ∧ Below w.heap.size w w') := by
  obtain ⟨Z, hZ⟩ : ∃ Z, Z = P4.pkt0.vals := ⟨_, rfl⟩
  have HBZ : Hid (∀ W, (Instr.build 25 #[]).run Try.prog W = .ok (.agg Z.toArray) W) := Lib.hid (fun W => by rw [hZ]; exact build4Z W)
  have HI_Z : Hid ((Try.prog.info? 25).map (·.size) = some Z.length) := Lib.hid (by rw [hZ]; exact P4.Try.infoIp _)
  have HO_Z : Hid (Z.toArray.all (·.oneCell') = true) := Lib.hid (by rw [hZ]; exact P4.vals_one _)
  have HL_Z : Hid (Z.length = 17) := Lib.hid (by rw [hZ]; rfl)
  have hz0 : Z.toArray = #[.int .i64 0, .int .i64 0, .int .i64 0, .int .i64 0, .int .i64 0, .bool false, .bool false, .int .u8 0, .int .u8 0, .int .u8 0, .int .u8 0, .int .u8 0, .int .u8 0, .int .u8 0, .int .u8 0, .string ⟨#[]⟩, .string ⟨#[]⟩] := by rw [hZ]; rfl
  have HZ := Lib.hid hZ
  clear hZ
  have HI_VP : Hid ((Try.prog.info? 35).map (·.size) = some (p.vals v).length) := Lib.hid (Try.info6 _ _)
  have HC_VP_0 : Hid ((p.vals v)[0]? = some (.int .i64 p.cls)) := Lib.hid (rfl)
  have HC_VP_2 : Hid ((p.vals v)[2]? = some (.int .i64 p.hop)) := Lib.hid (rfl)
  have HC_VP_35 : Hid ((p.vals v)[35]? = some (v)) := Lib.hid (vals_tail p v 0)
  have HC_VP_36 : Hid ((p.vals v)[36]? = some (.bool p.frag)) := Lib.hid (vals_tail p v 1)
  have HC_VP_37 : Hid ((p.vals v)[37]? = some (.int .u32 p.id)) := Lib.hid (vals_tail p v 2)
  have HC_VP_38 : Hid ((p.vals v)[38]? = some (.int .i64 p.pl)) := Lib.hid (vals_tail p v 3)
  have HC_VP_39 : Hid ((p.vals v)[39]? = some (.bool p.more)) := Lib.hid (vals_tail p v 4)
  have HC_VP_40 : Hid ((p.vals v)[40]? = some (.int .i64 p.proto)) := Lib.hid (vals_tail p v 5)
  have HC_VP_41 : Hid ((p.vals v)[41]? = some (.string p.data)) := Lib.hid (vals_tail p v 6)
  have HI_VF : Hid ((Try.prog.info? 23).map (·.size) = some (([.int .u8 f0, .int .u8 f1, .int .u8 f2, .int .u8 f3] : List Value)).length) := Lib.hid (Try.infoV4c _ _ _ _)
  have HO_VF : Hid ((([.int .u8 f0, .int .u8 f1, .int .u8 f2, .int .u8 f3] : List Value)).toArray.all (·.oneCell') = true) := Lib.hid (by simp [Value.oneCell'])
  have HL_VF : Hid ((([.int .u8 f0, .int .u8 f1, .int .u8 f2, .int .u8 f3] : List Value)).length = 4) := Lib.hid rfl
  have HI_VT : Hid ((Try.prog.info? 23).map (·.size) = some (([.int .u8 t0, .int .u8 t1, .int .u8 t2, .int .u8 t3] : List Value)).length) := Lib.hid (Try.infoV4c _ _ _ _)
  have HO_VT : Hid ((([.int .u8 t0, .int .u8 t1, .int .u8 t2, .int .u8 t3] : List Value)).toArray.all (·.oneCell') = true) := Lib.hid (by simp [Value.oneCell'])
  have HL_VT : Hid ((([.int .u8 t0, .int .u8 t1, .int .u8 t2, .int .u8 t3] : List Value)).length = 4) := Lib.hid rfl
  have HK1 : Hid (Kp w w.heap.size [(w.heap.size + 1 + 1 + 1, 25, Z), (w.heap.size + 1 + 1, 23, ([.int .u8 t0, .int .u8 t1, .int .u8 t2, .int .u8 t3] : List Value)), (w.heap.size + 1, 23, ([.int .u8 f0, .int .u8 f1, .int .u8 f2, .int .u8 f3] : List Value)), (w.heap.size, 35, p.vals v)] ((((w.alloc (.cells (p.vals v).toArray 35)).alloc (.cells ([.int .u8 f0, .int .u8 f1, .int .u8 f2, .int .u8 f3] : List Value).toArray 23)).alloc (.cells ([.int .u8 t0, .int .u8 t1, .int .u8 t2, .int .u8 t3] : List Value).toArray 23)).alloc (.cells Z.toArray 25))) := Lib.hid (by
    have h := (((Kp.start w).new 35 (p.vals v)).new 23 ([.int .u8 f0, .int .u8 f1, .int .u8 f2, .int .u8 f3] : List Value)).new 23 ([.int .u8 t0, .int .u8 t1, .int .u8 t2, .int .u8 t3] : List Value)
    have e1 : (w.alloc (.cells (p.vals v).toArray 35)).heap.size = w.heap.size + 1 := by simp
    have e2 : ((w.alloc (.cells (p.vals v).toArray 35)).alloc (.cells ([.int .u8 f0, .int .u8 f1, .int .u8 f2, .int .u8 f3] : List Value).toArray 23)).heap.size = w.heap.size + 1 + 1 := by simp
    have e3 : (((w.alloc (.cells (p.vals v).toArray 35)).alloc (.cells ([.int .u8 f0, .int .u8 f1, .int .u8 f2, .int .u8 f3] : List Value).toArray 23)).alloc (.cells ([.int .u8 t0, .int .u8 t1, .int .u8 t2, .int .u8 t3] : List Value).toArray 23)).heap.size = w.heap.size + 1 + 1 + 1 := by simp
    rw [e1, e2] at h
    have h2 := h.new 25 Z
    rwa [e3] at h2)

  generalize p.vals v = VP at *
  generalize ([.int .u8 f0, .int .u8 f1, .int .u8 f2, .int .u8 f3] : List Value) = VF at *
  generalize ([.int .u8 t0, .int .u8 t1, .int .u8 t2, .int .u8 t3] : List Value) = VT at *
  generalize hw1 : (((w.alloc (.cells VP.toArray 35)).alloc (.cells VF.toArray 23)).alloc (.cells VT.toArray 23)).alloc (.cells Z.toArray 25) = w1 at *
  rw [hz0] at hw1
  go_enter Try.func15, Try.ntmps15
  go_upto_region 1 with (fail)
  clear hw1 hz0
  have ht := (bk_new w1 25 ([.int .i64 0, .int .i64 0, .int .i64 0, .int .i64 0, .int .i64 0, .bool false, .bool false, .int .u8 0, .int .u8 0, .int .u8 0, .int .u8 0, .int .u8 0, .int .u8 0, .int .u8 0, .int .u8 0, .string ⟨#[]⟩, .string ⟨#[]⟩] : List Value).toArray).there Z.toArray.size (by have := HL_Z.out; simp; omega)
  go_upto_region 2 with (((with_reducible (change wpList _ _ _ _ _ _)); (first | (refine Great.wpList_readTo rfl _ rfl (.agg Z.toArray) (run_execN (T := 25) (l := #[]) (m := #[]) rfl (by simp) (HBZ.out _)) ?_) | (refine wpList_store_mid rfl 25 _ _ rfl (w1.heap.size) 0 Z.toArray rfl rfl ht (by simpa using HI_Z.out) HO_Z.out ?_))))
  have HK2 := Lib.hid (HK1.out.put 25 ([.int .i64 0, .int .i64 0, .int .i64 0, .int .i64 0, .int .i64 0, .bool false, .bool false, .int .u8 0, .int .u8 0, .int .u8 0, .int .u8 0, .int .u8 0, .int .u8 0, .int .u8 0, .int .u8 0, .string ⟨#[]⟩, .string ⟨#[]⟩] : List Value).toArray Z (by have := HL_Z.out; simp; omega))
  clear ht HK1
  generalize (w1.alloc (.cells ([.int .i64 0, .int .i64 0, .int .i64 0, .int .i64 0, .int .i64 0, .bool false, .bool false, .int .u8 0, .int .u8 0, .int .u8 0, .int .u8 0, .int .u8 0, .int .u8 0, .int .u8 0, .int .u8 0, .string ⟨#[]⟩, .string ⟨#[]⟩] : List Value).toArray 25)).setCells w1.heap.size 0 Z = w2 at *
  generalize w1.heap.size = g0 at *
  have c2 : w2.cell? ⟨w.heap.size, 2, none⟩ = some (.int .i64 p.hop) := HK2.out.tl.tl.tl.tl.hd.at HC_VP_2.out
  go_upto_region 3 with (fail)
  have hr0 := HK2.out.hd.range
  have hkc := HK2.out.tl.hd
  have htf : w2.there (w.heap.size + 1 + 1 + 1) 0 Z.toArray.size := hkc.there _ (Nat.le_refl _)
  go_wp2_with (((with_reducible (change wpList _ _ _ _ _ _)); (first | (refine wpList_load_mid rfl 25 _ rfl (g0) 0 rfl (Z) _ hr0 Try.underlying25 rfl HI_Z.out ?_) | (refine wpList_store_mid rfl 25 _ _ rfl (w.heap.size + 1 + 1 + 1) 0 Z.toArray rfl rfl htf (by simpa using HI_Z.out) HO_Z.out ?_))))
  have hk5 := Bk.sets Z 0 _ _ hkc
  rw [puts_whole Z.toArray Z (by simp)] at hk5
  refine bodyPost_ret (v := .tuple #[.agg Z.toArray, .int .i64 13]) ?_ rfl ?_
  · exact results_cell2 rfl rfl rfl (run_loadVar_mid _ (w.heap.size + 1 + 1 + 1) 0 25 Z _ hk5.range Try.underlying25 rfl HI_Z.out)
  · exact ⟨by rw [HZ.out], below_sets _ (by omega) 0 _ HK2.out.2.1⟩
set_option maxRecDepth 100000 in
set_option maxHeartbeats 4000000 in
theorem rhead64_r2 (p : Pk6) (v : Value) (f0 f1 f2 f3 t0 t1 t2 t3 id : Int) (w : World) (n0 : ¬ (p.hop < 2)) (n1 : ¬ (255 < p.hop)) (h2 : (p.cls < 0)) :
    Calls Try.prog 15 #[.agg (p.vals v).toArray, .agg ([.int .u8 f0, .int .u8 f1, .int .u8 f2, .int .u8 f3] : List Value).toArray, .agg ([.int .u8 t0, .int .u8 t1, .int .u8 t2, .int .u8 t3] : List Value).toArray, .int .i64 id] w (fun e w' => e = .returned (.tuple #[.agg (P4.pkt0.vals).toArray, .int .i64 13]) ∧ Below w.heap.size w w') := by
  obtain ⟨Z, hZ⟩ : ∃ Z, Z = P4.pkt0.vals := ⟨_, rfl⟩
  have HBZ : Hid (∀ W, (Instr.build 25 #[]).run Try.prog W = .ok (.agg Z.toArray) W) := Lib.hid (fun W => by rw [hZ]; exact build4Z W)
  have HI_Z : Hid ((Try.prog.info? 25).map (·.size) = some Z.length) := Lib.hid (by rw [hZ]; exact P4.Try.infoIp _)
  have HO_Z : Hid (Z.toArray.all (·.oneCell') = true) := Lib.hid (by rw [hZ]; exact P4.vals_one _)
  have HL_Z : Hid (Z.length = 17) := Lib.hid (by rw [hZ]; rfl)
  have hz0 : Z.toArray = #[.int .i64 0, .int .i64 0, .int .i64 0, .int .i64 0, .int .i64 0, .bool false, .bool false, .int .u8 0, .int .u8 0, .int .u8 0, .int .u8 0, .int .u8 0, .int .u8 0, .int .u8 0, .int .u8 0, .string ⟨#[]⟩, .string ⟨#[]⟩] := by rw [hZ]; rfl
  have HZ := Lib.hid hZ
  clear hZ
  have HI_VP : Hid ((Try.prog.info? 35).map (·.size) = some (p.vals v).length) := Lib.hid (Try.info6 _ _)
  have HC_VP_0 : Hid ((p.vals v)[0]? = some (.int .i64 p.cls)) := Lib.hid (rfl)
  have HC_VP_2 : Hid ((p.vals v)[2]? = some (.int .i64 p.hop)) := Lib.hid (rfl)
  have HC_VP_35 : Hid ((p.vals v)[35]? = some (v)) := Lib.hid (vals_tail p v 0)
  have HC_VP_36 : Hid ((p.vals v)[36]? = some (.bool p.frag)) := Lib.hid (vals_tail p v 1)
  have HC_VP_37 : Hid ((p.vals v)[37]? = some (.int .u32 p.id)) := Lib.hid (vals_tail p v 2)
  have HC_VP_38 : Hid ((p.vals v)[38]? = some (.int .i64 p.pl)) := Lib.hid (vals_tail p v 3)
  have HC_VP_39 : Hid ((p.vals v)[39]? = some (.bool p.more)) := Lib.hid (vals_tail p v 4)
  have HC_VP_40 : Hid ((p.vals v)[40]? = some (.int .i64 p.proto)) := Lib.hid (vals_tail p v 5)
  have HC_VP_41 : Hid ((p.vals v)[41]? = some (.string p.data)) := Lib.hid (vals_tail p v 6)
  have HI_VF : Hid ((Try.prog.info? 23).map (·.size) = some (([.int .u8 f0, .int .u8 f1, .int .u8 f2, .int .u8 f3] : List Value)).length) := Lib.hid (Try.infoV4c _ _ _ _)
  have HO_VF : Hid ((([.int .u8 f0, .int .u8 f1, .int .u8 f2, .int .u8 f3] : List Value)).toArray.all (·.oneCell') = true) := Lib.hid (by simp [Value.oneCell'])
  have HL_VF : Hid ((([.int .u8 f0, .int .u8 f1, .int .u8 f2, .int .u8 f3] : List Value)).length = 4) := Lib.hid rfl
  have HI_VT : Hid ((Try.prog.info? 23).map (·.size) = some (([.int .u8 t0, .int .u8 t1, .int .u8 t2, .int .u8 t3] : List Value)).length) := Lib.hid (Try.infoV4c _ _ _ _)
  have HO_VT : Hid ((([.int .u8 t0, .int .u8 t1, .int .u8 t2, .int .u8 t3] : List Value)).toArray.all (·.oneCell') = true) := Lib.hid (by simp [Value.oneCell'])
  have HL_VT : Hid ((([.int .u8 t0, .int .u8 t1, .int .u8 t2, .int .u8 t3] : List Value)).length = 4) := Lib.hid rfl
  have HK1 : Hid (Kp w w.heap.size [(w.heap.size + 1 + 1 + 1, 25, Z), (w.heap.size + 1 + 1, 23, ([.int .u8 t0, .int .u8 t1, .int .u8 t2, .int .u8 t3] : List Value)), (w.heap.size + 1, 23, ([.int .u8 f0, .int .u8 f1, .int .u8 f2, .int .u8 f3] : List Value)), (w.heap.size, 35, p.vals v)] ((((w.alloc (.cells (p.vals v).toArray 35)).alloc (.cells ([.int .u8 f0, .int .u8 f1, .int .u8 f2, .int .u8 f3] : List Value).toArray 23)).alloc (.cells ([.int .u8 t0, .int .u8 t1, .int .u8 t2, .int .u8 t3] : List Value).toArray 23)).alloc (.cells Z.toArray 25))) := Lib.hid (by
    have h := (((Kp.start w).new 35 (p.vals v)).new 23 ([.int .u8 f0, .int .u8 f1, .int .u8 f2, .int .u8 f3] : List Value)).new 23 ([.int .u8 t0, .int .u8 t1, .int .u8 t2, .int .u8 t3] : List Value)
    have e1 : (w.alloc (.cells (p.vals v).toArray 35)).heap.size = w.heap.size + 1 := by simp
    have e2 : ((w.alloc (.cells (p.vals v).toArray 35)).alloc (.cells ([.int .u8 f0, .int .u8 f1, .int .u8 f2, .int .u8 f3] : List Value).toArray 23)).heap.size = w.heap.size + 1 + 1 := by simp
    have e3 : (((w.alloc (.cells (p.vals v).toArray 35)).alloc (.cells ([.int .u8 f0, .int .u8 f1, .int .u8 f2, .int .u8 f3] : List Value).toArray 23)).alloc (.cells ([.int .u8 t0, .int .u8 t1, .int .u8 t2, .int .u8 t3] : List Value).toArray 23)).heap.size = w.heap.size + 1 + 1 + 1 := by simp
    rw [e1, e2] at h
    have h2 := h.new 25 Z
    rwa [e3] at h2)

  generalize p.vals v = VP at *
  generalize ([.int .u8 f0, .int .u8 f1, .int .u8 f2, .int .u8 f3] : List Value) = VF at *
  generalize ([.int .u8 t0, .int .u8 t1, .int .u8 t2, .int .u8 t3] : List Value) = VT at *
  generalize hw1 : (((w.alloc (.cells VP.toArray 35)).alloc (.cells VF.toArray 23)).alloc (.cells VT.toArray 23)).alloc (.cells Z.toArray 25) = w1 at *
  rw [hz0] at hw1
  go_enter Try.func15, Try.ntmps15
  go_upto_region 1 with (fail)
  clear hw1 hz0
  have ht := (bk_new w1 25 ([.int .i64 0, .int .i64 0, .int .i64 0, .int .i64 0, .int .i64 0, .bool false, .bool false, .int .u8 0, .int .u8 0, .int .u8 0, .int .u8 0, .int .u8 0, .int .u8 0, .int .u8 0, .int .u8 0, .string ⟨#[]⟩, .string ⟨#[]⟩] : List Value).toArray).there Z.toArray.size (by have := HL_Z.out; simp; omega)
  go_upto_region 2 with (((with_reducible (change wpList _ _ _ _ _ _)); (first | (refine Great.wpList_readTo rfl _ rfl (.agg Z.toArray) (run_execN (T := 25) (l := #[]) (m := #[]) rfl (by simp) (HBZ.out _)) ?_) | (refine wpList_store_mid rfl 25 _ _ rfl (w1.heap.size) 0 Z.toArray rfl rfl ht (by simpa using HI_Z.out) HO_Z.out ?_))))
  have HK2 := Lib.hid (HK1.out.put 25 ([.int .i64 0, .int .i64 0, .int .i64 0, .int .i64 0, .int .i64 0, .bool false, .bool false, .int .u8 0, .int .u8 0, .int .u8 0, .int .u8 0, .int .u8 0, .int .u8 0, .int .u8 0, .int .u8 0, .string ⟨#[]⟩, .string ⟨#[]⟩] : List Value).toArray Z (by have := HL_Z.out; simp; omega))
  clear ht HK1
  generalize (w1.alloc (.cells ([.int .i64 0, .int .i64 0, .int .i64 0, .int .i64 0, .int .i64 0, .bool false, .bool false, .int .u8 0, .int .u8 0, .int .u8 0, .int .u8 0, .int .u8 0, .int .u8 0, .int .u8 0, .int .u8 0, .string ⟨#[]⟩, .string ⟨#[]⟩] : List Value).toArray 25)).setCells w1.heap.size 0 Z = w2 at *
  generalize w1.heap.size = g0 at *
  have c2 : w2.cell? ⟨w.heap.size, 2, none⟩ = some (.int .i64 p.hop) := HK2.out.tl.tl.tl.tl.hd.at HC_VP_2.out
  have c0 : w2.cell? ⟨w.heap.size, 0, none⟩ = some (.int .i64 p.cls) := HK2.out.tl.tl.tl.tl.hd.at HC_VP_0.out
  go_upto_region 3 with (fail)
  have hr0 := HK2.out.hd.range
  have hkc := HK2.out.tl.hd
  have htf : w2.there (w.heap.size + 1 + 1 + 1) 0 Z.toArray.size := hkc.there _ (Nat.le_refl _)
  go_wp2_with (((with_reducible (change wpList _ _ _ _ _ _)); (first | (refine wpList_load_mid rfl 25 _ rfl (g0) 0 rfl (Z) _ hr0 Try.underlying25 rfl HI_Z.out ?_) | (refine wpList_store_mid rfl 25 _ _ rfl (w.heap.size + 1 + 1 + 1) 0 Z.toArray rfl rfl htf (by simpa using HI_Z.out) HO_Z.out ?_))))
  have hk5 := Bk.sets Z 0 _ _ hkc
  rw [puts_whole Z.toArray Z (by simp)] at hk5
  refine bodyPost_ret (v := .tuple #[.agg Z.toArray, .int .i64 13]) ?_ rfl ?_
  · exact results_cell2 rfl rfl rfl (run_loadVar_mid _ (w.heap.size + 1 + 1 + 1) 0 25 Z _ hk5.range Try.underlying25 rfl HI_Z.out)
  · exact ⟨by rw [HZ.out], below_sets _ (by omega) 0 _ HK2.out.2.1⟩
set_option maxRecDepth 100000 in
set_option maxHeartbeats 4000000 in
theorem rhead64_r3 (p : Pk6) (v : Value) (f0 f1 f2 f3 t0 t1 t2 t3 id : Int) (w : World) (n0 : ¬ (p.hop < 2)) (n1 : ¬ (255 < p.hop)) (n2 : ¬ (p.cls < 0)) (h3 : (255 < p.cls)) :
    Calls Try.prog 15 #[.agg (p.vals v).toArray, .agg ([.int .u8 f0, .int .u8 f1, .int .u8 f2, .int .u8 f3] : List Value).toArray, .agg ([.int .u8 t0, .int .u8 t1, .int .u8 t2, .int .u8 t3] : List Value).toArray, .int .i64 id] w (fun e w' => e = .returned (.tuple #[.agg (P4.pkt0.vals).toArray, .int .i64 13]) ∧ Below w.heap.size w w') := by
  obtain ⟨Z, hZ⟩ : ∃ Z, Z = P4.pkt0.vals := ⟨_, rfl⟩
  have HBZ : Hid (∀ W, (Instr.build 25 #[]).run Try.prog W = .ok (.agg Z.toArray) W) := Lib.hid (fun W => by rw [hZ]; exact build4Z W)
  have HI_Z : Hid ((Try.prog.info? 25).map (·.size) = some Z.length) := Lib.hid (by rw [hZ]; exact P4.Try.infoIp _)
  have HO_Z : Hid (Z.toArray.all (·.oneCell') = true) := Lib.hid (by rw [hZ]; exact P4.vals_one _)
  have HL_Z : Hid (Z.length = 17) := Lib.hid (by rw [hZ]; rfl)
  have hz0 : Z.toArray = #[.int .i64 0, .int .i64 0, .int .i64 0, .int .i64 0, .int .i64 0, .bool false, .bool false, .int .u8 0, .int .u8 0, .int .u8 0, .int .u8 0, .int .u8 0, .int .u8 0, .int .u8 0, .int .u8 0, .string ⟨#[]⟩, .string ⟨#[]⟩] := by rw [hZ]; rfl
  have HZ := Lib.hid hZ
  clear hZ
  have HI_VP : Hid ((Try.prog.info? 35).map (·.size) = some (p.vals v).length) := Lib.hid (Try.info6 _ _)
  have HC_VP_0 : Hid ((p.vals v)[0]? = some (.int .i64 p.cls)) := Lib.hid (rfl)
  have HC_VP_2 : Hid ((p.vals v)[2]? = some (.int .i64 p.hop)) := Lib.hid (rfl)
  have HC_VP_35 : Hid ((p.vals v)[35]? = some (v)) := Lib.hid (vals_tail p v 0)
  have HC_VP_36 : Hid ((p.vals v)[36]? = some (.bool p.frag)) := Lib.hid (vals_tail p v 1)
  have HC_VP_37 : Hid ((p.vals v)[37]? = some (.int .u32 p.id)) := Lib.hid (vals_tail p v 2)
  have HC_VP_38 : Hid ((p.vals v)[38]? = some (.int .i64 p.pl)) := Lib.hid (vals_tail p v 3)
  have HC_VP_39 : Hid ((p.vals v)[39]? = some (.bool p.more)) := Lib.hid (vals_tail p v 4)
  have HC_VP_40 : Hid ((p.vals v)[40]? = some (.int .i64 p.proto)) := Lib.hid (vals_tail p v 5)
  have HC_VP_41 : Hid ((p.vals v)[41]? = some (.string p.data)) := Lib.hid (vals_tail p v 6)
  have HI_VF : Hid ((Try.prog.info? 23).map (·.size) = some (([.int .u8 f0, .int .u8 f1, .int .u8 f2, .int .u8 f3] : List Value)).length) := Lib.hid (Try.infoV4c _ _ _ _)
  have HO_VF : Hid ((([.int .u8 f0, .int .u8 f1, .int .u8 f2, .int .u8 f3] : List Value)).toArray.all (·.oneCell') = true) := Lib.hid (by simp [Value.oneCell'])
  have HL_VF : Hid ((([.int .u8 f0, .int .u8 f1, .int .u8 f2, .int .u8 f3] : List Value)).length = 4) := Lib.hid rfl
  have HI_VT : Hid ((Try.prog.info? 23).map (·.size) = some (([.int .u8 t0, .int .u8 t1, .int .u8 t2, .int .u8 t3] : List Value)).length) := Lib.hid (Try.infoV4c _ _ _ _)
  have HO_VT : Hid ((([.int .u8 t0, .int .u8 t1, .int .u8 t2, .int .u8 t3] : List Value)).toArray.all (·.oneCell') = true) := Lib.hid (by simp [Value.oneCell'])
  have HL_VT : Hid ((([.int .u8 t0, .int .u8 t1, .int .u8 t2, .int .u8 t3] : List Value)).length = 4) := Lib.hid rfl
  have HK1 : Hid (Kp w w.heap.size [(w.heap.size + 1 + 1 + 1, 25, Z), (w.heap.size + 1 + 1, 23, ([.int .u8 t0, .int .u8 t1, .int .u8 t2, .int .u8 t3] : List Value)), (w.heap.size + 1, 23, ([.int .u8 f0, .int .u8 f1, .int .u8 f2, .int .u8 f3] : List Value)), (w.heap.size, 35, p.vals v)] ((((w.alloc (.cells (p.vals v).toArray 35)).alloc (.cells ([.int .u8 f0, .int .u8 f1, .int .u8 f2, .int .u8 f3] : List Value).toArray 23)).alloc (.cells ([.int .u8 t0, .int .u8 t1, .int .u8 t2, .int .u8 t3] : List Value).toArray 23)).alloc (.cells Z.toArray 25))) := Lib.hid (by
    have h := (((Kp.start w).new 35 (p.vals v)).new 23 ([.int .u8 f0, .int .u8 f1, .int .u8 f2, .int .u8 f3] : List Value)).new 23 ([.int .u8 t0, .int .u8 t1, .int .u8 t2, .int .u8 t3] : List Value)
    have e1 : (w.alloc (.cells (p.vals v).toArray 35)).heap.size = w.heap.size + 1 := by simp
    have e2 : ((w.alloc (.cells (p.vals v).toArray 35)).alloc (.cells ([.int .u8 f0, .int .u8 f1, .int .u8 f2, .int .u8 f3] : List Value).toArray 23)).heap.size = w.heap.size + 1 + 1 := by simp
    have e3 : (((w.alloc (.cells (p.vals v).toArray 35)).alloc (.cells ([.int .u8 f0, .int .u8 f1, .int .u8 f2, .int .u8 f3] : List Value).toArray 23)).alloc (.cells ([.int .u8 t0, .int .u8 t1, .int .u8 t2, .int .u8 t3] : List Value).toArray 23)).heap.size = w.heap.size + 1 + 1 + 1 := by simp
    rw [e1, e2] at h
    have h2 := h.new 25 Z
    rwa [e3] at h2)

  generalize p.vals v = VP at *
  generalize ([.int .u8 f0, .int .u8 f1, .int .u8 f2, .int .u8 f3] : List Value) = VF at *
  generalize ([.int .u8 t0, .int .u8 t1, .int .u8 t2, .int .u8 t3] : List Value) = VT at *
  generalize hw1 : (((w.alloc (.cells VP.toArray 35)).alloc (.cells VF.toArray 23)).alloc (.cells VT.toArray 23)).alloc (.cells Z.toArray 25) = w1 at *
  rw [hz0] at hw1
  go_enter Try.func15, Try.ntmps15
  go_upto_region 1 with (fail)
  clear hw1 hz0
  have ht := (bk_new w1 25 ([.int .i64 0, .int .i64 0, .int .i64 0, .int .i64 0, .int .i64 0, .bool false, .bool false, .int .u8 0, .int .u8 0, .int .u8 0, .int .u8 0, .int .u8 0, .int .u8 0, .int .u8 0, .int .u8 0, .string ⟨#[]⟩, .string ⟨#[]⟩] : List Value).toArray).there Z.toArray.size (by have := HL_Z.out; simp; omega)
  go_upto_region 2 with (((with_reducible (change wpList _ _ _ _ _ _)); (first | (refine Great.wpList_readTo rfl _ rfl (.agg Z.toArray) (run_execN (T := 25) (l := #[]) (m := #[]) rfl (by simp) (HBZ.out _)) ?_) | (refine wpList_store_mid rfl 25 _ _ rfl (w1.heap.size) 0 Z.toArray rfl rfl ht (by simpa using HI_Z.out) HO_Z.out ?_))))
  have HK2 := Lib.hid (HK1.out.put 25 ([.int .i64 0, .int .i64 0, .int .i64 0, .int .i64 0, .int .i64 0, .bool false, .bool false, .int .u8 0, .int .u8 0, .int .u8 0, .int .u8 0, .int .u8 0, .int .u8 0, .int .u8 0, .int .u8 0, .string ⟨#[]⟩, .string ⟨#[]⟩] : List Value).toArray Z (by have := HL_Z.out; simp; omega))
  clear ht HK1
  generalize (w1.alloc (.cells ([.int .i64 0, .int .i64 0, .int .i64 0, .int .i64 0, .int .i64 0, .bool false, .bool false, .int .u8 0, .int .u8 0, .int .u8 0, .int .u8 0, .int .u8 0, .int .u8 0, .int .u8 0, .int .u8 0, .string ⟨#[]⟩, .string ⟨#[]⟩] : List Value).toArray 25)).setCells w1.heap.size 0 Z = w2 at *
  generalize w1.heap.size = g0 at *
  have c2 : w2.cell? ⟨w.heap.size, 2, none⟩ = some (.int .i64 p.hop) := HK2.out.tl.tl.tl.tl.hd.at HC_VP_2.out
  have c0 : w2.cell? ⟨w.heap.size, 0, none⟩ = some (.int .i64 p.cls) := HK2.out.tl.tl.tl.tl.hd.at HC_VP_0.out
  go_upto_region 3 with (fail)
  have hr0 := HK2.out.hd.range
  have hkc := HK2.out.tl.hd
  have htf : w2.there (w.heap.size + 1 + 1 + 1) 0 Z.toArray.size := hkc.there _ (Nat.le_refl _)
  go_wp2_with (((with_reducible (change wpList _ _ _ _ _ _)); (first | (refine wpList_load_mid rfl 25 _ rfl (g0) 0 rfl (Z) _ hr0 Try.underlying25 rfl HI_Z.out ?_) | (refine wpList_store_mid rfl 25 _ _ rfl (w.heap.size + 1 + 1 + 1) 0 Z.toArray rfl rfl htf (by simpa using HI_Z.out) HO_Z.out ?_))))
  have hk5 := Bk.sets Z 0 _ _ hkc
  rw [puts_whole Z.toArray Z (by simp)] at hk5
  refine bodyPost_ret (v := .tuple #[.agg Z.toArray, .int .i64 13]) ?_ rfl ?_
  · exact results_cell2 rfl rfl rfl (run_loadVar_mid _ (w.heap.size + 1 + 1 + 1) 0 25 Z _ hk5.range Try.underlying25 rfl HI_Z.out)
  · exact ⟨by rw [HZ.out], below_sets _ (by omega) 0 _ HK2.out.2.1⟩
set_option maxRecDepth 100000 in
set_option maxHeartbeats 4000000 in
theorem rhead64_r4 (p : Pk6) (v : Value) (f0 f1 f2 f3 t0 t1 t2 t3 id : Int) (w : World) (n0 : ¬ (p.hop < 2)) (n1 : ¬ (255 < p.hop)) (n2 : ¬ (p.cls < 0)) (n3 : ¬ (255 < p.cls)) (h4 : (id < 0)) :
    Calls Try.prog 15 #[.agg (p.vals v).toArray, .agg ([.int .u8 f0, .int .u8 f1, .int .u8 f2, .int .u8 f3] : List Value).toArray, .agg ([.int .u8 t0, .int .u8 t1, .int .u8 t2, .int .u8 t3] : List Value).toArray, .int .i64 id] w (fun e w' => e = .returned (.tuple #[.agg (P4.pkt0.vals).toArray, .int .i64 13]) ∧ Below w.heap.size w w') := by
  obtain ⟨Z, hZ⟩ : ∃ Z, Z = P4.pkt0.vals := ⟨_, rfl⟩
  have HBZ : Hid (∀ W, (Instr.build 25 #[]).run Try.prog W = .ok (.agg Z.toArray) W) := Lib.hid (fun W => by rw [hZ]; exact build4Z W)
  have HI_Z : Hid ((Try.prog.info? 25).map (·.size) = some Z.length) := Lib.hid (by rw [hZ]; exact P4.Try.infoIp _)
  have HO_Z : Hid (Z.toArray.all (·.oneCell') = true) := Lib.hid (by rw [hZ]; exact P4.vals_one _)
  have HL_Z : Hid (Z.length = 17) := Lib.hid (by rw [hZ]; rfl)
  have hz0 : Z.toArray = #[.int .i64 0, .int .i64 0, .int .i64 0, .int .i64 0, .int .i64 0, .bool false, .bool false, .int .u8 0, .int .u8 0, .int .u8 0, .int .u8 0, .int .u8 0, .int .u8 0, .int .u8 0, .int .u8 0, .string ⟨#[]⟩, .string ⟨#[]⟩] := by rw [hZ]; rfl
  have HZ := Lib.hid hZ
  clear hZ
  have HI_VP : Hid ((Try.prog.info? 35).map (·.size) = some (p.vals v).length) := Lib.hid (Try.info6 _ _)
  have HC_VP_0 : Hid ((p.vals v)[0]? = some (.int .i64 p.cls)) := Lib.hid (rfl)
  have HC_VP_2 : Hid ((p.vals v)[2]? = some (.int .i64 p.hop)) := Lib.hid (rfl)
  have HC_VP_35 : Hid ((p.vals v)[35]? = some (v)) := Lib.hid (vals_tail p v 0)
  have HC_VP_36 : Hid ((p.vals v)[36]? = some (.bool p.frag)) := Lib.hid (vals_tail p v 1)
  have HC_VP_37 : Hid ((p.vals v)[37]? = some (.int .u32 p.id)) := Lib.hid (vals_tail p v 2)
  have HC_VP_38 : Hid ((p.vals v)[38]? = some (.int .i64 p.pl)) := Lib.hid (vals_tail p v 3)
  have HC_VP_39 : Hid ((p.vals v)[39]? = some (.bool p.more)) := Lib.hid (vals_tail p v 4)
  have HC_VP_40 : Hid ((p.vals v)[40]? = some (.int .i64 p.proto)) := Lib.hid (vals_tail p v 5)
  have HC_VP_41 : Hid ((p.vals v)[41]? = some (.string p.data)) := Lib.hid (vals_tail p v 6)
  have HI_VF : Hid ((Try.prog.info? 23).map (·.size) = some (([.int .u8 f0, .int .u8 f1, .int .u8 f2, .int .u8 f3] : List Value)).length) := Lib.hid (Try.infoV4c _ _ _ _)
  have HO_VF : Hid ((([.int .u8 f0, .int .u8 f1, .int .u8 f2, .int .u8 f3] : List Value)).toArray.all (·.oneCell') = true) := Lib.hid (by simp [Value.oneCell'])
  have HL_VF : Hid ((([.int .u8 f0, .int .u8 f1, .int .u8 f2, .int .u8 f3] : List Value)).length = 4) := Lib.hid rfl
  have HI_VT : Hid ((Try.prog.info? 23).map (·.size) = some (([.int .u8 t0, .int .u8 t1, .int .u8 t2, .int .u8 t3] : List Value)).length) := Lib.hid (Try.infoV4c _ _ _ _)
  have HO_VT : Hid ((([.int .u8 t0, .int .u8 t1, .int .u8 t2, .int .u8 t3] : List Value)).toArray.all (·.oneCell') = true) := Lib.hid (by simp [Value.oneCell'])
  have HL_VT : Hid ((([.int .u8 t0, .int .u8 t1, .int .u8 t2, .int .u8 t3] : List Value)).length = 4) := Lib.hid rfl
  have HK1 : Hid (Kp w w.heap.size [(w.heap.size + 1 + 1 + 1, 25, Z), (w.heap.size + 1 + 1, 23, ([.int .u8 t0, .int .u8 t1, .int .u8 t2, .int .u8 t3] : List Value)), (w.heap.size + 1, 23, ([.int .u8 f0, .int .u8 f1, .int .u8 f2, .int .u8 f3] : List Value)), (w.heap.size, 35, p.vals v)] ((((w.alloc (.cells (p.vals v).toArray 35)).alloc (.cells ([.int .u8 f0, .int .u8 f1, .int .u8 f2, .int .u8 f3] : List Value).toArray 23)).alloc (.cells ([.int .u8 t0, .int .u8 t1, .int .u8 t2, .int .u8 t3] : List Value).toArray 23)).alloc (.cells Z.toArray 25))) := Lib.hid (by
    have h := (((Kp.start w).new 35 (p.vals v)).new 23 ([.int .u8 f0, .int .u8 f1, .int .u8 f2, .int .u8 f3] : List Value)).new 23 ([.int .u8 t0, .int .u8 t1, .int .u8 t2, .int .u8 t3] : List Value)
    have e1 : (w.alloc (.cells (p.vals v).toArray 35)).heap.size = w.heap.size + 1 := by simp
    have e2 : ((w.alloc (.cells (p.vals v).toArray 35)).alloc (.cells ([.int .u8 f0, .int .u8 f1, .int .u8 f2, .int .u8 f3] : List Value).toArray 23)).heap.size = w.heap.size + 1 + 1 := by simp
    have e3 : (((w.alloc (.cells (p.vals v).toArray 35)).alloc (.cells ([.int .u8 f0, .int .u8 f1, .int .u8 f2, .int .u8 f3] : List Value).toArray 23)).alloc (.cells ([.int .u8 t0, .int .u8 t1, .int .u8 t2, .int .u8 t3] : List Value).toArray 23)).heap.size = w.heap.size + 1 + 1 + 1 := by simp
    rw [e1, e2] at h
    have h2 := h.new 25 Z
    rwa [e3] at h2)

  generalize p.vals v = VP at *
  generalize ([.int .u8 f0, .int .u8 f1, .int .u8 f2, .int .u8 f3] : List Value) = VF at *
  generalize ([.int .u8 t0, .int .u8 t1, .int .u8 t2, .int .u8 t3] : List Value) = VT at *
  generalize hw1 : (((w.alloc (.cells VP.toArray 35)).alloc (.cells VF.toArray 23)).alloc (.cells VT.toArray 23)).alloc (.cells Z.toArray 25) = w1 at *
  rw [hz0] at hw1
  go_enter Try.func15, Try.ntmps15
  go_upto_region 1 with (fail)
  clear hw1 hz0
  have ht := (bk_new w1 25 ([.int .i64 0, .int .i64 0, .int .i64 0, .int .i64 0, .int .i64 0, .bool false, .bool false, .int .u8 0, .int .u8 0, .int .u8 0, .int .u8 0, .int .u8 0, .int .u8 0, .int .u8 0, .int .u8 0, .string ⟨#[]⟩, .string ⟨#[]⟩] : List Value).toArray).there Z.toArray.size (by have := HL_Z.out; simp; omega)
  go_upto_region 2 with (((with_reducible (change wpList _ _ _ _ _ _)); (first | (refine Great.wpList_readTo rfl _ rfl (.agg Z.toArray) (run_execN (T := 25) (l := #[]) (m := #[]) rfl (by simp) (HBZ.out _)) ?_) | (refine wpList_store_mid rfl 25 _ _ rfl (w1.heap.size) 0 Z.toArray rfl rfl ht (by simpa using HI_Z.out) HO_Z.out ?_))))
  have HK2 := Lib.hid (HK1.out.put 25 ([.int .i64 0, .int .i64 0, .int .i64 0, .int .i64 0, .int .i64 0, .bool false, .bool false, .int .u8 0, .int .u8 0, .int .u8 0, .int .u8 0, .int .u8 0, .int .u8 0, .int .u8 0, .int .u8 0, .string ⟨#[]⟩, .string ⟨#[]⟩] : List Value).toArray Z (by have := HL_Z.out; simp; omega))
  clear ht HK1
  generalize (w1.alloc (.cells ([.int .i64 0, .int .i64 0, .int .i64 0, .int .i64 0, .int .i64 0, .bool false, .bool false, .int .u8 0, .int .u8 0, .int .u8 0, .int .u8 0, .int .u8 0, .int .u8 0, .int .u8 0, .int .u8 0, .string ⟨#[]⟩, .string ⟨#[]⟩] : List Value).toArray 25)).setCells w1.heap.size 0 Z = w2 at *
  generalize w1.heap.size = g0 at *
  have c2 : w2.cell? ⟨w.heap.size, 2, none⟩ = some (.int .i64 p.hop) := HK2.out.tl.tl.tl.tl.hd.at HC_VP_2.out
  have c0 : w2.cell? ⟨w.heap.size, 0, none⟩ = some (.int .i64 p.cls) := HK2.out.tl.tl.tl.tl.hd.at HC_VP_0.out
  go_upto_region 3 with (fail)
  have hr0 := HK2.out.hd.range
  have hkc := HK2.out.tl.hd
  have htf : w2.there (w.heap.size + 1 + 1 + 1) 0 Z.toArray.size := hkc.there _ (Nat.le_refl _)
  go_wp2_with (((with_reducible (change wpList _ _ _ _ _ _)); (first | (refine wpList_load_mid rfl 25 _ rfl (g0) 0 rfl (Z) _ hr0 Try.underlying25 rfl HI_Z.out ?_) | (refine wpList_store_mid rfl 25 _ _ rfl (w.heap.size + 1 + 1 + 1) 0 Z.toArray rfl rfl htf (by simpa using HI_Z.out) HO_Z.out ?_))))
  have hk5 := Bk.sets Z 0 _ _ hkc
  rw [puts_whole Z.toArray Z (by simp)] at hk5
  refine bodyPost_ret (v := .tuple #[.agg Z.toArray, .int .i64 13]) ?_ rfl ?_
  · exact results_cell2 rfl rfl rfl (run_loadVar_mid _ (w.heap.size + 1 + 1 + 1) 0 25 Z _ hk5.range Try.underlying25 rfl HI_Z.out)
  · exact ⟨by rw [HZ.out], below_sets _ (by omega) 0 _ HK2.out.2.1⟩
set_option maxRecDepth 100000 in
set_option maxHeartbeats 4000000 in
theorem rhead64_r5 (p : Pk6) (v : Value) (f0 f1 f2 f3 t0 t1 t2 t3 id : Int) (w : World) (n0 : ¬ (p.hop < 2)) (n1 : ¬ (255 < p.hop)) (n2 : ¬ (p.cls < 0)) (n3 : ¬ (255 < p.cls)) (n4 : ¬ (id < 0)) (h5 : (65535 < id)) :
    Calls Try.prog 15 #[.agg (p.vals v).toArray, .agg ([.int .u8 f0, .int .u8 f1, .int .u8 f2, .int .u8 f3] : List Value).toArray, .agg ([.int .u8 t0, .int .u8 t1, .int .u8 t2, .int .u8 t3] : List Value).toArray, .int .i64 id] w (fun e w' => e = .returned (.tuple #[.agg (P4.pkt0.vals).toArray, .int .i64 13]) ∧ Below w.heap.size w w') := by
  obtain ⟨Z, hZ⟩ : ∃ Z, Z = P4.pkt0.vals := ⟨_, rfl⟩
  have HBZ : Hid (∀ W, (Instr.build 25 #[]).run Try.prog W = .ok (.agg Z.toArray) W) := Lib.hid (fun W => by rw [hZ]; exact build4Z W)
  have HI_Z : Hid ((Try.prog.info? 25).map (·.size) = some Z.length) := Lib.hid (by rw [hZ]; exact P4.Try.infoIp _)
  have HO_Z : Hid (Z.toArray.all (·.oneCell') = true) := Lib.hid (by rw [hZ]; exact P4.vals_one _)
  have HL_Z : Hid (Z.length = 17) := Lib.hid (by rw [hZ]; rfl)
  have hz0 : Z.toArray = #[.int .i64 0, .int .i64 0, .int .i64 0, .int .i64 0, .int .i64 0, .bool false, .bool false, .int .u8 0, .int .u8 0, .int .u8 0, .int .u8 0, .int .u8 0, .int .u8 0, .int .u8 0, .int .u8 0, .string ⟨#[]⟩, .string ⟨#[]⟩] := by rw [hZ]; rfl
  have HZ := Lib.hid hZ
  clear hZ
  have HI_VP : Hid ((Try.prog.info? 35).map (·.size) = some (p.vals v).length) := Lib.hid (Try.info6 _ _)
  have HC_VP_0 : Hid ((p.vals v)[0]? = some (.int .i64 p.cls)) := Lib.hid (rfl)
  have HC_VP_2 : Hid ((p.vals v)[2]? = some (.int .i64 p.hop)) := Lib.hid (rfl)
  have HC_VP_35 : Hid ((p.vals v)[35]? = some (v)) := Lib.hid (vals_tail p v 0)
  have HC_VP_36 : Hid ((p.vals v)[36]? = some (.bool p.frag)) := Lib.hid (vals_tail p v 1)
  have HC_VP_37 : Hid ((p.vals v)[37]? = some (.int .u32 p.id)) := Lib.hid (vals_tail p v 2)
  have HC_VP_38 : Hid ((p.vals v)[38]? = some (.int .i64 p.pl)) := Lib.hid (vals_tail p v 3)
  have HC_VP_39 : Hid ((p.vals v)[39]? = some (.bool p.more)) := Lib.hid (vals_tail p v 4)
  have HC_VP_40 : Hid ((p.vals v)[40]? = some (.int .i64 p.proto)) := Lib.hid (vals_tail p v 5)
  have HC_VP_41 : Hid ((p.vals v)[41]? = some (.string p.data)) := Lib.hid (vals_tail p v 6)
  have HI_VF : Hid ((Try.prog.info? 23).map (·.size) = some (([.int .u8 f0, .int .u8 f1, .int .u8 f2, .int .u8 f3] : List Value)).length) := Lib.hid (Try.infoV4c _ _ _ _)
  have HO_VF : Hid ((([.int .u8 f0, .int .u8 f1, .int .u8 f2, .int .u8 f3] : List Value)).toArray.all (·.oneCell') = true) := Lib.hid (by simp [Value.oneCell'])
  have HL_VF : Hid ((([.int .u8 f0, .int .u8 f1, .int .u8 f2, .int .u8 f3] : List Value)).length = 4) := Lib.hid rfl
  have HI_VT : Hid ((Try.prog.info? 23).map (·.size) = some (([.int .u8 t0, .int .u8 t1, .int .u8 t2, .int .u8 t3] : List Value)).length) := Lib.hid (Try.infoV4c _ _ _ _)
  have HO_VT : Hid ((([.int .u8 t0, .int .u8 t1, .int .u8 t2, .int .u8 t3] : List Value)).toArray.all (·.oneCell') = true) := Lib.hid (by simp [Value.oneCell'])
  have HL_VT : Hid ((([.int .u8 t0, .int .u8 t1, .int .u8 t2, .int .u8 t3] : List Value)).length = 4) := Lib.hid rfl
  have HK1 : Hid (Kp w w.heap.size [(w.heap.size + 1 + 1 + 1, 25, Z), (w.heap.size + 1 + 1, 23, ([.int .u8 t0, .int .u8 t1, .int .u8 t2, .int .u8 t3] : List Value)), (w.heap.size + 1, 23, ([.int .u8 f0, .int .u8 f1, .int .u8 f2, .int .u8 f3] : List Value)), (w.heap.size, 35, p.vals v)] ((((w.alloc (.cells (p.vals v).toArray 35)).alloc (.cells ([.int .u8 f0, .int .u8 f1, .int .u8 f2, .int .u8 f3] : List Value).toArray 23)).alloc (.cells ([.int .u8 t0, .int .u8 t1, .int .u8 t2, .int .u8 t3] : List Value).toArray 23)).alloc (.cells Z.toArray 25))) := Lib.hid (by
    have h := (((Kp.start w).new 35 (p.vals v)).new 23 ([.int .u8 f0, .int .u8 f1, .int .u8 f2, .int .u8 f3] : List Value)).new 23 ([.int .u8 t0, .int .u8 t1, .int .u8 t2, .int .u8 t3] : List Value)
    have e1 : (w.alloc (.cells (p.vals v).toArray 35)).heap.size = w.heap.size + 1 := by simp
    have e2 : ((w.alloc (.cells (p.vals v).toArray 35)).alloc (.cells ([.int .u8 f0, .int .u8 f1, .int .u8 f2, .int .u8 f3] : List Value).toArray 23)).heap.size = w.heap.size + 1 + 1 := by simp
    have e3 : (((w.alloc (.cells (p.vals v).toArray 35)).alloc (.cells ([.int .u8 f0, .int .u8 f1, .int .u8 f2, .int .u8 f3] : List Value).toArray 23)).alloc (.cells ([.int .u8 t0, .int .u8 t1, .int .u8 t2, .int .u8 t3] : List Value).toArray 23)).heap.size = w.heap.size + 1 + 1 + 1 := by simp
    rw [e1, e2] at h
    have h2 := h.new 25 Z
    rwa [e3] at h2)

  generalize p.vals v = VP at *
  generalize ([.int .u8 f0, .int .u8 f1, .int .u8 f2, .int .u8 f3] : List Value) = VF at *
  generalize ([.int .u8 t0, .int .u8 t1, .int .u8 t2, .int .u8 t3] : List Value) = VT at *
  generalize hw1 : (((w.alloc (.cells VP.toArray 35)).alloc (.cells VF.toArray 23)).alloc (.cells VT.toArray 23)).alloc (.cells Z.toArray 25) = w1 at *
  rw [hz0] at hw1
  go_enter Try.func15, Try.ntmps15
  go_upto_region 1 with (fail)
  clear hw1 hz0
  have ht := (bk_new w1 25 ([.int .i64 0, .int .i64 0, .int .i64 0, .int .i64 0, .int .i64 0, .bool false, .bool false, .int .u8 0, .int .u8 0, .int .u8 0, .int .u8 0, .int .u8 0, .int .u8 0, .int .u8 0, .int .u8 0, .string ⟨#[]⟩, .string ⟨#[]⟩] : List Value).toArray).there Z.toArray.size (by have := HL_Z.out; simp; omega)
  go_upto_region 2 with (((with_reducible (change wpList _ _ _ _ _ _)); (first | (refine Great.wpList_readTo rfl _ rfl (.agg Z.toArray) (run_execN (T := 25) (l := #[]) (m := #[]) rfl (by simp) (HBZ.out _)) ?_) | (refine wpList_store_mid rfl 25 _ _ rfl (w1.heap.size) 0 Z.toArray rfl rfl ht (by simpa using HI_Z.out) HO_Z.out ?_))))
  have HK2 := Lib.hid (HK1.out.put 25 ([.int .i64 0, .int .i64 0, .int .i64 0, .int .i64 0, .int .i64 0, .bool false, .bool false, .int .u8 0, .int .u8 0, .int .u8 0, .int .u8 0, .int .u8 0, .int .u8 0, .int .u8 0, .int .u8 0, .string ⟨#[]⟩, .string ⟨#[]⟩] : List Value).toArray Z (by have := HL_Z.out; simp; omega))
  clear ht HK1
  generalize (w1.alloc (.cells ([.int .i64 0, .int .i64 0, .int .i64 0, .int .i64 0, .int .i64 0, .bool false, .bool false, .int .u8 0, .int .u8 0, .int .u8 0, .int .u8 0, .int .u8 0, .int .u8 0, .int .u8 0, .int .u8 0, .string ⟨#[]⟩, .string ⟨#[]⟩] : List Value).toArray 25)).setCells w1.heap.size 0 Z = w2 at *
  generalize w1.heap.size = g0 at *
  have c2 : w2.cell? ⟨w.heap.size, 2, none⟩ = some (.int .i64 p.hop) := HK2.out.tl.tl.tl.tl.hd.at HC_VP_2.out
  have c0 : w2.cell? ⟨w.heap.size, 0, none⟩ = some (.int .i64 p.cls) := HK2.out.tl.tl.tl.tl.hd.at HC_VP_0.out
  go_upto_region 3 with (fail)
  have hr0 := HK2.out.hd.range
  have hkc := HK2.out.tl.hd
  have htf : w2.there (w.heap.size + 1 + 1 + 1) 0 Z.toArray.size := hkc.there _ (Nat.le_refl _)
  go_wp2_with (((with_reducible (change wpList _ _ _ _ _ _)); (first | (refine wpList_load_mid rfl 25 _ rfl (g0) 0 rfl (Z) _ hr0 Try.underlying25 rfl HI_Z.out ?_) | (refine wpList_store_mid rfl 25 _ _ rfl (w.heap.size + 1 + 1 + 1) 0 Z.toArray rfl rfl htf (by simpa using HI_Z.out) HO_Z.out ?_))))
  have hk5 := Bk.sets Z 0 _ _ hkc
  rw [puts_whole Z.toArray Z (by simp)] at hk5
  refine bodyPost_ret (v := .tuple #[.agg Z.toArray, .int .i64 13]) ?_ rfl ?_
  · exact results_cell2 rfl rfl rfl (run_loadVar_mid _ (w.heap.size + 1 + 1 + 1) 0 25 Z _ hk5.range Try.underlying25 rfl HI_Z.out)
  · exact ⟨by rw [HZ.out], below_sets _ (by omega) 0 _ HK2.out.2.1⟩
end Go.Proofs.Ytkihhmnlefekoaa
