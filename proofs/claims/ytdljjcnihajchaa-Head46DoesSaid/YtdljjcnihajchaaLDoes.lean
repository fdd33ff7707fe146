/-
  Proved here: the law Head46Does answers true.
  Conditions: none.
-/
import Derived.Test.YtdljjcnihajchaaAwk
namespace Go.Proofs.Ytdljjcnihajchaa
open Go.RowKit

set_option maxRecDepth 100000 in
set_option maxHeartbeats 4000000 in
theorem does_data (p : P4.Pkt) (F T : List UInt8) (n : Int) (hF : F.length = 16) (hT : T.length = 16) (w : World) (hd : (70000 : Int) < (p.data.size : Int)) :
    Calls Try.prog 4 #[.agg p.vals.toArray, .agg (bytV F).toArray, .agg (bytV T).toArray, .int .i64 n] w fun e w' => e = .returned (.bool true) ∧ Below w.heap.size w w' := by
  have HI_VP : Hid ((Try.prog.info? 35).map (·.size) = some (p.vals).length) := Lib.hid (P4.Try.infoIp _)
  have HO_VP : Hid ((p.vals).toArray.all (·.oneCell') = true) := Lib.hid (P4.vals_one _)
  have HL_VP : Hid ((p.vals).length = 17) := Lib.hid rfl
  have HI_VF : Hid ((Try.prog.info? 23).map (·.size) = some (bytV F).length) := Lib.hid (Try.infoV6 _ hF)
  have HO_VF : Hid ((bytV F).toArray.all (·.oneCell') = true) := Lib.hid (by rw [List.all_toArray, List.all_eq_true]; exact bytV_one _)
  have HL_VF : Hid ((bytV F).length = 16) := Lib.hid (by rw [bytV_len]; exact hF)
  have HI_VT : Hid ((Try.prog.info? 23).map (·.size) = some (bytV T).length) := Lib.hid (Try.infoV6 _ hT)
  have HO_VT : Hid ((bytV T).toArray.all (·.oneCell') = true) := Lib.hid (by rw [List.all_toArray, List.all_eq_true]; exact bytV_one _)
  have HL_VT : Hid ((bytV T).length = 16) := Lib.hid (by rw [bytV_len]; exact hT)
  have HC_VP_0 : Hid (p.vals[0]? = some (.int .i64 p.tos)) := Lib.hid rfl
  have HC_VP_1 : Hid (p.vals[1]? = some (.int .i64 p.id)) := Lib.hid rfl
  have HC_VP_2 : Hid (p.vals[2]? = some (.int .i64 p.ttl)) := Lib.hid rfl
  have HC_VP_3 : Hid (p.vals[3]? = some (.int .i64 p.proto)) := Lib.hid rfl
  have HC_VP_4 : Hid (p.vals[4]? = some (.int .i64 p.pl)) := Lib.hid rfl
  have HC_VP_5 : Hid (p.vals[5]? = some (.bool p.df)) := Lib.hid rfl
  have HC_VP_6 : Hid (p.vals[6]? = some (.bool p.more)) := Lib.hid rfl
  have HC_VP_15 : Hid (p.vals[15]? = some (.string p.opts)) := Lib.hid rfl
  have HC_VP_16 : Hid (p.vals[16]? = some (.string p.data)) := Lib.hid rfl
  have HK1 : Hid (Kp w w.heap.size [(w.heap.size + 1 + 1, 23, bytV T), (w.heap.size + 1, 23, bytV F), (w.heap.size, 35, p.vals)] (((w.alloc (.cells p.vals.toArray 35)).alloc (.cells (bytV F).toArray 23)).alloc (.cells (bytV T).toArray 23))) := Lib.hid (by
    have h := ((Kp.start w).new 35 p.vals).new 23 (bytV F)
    have e1 : (w.alloc (.cells p.vals.toArray 35)).heap.size = w.heap.size + 1 := by simp
    have e2 : ((w.alloc (.cells p.vals.toArray 35)).alloc (.cells (bytV F).toArray 23)).heap.size = w.heap.size + 1 + 1 := by simp
    rw [e1] at h
    have h2 := h.new 23 (bytV T)
    rwa [e2] at h2)
  generalize p.vals = VP at *
  generalize bytV F = VF at *
  generalize bytV T = VT at *
  generalize hw1 : ((w.alloc (.cells VP.toArray 35)).alloc (.cells VF.toArray 23)).alloc (.cells VT.toArray 23) = w1 at *
  go_enter Try.func4, Try.ntmps4
  go_upto_region 1 with (fail)
  clear hw1
  go_wp2_with (fail)
  refine (awake_true _).mono ?_
  rintro e w2 ⟨rfl, bb⟩
  have HK2 := Lib.hid (HK1.out.below bb (Nat.le_refl _))
  clear bb HK1
  have c16 : w2.cell? ⟨w.heap.size, 16, none⟩ = some (.string p.data) := HK2.out.tl.tl.hd.at HC_VP_16.out
  go_wp2_with (fail)
  go_ret
  exact ⟨rfl, HK2.out.2.1⟩
set_option maxRecDepth 100000 in
set_option maxHeartbeats 4000000 in
theorem does_opts (p : P4.Pkt) (F T : List UInt8) (n : Int) (hF : F.length = 16) (hT : T.length = 16) (w : World) (hd : ¬ (70000 : Int) < (p.data.size : Int)) (ho : (1000 : Int) < (p.opts.size : Int)) :
    Calls Try.prog 4 #[.agg p.vals.toArray, .agg (bytV F).toArray, .agg (bytV T).toArray, .int .i64 n] w fun e w' => e = .returned (.bool true) ∧ Below w.heap.size w w' := by
  have HI_VP : Hid ((Try.prog.info? 35).map (·.size) = some (p.vals).length) := Lib.hid (P4.Try.infoIp _)
  have HO_VP : Hid ((p.vals).toArray.all (·.oneCell') = true) := Lib.hid (P4.vals_one _)
  have HL_VP : Hid ((p.vals).length = 17) := Lib.hid rfl
  have HI_VF : Hid ((Try.prog.info? 23).map (·.size) = some (bytV F).length) := Lib.hid (Try.infoV6 _ hF)
  have HO_VF : Hid ((bytV F).toArray.all (·.oneCell') = true) := Lib.hid (by rw [List.all_toArray, List.all_eq_true]; exact bytV_one _)
  have HL_VF : Hid ((bytV F).length = 16) := Lib.hid (by rw [bytV_len]; exact hF)
  have HI_VT : Hid ((Try.prog.info? 23).map (·.size) = some (bytV T).length) := Lib.hid (Try.infoV6 _ hT)
  have HO_VT : Hid ((bytV T).toArray.all (·.oneCell') = true) := Lib.hid (by rw [List.all_toArray, List.all_eq_true]; exact bytV_one _)
  have HL_VT : Hid ((bytV T).length = 16) := Lib.hid (by rw [bytV_len]; exact hT)
  have HC_VP_0 : Hid (p.vals[0]? = some (.int .i64 p.tos)) := Lib.hid rfl
  have HC_VP_1 : Hid (p.vals[1]? = some (.int .i64 p.id)) := Lib.hid rfl
  have HC_VP_2 : Hid (p.vals[2]? = some (.int .i64 p.ttl)) := Lib.hid rfl
  have HC_VP_3 : Hid (p.vals[3]? = some (.int .i64 p.proto)) := Lib.hid rfl
  have HC_VP_4 : Hid (p.vals[4]? = some (.int .i64 p.pl)) := Lib.hid rfl
  have HC_VP_5 : Hid (p.vals[5]? = some (.bool p.df)) := Lib.hid rfl
  have HC_VP_6 : Hid (p.vals[6]? = some (.bool p.more)) := Lib.hid rfl
  have HC_VP_15 : Hid (p.vals[15]? = some (.string p.opts)) := Lib.hid rfl
  have HC_VP_16 : Hid (p.vals[16]? = some (.string p.data)) := Lib.hid rfl
  have HK1 : Hid (Kp w w.heap.size [(w.heap.size + 1 + 1, 23, bytV T), (w.heap.size + 1, 23, bytV F), (w.heap.size, 35, p.vals)] (((w.alloc (.cells p.vals.toArray 35)).alloc (.cells (bytV F).toArray 23)).alloc (.cells (bytV T).toArray 23))) := Lib.hid (by
    have h := ((Kp.start w).new 35 p.vals).new 23 (bytV F)
    have e1 : (w.alloc (.cells p.vals.toArray 35)).heap.size = w.heap.size + 1 := by simp
    have e2 : ((w.alloc (.cells p.vals.toArray 35)).alloc (.cells (bytV F).toArray 23)).heap.size = w.heap.size + 1 + 1 := by simp
    rw [e1] at h
    have h2 := h.new 23 (bytV T)
    rwa [e2] at h2)
  generalize p.vals = VP at *
  generalize bytV F = VF at *
  generalize bytV T = VT at *
  generalize hw1 : ((w.alloc (.cells VP.toArray 35)).alloc (.cells VF.toArray 23)).alloc (.cells VT.toArray 23) = w1 at *
  go_enter Try.func4, Try.ntmps4
  go_upto_region 1 with (fail)
  clear hw1
  go_wp2_with (fail)
  refine (awake_true _).mono ?_
  rintro e w2 ⟨rfl, bb⟩
  have HK2 := Lib.hid (HK1.out.below bb (Nat.le_refl _))
  clear bb HK1
  have c16 : w2.cell? ⟨w.heap.size, 16, none⟩ = some (.string p.data) := HK2.out.tl.tl.hd.at HC_VP_16.out
  have c15 : w2.cell? ⟨w.heap.size, 15, none⟩ = some (.string p.opts) := HK2.out.tl.tl.hd.at HC_VP_15.out
  go_wp2_with (fail)
  go_ret
  exact ⟨rfl, HK2.out.2.1⟩
set_option maxRecDepth 100000 in
set_option maxHeartbeats 4000000 in
theorem does_main (p : P4.Pkt) (F T : List UInt8) (n : Int) (hF : F.length = 16) (hT : T.length = 16) (w : World) (hd : ¬ (70000 : Int) < (p.data.size : Int)) (ho : ¬ (1000 : Int) < (p.opts.size : Int)) :
    Calls Try.prog 4 #[.agg p.vals.toArray, .agg (bytV F).toArray, .agg (bytV T).toArray, .int .i64 n] w fun e w' => e = .returned (.bool true) ∧ Below w.heap.size w w' := by
  obtain ⟨VQ, hVQ⟩ : ∃ V, V = (hout p F T hF hT).vals (.slice none 0 0) := ⟨_, rfl⟩
  have CH : Hid (∀ W, Calls Try.prog 7 #[.agg p.vals.toArray, .agg (bytV F).toArray, .agg (bytV T).toArray] W fun e w' => ∃ x, e = .returned (.tuple #[.agg VQ.toArray, x]) ∧ ErrV W.heap.size (hcode p) x w' ∧ Below W.heap.size W w') := Lib.hid (fun W => by rw [hVQ]; exact head_any p F T hF hT W)
  have CR : Hid (∀ W, Calls Try.prog 11 #[.agg p.vals.toArray, .agg (bytV F).toArray, .agg (bytV T).toArray] W fun e w' => e = .returned (.tuple #[.agg VQ.toArray, .int .i64 (hcode p)]) ∧ Below W.heap.size W w') := Lib.hid (fun W => by rw [hVQ]; exact rhead_any p F T hF hT W (by omega))
  have CS : Hid (∀ W, Calls Try.prog 9 #[.agg VQ.toArray, .agg VQ.toArray] W fun e w' => e = .returned (.bool true) ∧ Below W.heap.size W w') := Lib.hid (fun W => by rw [hVQ]; exact rsame_nil _ W (hout_exts p F T hF hT))
  have CP := Lib.hid (fun W => proto_any n W)
  have CQ := Lib.hid (fun W => rproto_any n W)
  generalize pr46 n = pn at *
  generalize prOk n = ok at *
  generalize hcode p = c at *
  have HI_VQ : Hid ((Try.prog.info? 27).map (·.size) = some (VQ).length) := Lib.hid (by rw [hVQ]; exact Try.info6 _ _)
  have HO_VQ : Hid ((VQ).toArray.all (·.oneCell') = true) := Lib.hid (by rw [hVQ]; exact vals_one _ _ rfl)
  have HL_VQ : Hid ((VQ).length = 42) := Lib.hid (by rw [hVQ]; exact vals_len _ _)
  clear hVQ
  have HI_VP : Hid ((Try.prog.info? 35).map (·.size) = some (p.vals).length) := Lib.hid (P4.Try.infoIp _)
  have HO_VP : Hid ((p.vals).toArray.all (·.oneCell') = true) := Lib.hid (P4.vals_one _)
  have HL_VP : Hid ((p.vals).length = 17) := Lib.hid rfl
  have HI_VF : Hid ((Try.prog.info? 23).map (·.size) = some (bytV F).length) := Lib.hid (Try.infoV6 _ hF)
  have HO_VF : Hid ((bytV F).toArray.all (·.oneCell') = true) := Lib.hid (by rw [List.all_toArray, List.all_eq_true]; exact bytV_one _)
  have HL_VF : Hid ((bytV F).length = 16) := Lib.hid (by rw [bytV_len]; exact hF)
  have HI_VT : Hid ((Try.prog.info? 23).map (·.size) = some (bytV T).length) := Lib.hid (Try.infoV6 _ hT)
  have HO_VT : Hid ((bytV T).toArray.all (·.oneCell') = true) := Lib.hid (by rw [List.all_toArray, List.all_eq_true]; exact bytV_one _)
  have HL_VT : Hid ((bytV T).length = 16) := Lib.hid (by rw [bytV_len]; exact hT)
  have HC_VP_0 : Hid (p.vals[0]? = some (.int .i64 p.tos)) := Lib.hid rfl
  have HC_VP_1 : Hid (p.vals[1]? = some (.int .i64 p.id)) := Lib.hid rfl
  have HC_VP_2 : Hid (p.vals[2]? = some (.int .i64 p.ttl)) := Lib.hid rfl
  have HC_VP_3 : Hid (p.vals[3]? = some (.int .i64 p.proto)) := Lib.hid rfl
  have HC_VP_4 : Hid (p.vals[4]? = some (.int .i64 p.pl)) := Lib.hid rfl
  have HC_VP_5 : Hid (p.vals[5]? = some (.bool p.df)) := Lib.hid rfl
  have HC_VP_6 : Hid (p.vals[6]? = some (.bool p.more)) := Lib.hid rfl
  have HC_VP_15 : Hid (p.vals[15]? = some (.string p.opts)) := Lib.hid rfl
  have HC_VP_16 : Hid (p.vals[16]? = some (.string p.data)) := Lib.hid rfl
  have HK1 : Hid (Kp w w.heap.size [(w.heap.size + 1 + 1, 23, bytV T), (w.heap.size + 1, 23, bytV F), (w.heap.size, 35, p.vals)] (((w.alloc (.cells p.vals.toArray 35)).alloc (.cells (bytV F).toArray 23)).alloc (.cells (bytV T).toArray 23))) := Lib.hid (by
    have h := ((Kp.start w).new 35 p.vals).new 23 (bytV F)
    have e1 : (w.alloc (.cells p.vals.toArray 35)).heap.size = w.heap.size + 1 := by simp
    have e2 : ((w.alloc (.cells p.vals.toArray 35)).alloc (.cells (bytV F).toArray 23)).heap.size = w.heap.size + 1 + 1 := by simp
    rw [e1] at h
    have h2 := h.new 23 (bytV T)
    rwa [e2] at h2)
  generalize p.vals = VP at *
  generalize bytV F = VF at *
  generalize bytV T = VT at *
  generalize hw1 : ((w.alloc (.cells VP.toArray 35)).alloc (.cells VF.toArray 23)).alloc (.cells VT.toArray 23) = w1 at *
  go_enter Try.func4, Try.ntmps4
  go_upto_region 1 with (fail)
  clear hw1
  go_wp2_with (fail)
  refine (awake_true _).mono ?_
  rintro e w2 ⟨rfl, bb⟩
  have HK2 := Lib.hid (HK1.out.below bb (Nat.le_refl _))
  clear bb HK1
  have c16 : w2.cell? ⟨w.heap.size, 16, none⟩ = some (.string p.data) := HK2.out.tl.tl.hd.at HC_VP_16.out
  have c15 : w2.cell? ⟨w.heap.size, 15, none⟩ = some (.string p.opts) := HK2.out.tl.tl.hd.at HC_VP_15.out
  go_upto_region 5 with (fail)
  clear c16 c15
  have hr0 := HK2.out.tl.tl.hd.range
  have hr1 := HK2.out.tl.hd.range
  have hr2 := HK2.out.hd.range
  go_wp2_with (((with_reducible (change wpList _ _ _ _ _ _)); (first | (refine wpList_load_mid rfl 35 _ rfl (w.heap.size) 0 rfl (VP) _ hr0 Try.underlying35 rfl HI_VP.out ?_) | (refine wpList_load_mid rfl 23 _ rfl (w.heap.size + 1) 0 rfl (VF) _ hr1 Try.underlying23 rfl HI_VF.out ?_) | (refine wpList_load_mid rfl 23 _ rfl (w.heap.size + 1 + 1) 0 rfl (VT) _ hr2 Try.underlying23 rfl HI_VT.out ?_))))
  clear hr0 hr1 hr2
  refine (CH.out _).mono ?_
  rintro e w3 ⟨x, rfl, her, bb⟩
  have HK3 := Lib.hid (HK2.out.below bb (Nat.le_refl _))
  clear bb HK2
  have HE := Lib.hid her
  clear her
  have HW3 : Hid (Below w3.heap.size w3 w3) := Lib.hid (Below.refl _ _)
  have hbp := below_sets VQ (Nat.le_refl w3.heap.size) 0 _ ((Below.refl w3.heap.size w3).alloc (Nat.le_refl _) (.cells ([.int .i64 0, .int .i64 0, .int .i64 0, .int .u8 0, .int .u8 0, .int .u8 0, .int .u8 0, .int .u8 0, .int .u8 0, .int .u8 0, .int .u8 0, .int .u8 0, .int .u8 0, .int .u8 0, .int .u8 0, .int .u8 0, .int .u8 0, .int .u8 0, .int .u8 0, .int .u8 0, .int .u8 0, .int .u8 0, .int .u8 0, .int .u8 0, .int .u8 0, .int .u8 0, .int .u8 0, .int .u8 0, .int .u8 0, .int .u8 0, .int .u8 0, .int .u8 0, .int .u8 0, .int .u8 0, .int .u8 0, .slice none 0 0, .bool false, .int .u32 0, .int .i64 0, .bool false, .int .i64 0, .string ⟨#[]⟩] : List Value).toArray 27))
  have HE4 := Lib.hid (HE.out.below hbp (Nat.le_refl _))
  clear hbp HE HW3
  have ht := (bk_new w3 27 ([.int .i64 0, .int .i64 0, .int .i64 0, .int .u8 0, .int .u8 0, .int .u8 0, .int .u8 0, .int .u8 0, .int .u8 0, .int .u8 0, .int .u8 0, .int .u8 0, .int .u8 0, .int .u8 0, .int .u8 0, .int .u8 0, .int .u8 0, .int .u8 0, .int .u8 0, .int .u8 0, .int .u8 0, .int .u8 0, .int .u8 0, .int .u8 0, .int .u8 0, .int .u8 0, .int .u8 0, .int .u8 0, .int .u8 0, .int .u8 0, .int .u8 0, .int .u8 0, .int .u8 0, .int .u8 0, .int .u8 0, .slice none 0 0, .bool false, .int .u32 0, .int .i64 0, .bool false, .int .i64 0, .string ⟨#[]⟩] : List Value).toArray).there VQ.toArray.size (by have := HL_VQ.out; simp; omega)
  go_upto_region 6 with (((with_reducible (change wpList _ _ _ _ _ _)); ((refine wpList_store_mid rfl 27 _ _ rfl (w3.heap.size) 0 VQ.toArray rfl rfl ht (by simpa using HI_VQ.out) HO_VQ.out ?_))))
  have HK4 := Lib.hid (HK3.out.put 27 ([.int .i64 0, .int .i64 0, .int .i64 0, .int .u8 0, .int .u8 0, .int .u8 0, .int .u8 0, .int .u8 0, .int .u8 0, .int .u8 0, .int .u8 0, .int .u8 0, .int .u8 0, .int .u8 0, .int .u8 0, .int .u8 0, .int .u8 0, .int .u8 0, .int .u8 0, .int .u8 0, .int .u8 0, .int .u8 0, .int .u8 0, .int .u8 0, .int .u8 0, .int .u8 0, .int .u8 0, .int .u8 0, .int .u8 0, .int .u8 0, .int .u8 0, .int .u8 0, .int .u8 0, .int .u8 0, .int .u8 0, .slice none 0 0, .bool false, .int .u32 0, .int .i64 0, .bool false, .int .i64 0, .string ⟨#[]⟩] : List Value).toArray VQ (by have := HL_VQ.out; simp; omega))
  clear ht HK3
  generalize (w3.alloc (.cells ([.int .i64 0, .int .i64 0, .int .i64 0, .int .u8 0, .int .u8 0, .int .u8 0, .int .u8 0, .int .u8 0, .int .u8 0, .int .u8 0, .int .u8 0, .int .u8 0, .int .u8 0, .int .u8 0, .int .u8 0, .int .u8 0, .int .u8 0, .int .u8 0, .int .u8 0, .int .u8 0, .int .u8 0, .int .u8 0, .int .u8 0, .int .u8 0, .int .u8 0, .int .u8 0, .int .u8 0, .int .u8 0, .int .u8 0, .int .u8 0, .int .u8 0, .int .u8 0, .int .u8 0, .int .u8 0, .int .u8 0, .slice none 0 0, .bool false, .int .u32 0, .int .i64 0, .bool false, .int .i64 0, .string ⟨#[]⟩] : List Value).toArray 27)).setCells w3.heap.size 0 VQ = w4 at *
  generalize w3.heap.size = g7 at *
  have hr0 := HK4.out.tl.tl.tl.hd.range
  have hr1 := HK4.out.tl.tl.hd.range
  have hr2 := HK4.out.tl.hd.range
  go_wp2_with (((with_reducible (change wpList _ _ _ _ _ _)); (first | (refine wpList_load_mid rfl 35 _ rfl (w.heap.size) 0 rfl (VP) _ hr0 Try.underlying35 rfl HI_VP.out ?_) | (refine wpList_load_mid rfl 23 _ rfl (w.heap.size + 1) 0 rfl (VF) _ hr1 Try.underlying23 rfl HI_VF.out ?_) | (refine wpList_load_mid rfl 23 _ rfl (w.heap.size + 1 + 1) 0 rfl (VT) _ hr2 Try.underlying23 rfl HI_VT.out ?_))))
  clear hr0 hr1 hr2
  refine (CR.out _).mono ?_
  rintro e w5 ⟨rfl, bb⟩
  have HK5 := Lib.hid (HK4.out.below bb (Nat.le_refl _))
  have HE5 := Lib.hid (HE4.out.below bb (Nat.le_refl _))
  clear bb HK4 HE4
  have hbp := below_sets VQ (Nat.le_refl w5.heap.size) 0 _ ((Below.refl w5.heap.size w5).alloc (Nat.le_refl _) (.cells ([.int .i64 0, .int .i64 0, .int .i64 0, .int .u8 0, .int .u8 0, .int .u8 0, .int .u8 0, .int .u8 0, .int .u8 0, .int .u8 0, .int .u8 0, .int .u8 0, .int .u8 0, .int .u8 0, .int .u8 0, .int .u8 0, .int .u8 0, .int .u8 0, .int .u8 0, .int .u8 0, .int .u8 0, .int .u8 0, .int .u8 0, .int .u8 0, .int .u8 0, .int .u8 0, .int .u8 0, .int .u8 0, .int .u8 0, .int .u8 0, .int .u8 0, .int .u8 0, .int .u8 0, .int .u8 0, .int .u8 0, .slice none 0 0, .bool false, .int .u32 0, .int .i64 0, .bool false, .int .i64 0, .string ⟨#[]⟩] : List Value).toArray 27))
  have HE6 := Lib.hid (HE5.out.below hbp (Nat.le_refl _))
  clear hbp HE5
  have ht := (bk_new w5 27 ([.int .i64 0, .int .i64 0, .int .i64 0, .int .u8 0, .int .u8 0, .int .u8 0, .int .u8 0, .int .u8 0, .int .u8 0, .int .u8 0, .int .u8 0, .int .u8 0, .int .u8 0, .int .u8 0, .int .u8 0, .int .u8 0, .int .u8 0, .int .u8 0, .int .u8 0, .int .u8 0, .int .u8 0, .int .u8 0, .int .u8 0, .int .u8 0, .int .u8 0, .int .u8 0, .int .u8 0, .int .u8 0, .int .u8 0, .int .u8 0, .int .u8 0, .int .u8 0, .int .u8 0, .int .u8 0, .int .u8 0, .slice none 0 0, .bool false, .int .u32 0, .int .i64 0, .bool false, .int .i64 0, .string ⟨#[]⟩] : List Value).toArray).there VQ.toArray.size (by have := HL_VQ.out; simp; omega)
  go_upto_region 7 with (((with_reducible (change wpList _ _ _ _ _ _)); ((refine wpList_store_mid rfl 27 _ _ rfl (w5.heap.size) 0 VQ.toArray rfl rfl ht (by simpa using HI_VQ.out) HO_VQ.out ?_))))
  have HK6 := Lib.hid (HK5.out.put 27 ([.int .i64 0, .int .i64 0, .int .i64 0, .int .u8 0, .int .u8 0, .int .u8 0, .int .u8 0, .int .u8 0, .int .u8 0, .int .u8 0, .int .u8 0, .int .u8 0, .int .u8 0, .int .u8 0, .int .u8 0, .int .u8 0, .int .u8 0, .int .u8 0, .int .u8 0, .int .u8 0, .int .u8 0, .int .u8 0, .int .u8 0, .int .u8 0, .int .u8 0, .int .u8 0, .int .u8 0, .int .u8 0, .int .u8 0, .int .u8 0, .int .u8 0, .int .u8 0, .int .u8 0, .int .u8 0, .int .u8 0, .slice none 0 0, .bool false, .int .u32 0, .int .i64 0, .bool false, .int .i64 0, .string ⟨#[]⟩] : List Value).toArray VQ (by have := HL_VQ.out; simp; omega))
  clear ht HK5
  generalize (w5.alloc (.cells ([.int .i64 0, .int .i64 0, .int .i64 0, .int .u8 0, .int .u8 0, .int .u8 0, .int .u8 0, .int .u8 0, .int .u8 0, .int .u8 0, .int .u8 0, .int .u8 0, .int .u8 0, .int .u8 0, .int .u8 0, .int .u8 0, .int .u8 0, .int .u8 0, .int .u8 0, .int .u8 0, .int .u8 0, .int .u8 0, .int .u8 0, .int .u8 0, .int .u8 0, .int .u8 0, .int .u8 0, .int .u8 0, .int .u8 0, .int .u8 0, .int .u8 0, .int .u8 0, .int .u8 0, .int .u8 0, .int .u8 0, .slice none 0 0, .bool false, .int .u32 0, .int .i64 0, .bool false, .int .i64 0, .string ⟨#[]⟩] : List Value).toArray 27)).setCells w5.heap.size 0 VQ = w6 at *
  generalize w5.heap.size = g8 at *
  go_wp2_with (fail)
  refine (CP.out _).mono ?_
  rintro e w9 ⟨rfl, rfl⟩
  go_wp2_with (fail)
  refine (CQ.out _).mono ?_
  rintro e w9 ⟨rfl, rfl⟩
  have hr0 := HK6.out.tl.hd.range
  have hr1 := HK6.out.hd.range
  go_wp2_with (((with_reducible (change wpList _ _ _ _ _ _)); (first | (refine wpList_load_mid rfl 27 _ rfl (g7) 0 rfl (VQ) _ hr0 Try.underlying27 rfl HI_VQ.out ?_) | (refine wpList_load_mid rfl 27 _ rfl (g8) 0 rfl (VQ) _ hr1 Try.underlying27 rfl HI_VQ.out ?_))))
  clear hr0 hr1
  refine (CS.out _).mono ?_
  rintro e w7 ⟨rfl, bb⟩
  have HK7 := Lib.hid (HK6.out.below bb (Nat.le_refl _))
  have HE7 := Lib.hid (HE6.out.below bb (Nat.le_refl _))
  clear bb HK6 HE6
  go_wp2_with (fail)
  refine (same_any HE7.out).mono ?_
  rintro e w9 ⟨rfl, rfl⟩
  go_wp2_with (fail)
  go_ret
  refine ⟨?_, HK7.out.2.1⟩
  simp
theorem head46Does_any (p : P4.Pkt) (F T : List UInt8) (n : Int) (w : World) (hF : F.length = 16) (hT : T.length = 16) :
    Calls Try.prog 4 #[.agg p.vals.toArray, .agg (bytV F).toArray, .agg (bytV T).toArray, .int .i64 n] w fun e w' => e = .returned (.bool true) ∧ Below w.heap.size w w' := by
  by_cases hd : (70000 : Int) < (p.data.size : Int)
  · exact does_data p F T n hF hT w hd
  · by_cases ho : (1000 : Int) < (p.opts.size : Int)
    · exact does_opts p F T n hF hT w hd ho
    · exact does_main p F T n hF hT w hd ho
end Go.Proofs.Ytdljjcnihajchaa
