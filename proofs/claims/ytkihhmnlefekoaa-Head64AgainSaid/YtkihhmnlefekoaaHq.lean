/-
  Proved here: what head46.Head answers of a head that is out of range.
  Conditions: none.
  Proved here: what head46.Head answers of broken options, of a route, of a protocol that is none.
  Conditions: none.
  Proved here: what head46.Head answers of a packet that may be.
  Conditions: none.
-/
import Derived.Test.YtkihhmnlefekoaaExe
namespace Go.Proofs.Ytkihhmnlefekoaa
open Go.RowKit

set_option maxRecDepth 100000 in
set_option maxHeartbeats 4000000 in
theorem head_range_a (p : P4.Pkt) (F T : List UInt8) (hF : F.length = 16) (hT : T.length = 16) (w : World) (h0 : p.ttl < 2) :
    Calls Try.prog 21 #[.agg p.vals.toArray, .agg (bytV F).toArray, .agg (bytV T).toArray] w (Bad (.agg (pk0.vals (.slice none 0 0)).toArray) 13 w) := by
  obtain ⟨Z, hZ⟩ : ∃ Z, Z = pk0.vals (.slice none 0 0) := ⟨_, rfl⟩
  have HBZ : Hid (∀ W, (Instr.build 35 #[]).run Try.prog W = .ok (.agg Z.toArray) W) := Lib.hid (fun W => by rw [hZ]; exact buildZ W)
  have HI_Z : Hid ((Try.prog.info? 35).map (·.size) = some Z.length) := Lib.hid (by rw [hZ]; exact Try.info6 _ _)
  have HO_Z : Hid (Z.toArray.all (·.oneCell') = true) := Lib.hid (by rw [hZ]; exact vals_one _ _ rfl)
  have HL_Z : Hid (Z.length = 42) := Lib.hid (by rw [hZ]; exact vals_len _ _)
  have hz0 : Z.toArray = #[.int .i64 0, .int .i64 0, .int .i64 0, .int .u8 0, .int .u8 0, .int .u8 0, .int .u8 0, .int .u8 0, .int .u8 0, .int .u8 0, .int .u8 0, .int .u8 0, .int .u8 0, .int .u8 0, .int .u8 0, .int .u8 0, .int .u8 0, .int .u8 0, .int .u8 0, .int .u8 0, .int .u8 0, .int .u8 0, .int .u8 0, .int .u8 0, .int .u8 0, .int .u8 0, .int .u8 0, .int .u8 0, .int .u8 0, .int .u8 0, .int .u8 0, .int .u8 0, .int .u8 0, .int .u8 0, .int .u8 0, .slice none 0 0, .bool false, .int .u32 0, .int .i64 0, .bool false, .int .i64 0, .string ⟨#[]⟩] := by rw [hZ]; exact pk0_vals
  have HZ := Lib.hid hZ
  have HZ0 := Lib.hid hz0
  clear hZ
  have HI_VP : Hid ((Try.prog.info? 25).map (·.size) = some (p.vals).length) := Lib.hid (P4.Try.infoIp _)
  have HO_VP : Hid ((p.vals).toArray.all (·.oneCell') = true) := Lib.hid (P4.vals_one _)
  have HL_VP : Hid ((p.vals).length = 17) := Lib.hid rfl
  have HI_VF : Hid ((Try.prog.info? 32).map (·.size) = some (bytV F).length) := Lib.hid (Try.infoV6 _ hF)
  have HO_VF : Hid ((bytV F).toArray.all (·.oneCell') = true) := Lib.hid (by rw [List.all_toArray, List.all_eq_true]; exact bytV_one _)
  have HL_VF : Hid ((bytV F).length = 16) := Lib.hid (by rw [bytV_len]; exact hF)
  have HI_VT : Hid ((Try.prog.info? 32).map (·.size) = some (bytV T).length) := Lib.hid (Try.infoV6 _ hT)
  have HO_VT : Hid ((bytV T).toArray.all (·.oneCell') = true) := Lib.hid (by rw [List.all_toArray, List.all_eq_true]; exact bytV_one _)
  have HL_VT : Hid ((bytV T).length = 16) := Lib.hid (by rw [bytV_len]; exact hT)
  have HC_VP_0 : Hid (p.vals[0]? = some (.int .i64 p.tos)) := Lib.hid rfl
  have HC_VP_1 : Hid (p.vals[1]? = some (.int .i64 p.id)) := Lib.hid rfl
  have HC_VP_2 : Hid (p.vals[2]? = some (.int .i64 p.ttl)) := Lib.hid rfl
  have HC_VP_3 : Hid (p.vals[3]? = some (.int .i64 p.proto)) := Lib.hid rfl
  have HC_VP_4 : Hid (p.vals[4]? = some (.int .i64 p.pl)) := Lib.hid rfl
  have HC_VP_5 : Hid (p.vals[5]? = some (.bool p.df)) := Lib.hid rfl
  have HC_VP_6 : Hid (p.vals[6]? = some (.bool p.more)) := Lib.hid rfl
  have HC_VP_15 : Hid (p.vals[15]? = some (.string p.opts)) := Lib.hid rfl
  have HC_VP_16 : Hid (p.vals[16]? = some (.string p.data)) := Lib.hid rfl
  have HK1 : Hid (Kp w w.heap.size [(w.heap.size + 1 + 1 + 1, 35, Z), (w.heap.size + 1 + 1, 32, bytV T), (w.heap.size + 1, 32, bytV F), (w.heap.size, 25, p.vals)] ((((w.alloc (.cells p.vals.toArray 25)).alloc (.cells (bytV F).toArray 32)).alloc (.cells (bytV T).toArray 32)).alloc (.cells Z.toArray 35))) := Lib.hid (by
    have h := (((Kp.start w).new 25 p.vals).new 32 (bytV F)).new 32 (bytV T)
    have e1 : (w.alloc (.cells p.vals.toArray 25)).heap.size = w.heap.size + 1 := by simp
    have e2 : ((w.alloc (.cells p.vals.toArray 25)).alloc (.cells (bytV F).toArray 32)).heap.size = w.heap.size + 1 + 1 := by simp
    have e3 : (((w.alloc (.cells p.vals.toArray 25)).alloc (.cells (bytV F).toArray 32)).alloc (.cells (bytV T).toArray 32)).heap.size = w.heap.size + 1 + 1 + 1 := by simp
    rw [e1, e2] at h
    have h2 := h.new 35 Z
    rwa [e3] at h2)
  generalize p.vals = VP at *
  generalize bytV F = VF at *
  generalize bytV T = VT at *
  generalize hw1 : (((w.alloc (.cells VP.toArray 25)).alloc (.cells VF.toArray 32)).alloc (.cells VT.toArray 32)).alloc (.cells Z.toArray 35) = w1 at *
  rw [hz0] at hw1
  go_enter Try.func21, Try.ntmps21
  go_upto_region 1 with (fail)
  clear hw1 hz0
  have c2 : w1.cell? ⟨w.heap.size, 2, none⟩ = some (.int .i64 p.ttl) := HK1.out.tl.tl.tl.hd.at HC_VP_2.out
  go_upto_region 2 with (fail)
  have hkc : Bk (w1.alloc (.cells #[.int .i64 13, .int .i64 0] 78)) (w.heap.size + 1 + 1 + 1) 35 Z.toArray := HK1.out.hd.alloc _
  have htf := hkc.there _ (Nat.le_refl _)
  go_wp2_with (((with_reducible (change wpList _ _ _ _ _ _)); (first | (refine Great.wpList_readTo rfl _ rfl (.agg Z.toArray) (run_execN (T := 35) (l := #[]) (m := #[]) rfl (by simp) (HBZ.out _)) ?_) | (refine wpList_store_mid rfl 35 _ _ rfl (w.heap.size + 1 + 1 + 1) 0 Z.toArray rfl rfl htf (by simpa using HI_Z.out) HO_Z.out ?_))))
  have hk5 := Bk.sets Z 0 _ _ hkc
  rw [puts_whole Z.toArray Z (by simp)] at hk5
  have hlc := HK1.out.hd.lt
  refine bodyPost_ret (v := .tuple #[.agg Z.toArray, .iface 75 (.pointer (some ⟨w1.heap.size, 0, none⟩))]) ?_ rfl ?_
  · exact results_cell2 rfl rfl rfl (run_loadVar_mid _ (w.heap.size + 1 + 1 + 1) 0 35 Z _ hk5.range Try.underlying35 rfl HI_Z.out)
  · refine ⟨_, by rw [HZ.out], ?_, HK1.out.2.1.size, below_sets _ (by omega) 0 _ (HK1.out.2.1.alloc HK1.out.2.1.size _)⟩
    exact (heap_sets Z (by omega) 0 _).trans (Flt.new _ 13 0)
set_option maxRecDepth 100000 in
set_option maxHeartbeats 4000000 in
theorem head_range_b (p : P4.Pkt) (F T : List UInt8) (hF : F.length = 16) (hT : T.length = 16) (w : World) (h0 : ¬ p.ttl < 2) (h1 : 255 < p.ttl) :
    Calls Try.prog 21 #[.agg p.vals.toArray, .agg (bytV F).toArray, .agg (bytV T).toArray] w (Bad (.agg (pk0.vals (.slice none 0 0)).toArray) 13 w) := by
  obtain ⟨Z, hZ⟩ : ∃ Z, Z = pk0.vals (.slice none 0 0) := ⟨_, rfl⟩
  have HBZ : Hid (∀ W, (Instr.build 35 #[]).run Try.prog W = .ok (.agg Z.toArray) W) := Lib.hid (fun W => by rw [hZ]; exact buildZ W)
  have HI_Z : Hid ((Try.prog.info? 35).map (·.size) = some Z.length) := Lib.hid (by rw [hZ]; exact Try.info6 _ _)
  have HO_Z : Hid (Z.toArray.all (·.oneCell') = true) := Lib.hid (by rw [hZ]; exact vals_one _ _ rfl)
  have HL_Z : Hid (Z.length = 42) := Lib.hid (by rw [hZ]; exact vals_len _ _)
  have hz0 : Z.toArray = #[.int .i64 0, .int .i64 0, .int .i64 0, .int .u8 0, .int .u8 0, .int .u8 0, .int .u8 0, .int .u8 0, .int .u8 0, .int .u8 0, .int .u8 0, .int .u8 0, .int .u8 0, .int .u8 0, .int .u8 0, .int .u8 0, .int .u8 0, .int .u8 0, .int .u8 0, .int .u8 0, .int .u8 0, .int .u8 0, .int .u8 0, .int .u8 0, .int .u8 0, .int .u8 0, .int .u8 0, .int .u8 0, .int .u8 0, .int .u8 0, .int .u8 0, .int .u8 0, .int .u8 0, .int .u8 0, .int .u8 0, .slice none 0 0, .bool false, .int .u32 0, .int .i64 0, .bool false, .int .i64 0, .string ⟨#[]⟩] := by rw [hZ]; exact pk0_vals
  have HZ := Lib.hid hZ
  have HZ0 := Lib.hid hz0
  clear hZ
  have HI_VP : Hid ((Try.prog.info? 25).map (·.size) = some (p.vals).length) := Lib.hid (P4.Try.infoIp _)
  have HO_VP : Hid ((p.vals).toArray.all (·.oneCell') = true) := Lib.hid (P4.vals_one _)
  have HL_VP : Hid ((p.vals).length = 17) := Lib.hid rfl
  have HI_VF : Hid ((Try.prog.info? 32).map (·.size) = some (bytV F).length) := Lib.hid (Try.infoV6 _ hF)
  have HO_VF : Hid ((bytV F).toArray.all (·.oneCell') = true) := Lib.hid (by rw [List.all_toArray, List.all_eq_true]; exact bytV_one _)
  have HL_VF : Hid ((bytV F).length = 16) := Lib.hid (by rw [bytV_len]; exact hF)
  have HI_VT : Hid ((Try.prog.info? 32).map (·.size) = some (bytV T).length) := Lib.hid (Try.infoV6 _ hT)
  have HO_VT : Hid ((bytV T).toArray.all (·.oneCell') = true) := Lib.hid (by rw [List.all_toArray, List.all_eq_true]; exact bytV_one _)
  have HL_VT : Hid ((bytV T).length = 16) := Lib.hid (by rw [bytV_len]; exact hT)
  have HC_VP_0 : Hid (p.vals[0]? = some (.int .i64 p.tos)) := Lib.hid rfl
  have HC_VP_1 : Hid (p.vals[1]? = some (.int .i64 p.id)) := Lib.hid rfl
  have HC_VP_2 : Hid (p.vals[2]? = some (.int .i64 p.ttl)) := Lib.hid rfl
  have HC_VP_3 : Hid (p.vals[3]? = some (.int .i64 p.proto)) := Lib.hid rfl
  have HC_VP_4 : Hid (p.vals[4]? = some (.int .i64 p.pl)) := Lib.hid rfl
  have HC_VP_5 : Hid (p.vals[5]? = some (.bool p.df)) := Lib.hid rfl
  have HC_VP_6 : Hid (p.vals[6]? = some (.bool p.more)) := Lib.hid rfl
  have HC_VP_15 : Hid (p.vals[15]? = some (.string p.opts)) := Lib.hid rfl
  have HC_VP_16 : Hid (p.vals[16]? = some (.string p.data)) := Lib.hid rfl
  have HK1 : Hid (Kp w w.heap.size [(w.heap.size + 1 + 1 + 1, 35, Z), (w.heap.size + 1 + 1, 32, bytV T), (w.heap.size + 1, 32, bytV F), (w.heap.size, 25, p.vals)] ((((w.alloc (.cells p.vals.toArray 25)).alloc (.cells (bytV F).toArray 32)).alloc (.cells (bytV T).toArray 32)).alloc (.cells Z.toArray 35))) := Lib.hid (by
    have h := (((Kp.start w).new 25 p.vals).new 32 (bytV F)).new 32 (bytV T)
    have e1 : (w.alloc (.cells p.vals.toArray 25)).heap.size = w.heap.size + 1 := by simp
    have e2 : ((w.alloc (.cells p.vals.toArray 25)).alloc (.cells (bytV F).toArray 32)).heap.size = w.heap.size + 1 + 1 := by simp
    have e3 : (((w.alloc (.cells p.vals.toArray 25)).alloc (.cells (bytV F).toArray 32)).alloc (.cells (bytV T).toArray 32)).heap.size = w.heap.size + 1 + 1 + 1 := by simp
    rw [e1, e2] at h
    have h2 := h.new 35 Z
    rwa [e3] at h2)
  generalize p.vals = VP at *
  generalize bytV F = VF at *
  generalize bytV T = VT at *
  generalize hw1 : (((w.alloc (.cells VP.toArray 25)).alloc (.cells VF.toArray 32)).alloc (.cells VT.toArray 32)).alloc (.cells Z.toArray 35) = w1 at *
  rw [hz0] at hw1
  go_enter Try.func21, Try.ntmps21
  go_upto_region 1 with (fail)
  clear hw1 hz0
  have c2 : w1.cell? ⟨w.heap.size, 2, none⟩ = some (.int .i64 p.ttl) := HK1.out.tl.tl.tl.hd.at HC_VP_2.out
  go_upto_region 2 with (fail)
  have hkc : Bk (w1.alloc (.cells #[.int .i64 13, .int .i64 0] 78)) (w.heap.size + 1 + 1 + 1) 35 Z.toArray := HK1.out.hd.alloc _
  have htf := hkc.there _ (Nat.le_refl _)
  go_wp2_with (((with_reducible (change wpList _ _ _ _ _ _)); (first | (refine Great.wpList_readTo rfl _ rfl (.agg Z.toArray) (run_execN (T := 35) (l := #[]) (m := #[]) rfl (by simp) (HBZ.out _)) ?_) | (refine wpList_store_mid rfl 35 _ _ rfl (w.heap.size + 1 + 1 + 1) 0 Z.toArray rfl rfl htf (by simpa using HI_Z.out) HO_Z.out ?_))))
  have hk5 := Bk.sets Z 0 _ _ hkc
  rw [puts_whole Z.toArray Z (by simp)] at hk5
  have hlc := HK1.out.hd.lt
  refine bodyPost_ret (v := .tuple #[.agg Z.toArray, .iface 75 (.pointer (some ⟨w1.heap.size, 0, none⟩))]) ?_ rfl ?_
  · exact results_cell2 rfl rfl rfl (run_loadVar_mid _ (w.heap.size + 1 + 1 + 1) 0 35 Z _ hk5.range Try.underlying35 rfl HI_Z.out)
  · refine ⟨_, by rw [HZ.out], ?_, HK1.out.2.1.size, below_sets _ (by omega) 0 _ (HK1.out.2.1.alloc HK1.out.2.1.size _)⟩
    exact (heap_sets Z (by omega) 0 _).trans (Flt.new _ 13 0)
set_option maxRecDepth 100000 in
set_option maxHeartbeats 4000000 in
theorem head_range_c (p : P4.Pkt) (F T : List UInt8) (hF : F.length = 16) (hT : T.length = 16) (w : World) (h0 : ¬ p.ttl < 2) (h1 : ¬ 255 < p.ttl) (h2 : p.tos < 0) :
    Calls Try.prog 21 #[.agg p.vals.toArray, .agg (bytV F).toArray, .agg (bytV T).toArray] w (Bad (.agg (pk0.vals (.slice none 0 0)).toArray) 13 w) := by
  obtain ⟨Z, hZ⟩ : ∃ Z, Z = pk0.vals (.slice none 0 0) := ⟨_, rfl⟩
  have HBZ : Hid (∀ W, (Instr.build 35 #[]).run Try.prog W = .ok (.agg Z.toArray) W) := Lib.hid (fun W => by rw [hZ]; exact buildZ W)
  have HI_Z : Hid ((Try.prog.info? 35).map (·.size) = some Z.length) := Lib.hid (by rw [hZ]; exact Try.info6 _ _)
  have HO_Z : Hid (Z.toArray.all (·.oneCell') = true) := Lib.hid (by rw [hZ]; exact vals_one _ _ rfl)
  have HL_Z : Hid (Z.length = 42) := Lib.hid (by rw [hZ]; exact vals_len _ _)
  have hz0 : Z.toArray = #[.int .i64 0, .int .i64 0, .int .i64 0, .int .u8 0, .int .u8 0, .int .u8 0, .int .u8 0, .int .u8 0, .int .u8 0, .int .u8 0, .int .u8 0, .int .u8 0, .int .u8 0, .int .u8 0, .int .u8 0, .int .u8 0, .int .u8 0, .int .u8 0, .int .u8 0, .int .u8 0, .int .u8 0, .int .u8 0, .int .u8 0, .int .u8 0, .int .u8 0, .int .u8 0, .int .u8 0, .int .u8 0, .int .u8 0, .int .u8 0, .int .u8 0, .int .u8 0, .int .u8 0, .int .u8 0, .int .u8 0, .slice none 0 0, .bool false, .int .u32 0, .int .i64 0, .bool false, .int .i64 0, .string ⟨#[]⟩] := by rw [hZ]; exact pk0_vals
  have HZ := Lib.hid hZ
  have HZ0 := Lib.hid hz0
  clear hZ
  have HI_VP : Hid ((Try.prog.info? 25).map (·.size) = some (p.vals).length) := Lib.hid (P4.Try.infoIp _)
  have HO_VP : Hid ((p.vals).toArray.all (·.oneCell') = true) := Lib.hid (P4.vals_one _)
  have HL_VP : Hid ((p.vals).length = 17) := Lib.hid rfl
  have HI_VF : Hid ((Try.prog.info? 32).map (·.size) = some (bytV F).length) := Lib.hid (Try.infoV6 _ hF)
  have HO_VF : Hid ((bytV F).toArray.all (·.oneCell') = true) := Lib.hid (by rw [List.all_toArray, List.all_eq_true]; exact bytV_one _)
  have HL_VF : Hid ((bytV F).length = 16) := Lib.hid (by rw [bytV_len]; exact hF)
  have HI_VT : Hid ((Try.prog.info? 32).map (·.size) = some (bytV T).length) := Lib.hid (Try.infoV6 _ hT)
  have HO_VT : Hid ((bytV T).toArray.all (·.oneCell') = true) := Lib.hid (by rw [List.all_toArray, List.all_eq_true]; exact bytV_one _)
  have HL_VT : Hid ((bytV T).length = 16) := Lib.hid (by rw [bytV_len]; exact hT)
  have HC_VP_0 : Hid (p.vals[0]? = some (.int .i64 p.tos)) := Lib.hid rfl
  have HC_VP_1 : Hid (p.vals[1]? = some (.int .i64 p.id)) := Lib.hid rfl
  have HC_VP_2 : Hid (p.vals[2]? = some (.int .i64 p.ttl)) := Lib.hid rfl
  have HC_VP_3 : Hid (p.vals[3]? = some (.int .i64 p.proto)) := Lib.hid rfl
  have HC_VP_4 : Hid (p.vals[4]? = some (.int .i64 p.pl)) := Lib.hid rfl
  have HC_VP_5 : Hid (p.vals[5]? = some (.bool p.df)) := Lib.hid rfl
  have HC_VP_6 : Hid (p.vals[6]? = some (.bool p.more)) := Lib.hid rfl
  have HC_VP_15 : Hid (p.vals[15]? = some (.string p.opts)) := Lib.hid rfl
  have HC_VP_16 : Hid (p.vals[16]? = some (.string p.data)) := Lib.hid rfl
  have HK1 : Hid (Kp w w.heap.size [(w.heap.size + 1 + 1 + 1, 35, Z), (w.heap.size + 1 + 1, 32, bytV T), (w.heap.size + 1, 32, bytV F), (w.heap.size, 25, p.vals)] ((((w.alloc (.cells p.vals.toArray 25)).alloc (.cells (bytV F).toArray 32)).alloc (.cells (bytV T).toArray 32)).alloc (.cells Z.toArray 35))) := Lib.hid (by
    have h := (((Kp.start w).new 25 p.vals).new 32 (bytV F)).new 32 (bytV T)
    have e1 : (w.alloc (.cells p.vals.toArray 25)).heap.size = w.heap.size + 1 := by simp
    have e2 : ((w.alloc (.cells p.vals.toArray 25)).alloc (.cells (bytV F).toArray 32)).heap.size = w.heap.size + 1 + 1 := by simp
    have e3 : (((w.alloc (.cells p.vals.toArray 25)).alloc (.cells (bytV F).toArray 32)).alloc (.cells (bytV T).toArray 32)).heap.size = w.heap.size + 1 + 1 + 1 := by simp
    rw [e1, e2] at h
    have h2 := h.new 35 Z
    rwa [e3] at h2)
  generalize p.vals = VP at *
  generalize bytV F = VF at *
  generalize bytV T = VT at *
  generalize hw1 : (((w.alloc (.cells VP.toArray 25)).alloc (.cells VF.toArray 32)).alloc (.cells VT.toArray 32)).alloc (.cells Z.toArray 35) = w1 at *
  rw [hz0] at hw1
  go_enter Try.func21, Try.ntmps21
  go_upto_region 1 with (fail)
  clear hw1 hz0
  have c2 : w1.cell? ⟨w.heap.size, 2, none⟩ = some (.int .i64 p.ttl) := HK1.out.tl.tl.tl.hd.at HC_VP_2.out
  have c0 : w1.cell? ⟨w.heap.size, 0, none⟩ = some (.int .i64 p.tos) := HK1.out.tl.tl.tl.hd.at HC_VP_0.out
  go_upto_region 2 with (fail)
  have hkc : Bk (w1.alloc (.cells #[.int .i64 13, .int .i64 0] 78)) (w.heap.size + 1 + 1 + 1) 35 Z.toArray := HK1.out.hd.alloc _
  have htf := hkc.there _ (Nat.le_refl _)
  go_wp2_with (((with_reducible (change wpList _ _ _ _ _ _)); (first | (refine Great.wpList_readTo rfl _ rfl (.agg Z.toArray) (run_execN (T := 35) (l := #[]) (m := #[]) rfl (by simp) (HBZ.out _)) ?_) | (refine wpList_store_mid rfl 35 _ _ rfl (w.heap.size + 1 + 1 + 1) 0 Z.toArray rfl rfl htf (by simpa using HI_Z.out) HO_Z.out ?_))))
  have hk5 := Bk.sets Z 0 _ _ hkc
  rw [puts_whole Z.toArray Z (by simp)] at hk5
  have hlc := HK1.out.hd.lt
  refine bodyPost_ret (v := .tuple #[.agg Z.toArray, .iface 75 (.pointer (some ⟨w1.heap.size, 0, none⟩))]) ?_ rfl ?_
  · exact results_cell2 rfl rfl rfl (run_loadVar_mid _ (w.heap.size + 1 + 1 + 1) 0 35 Z _ hk5.range Try.underlying35 rfl HI_Z.out)
  · refine ⟨_, by rw [HZ.out], ?_, HK1.out.2.1.size, below_sets _ (by omega) 0 _ (HK1.out.2.1.alloc HK1.out.2.1.size _)⟩
    exact (heap_sets Z (by omega) 0 _).trans (Flt.new _ 13 0)
set_option maxRecDepth 100000 in
set_option maxHeartbeats 4000000 in
theorem head_range_d (p : P4.Pkt) (F T : List UInt8) (hF : F.length = 16) (hT : T.length = 16) (w : World) (h0 : ¬ p.ttl < 2) (h1 : ¬ 255 < p.ttl) (h2 : ¬ p.tos < 0) (h3 : 255 < p.tos) :
    Calls Try.prog 21 #[.agg p.vals.toArray, .agg (bytV F).toArray, .agg (bytV T).toArray] w (Bad (.agg (pk0.vals (.slice none 0 0)).toArray) 13 w) := by
  obtain ⟨Z, hZ⟩ : ∃ Z, Z = pk0.vals (.slice none 0 0) := ⟨_, rfl⟩
  have HBZ : Hid (∀ W, (Instr.build 35 #[]).run Try.prog W = .ok (.agg Z.toArray) W) := Lib.hid (fun W => by rw [hZ]; exact buildZ W)
  have HI_Z : Hid ((Try.prog.info? 35).map (·.size) = some Z.length) := Lib.hid (by rw [hZ]; exact Try.info6 _ _)
  have HO_Z : Hid (Z.toArray.all (·.oneCell') = true) := Lib.hid (by rw [hZ]; exact vals_one _ _ rfl)
  have HL_Z : Hid (Z.length = 42) := Lib.hid (by rw [hZ]; exact vals_len _ _)
  have hz0 : Z.toArray = #[.int .i64 0, .int .i64 0, .int .i64 0, .int .u8 0, .int .u8 0, .int .u8 0, .int .u8 0, .int .u8 0, .int .u8 0, .int .u8 0, .int .u8 0, .int .u8 0, .int .u8 0, .int .u8 0, .int .u8 0, .int .u8 0, .int .u8 0, .int .u8 0, .int .u8 0, .int .u8 0, .int .u8 0, .int .u8 0, .int .u8 0, .int .u8 0, .int .u8 0, .int .u8 0, .int .u8 0, .int .u8 0, .int .u8 0, .int .u8 0, .int .u8 0, .int .u8 0, .int .u8 0, .int .u8 0, .int .u8 0, .slice none 0 0, .bool false, .int .u32 0, .int .i64 0, .bool false, .int .i64 0, .string ⟨#[]⟩] := by rw [hZ]; exact pk0_vals
  have HZ := Lib.hid hZ
  have HZ0 := Lib.hid hz0
  clear hZ
  have HI_VP : Hid ((Try.prog.info? 25).map (·.size) = some (p.vals).length) := Lib.hid (P4.Try.infoIp _)
  have HO_VP : Hid ((p.vals).toArray.all (·.oneCell') = true) := Lib.hid (P4.vals_one _)
  have HL_VP : Hid ((p.vals).length = 17) := Lib.hid rfl
  have HI_VF : Hid ((Try.prog.info? 32).map (·.size) = some (bytV F).length) := Lib.hid (Try.infoV6 _ hF)
  have HO_VF : Hid ((bytV F).toArray.all (·.oneCell') = true) := Lib.hid (by rw [List.all_toArray, List.all_eq_true]; exact bytV_one _)
  have HL_VF : Hid ((bytV F).length = 16) := Lib.hid (by rw [bytV_len]; exact hF)
  have HI_VT : Hid ((Try.prog.info? 32).map (·.size) = some (bytV T).length) := Lib.hid (Try.infoV6 _ hT)
  have HO_VT : Hid ((bytV T).toArray.all (·.oneCell') = true) := Lib.hid (by rw [List.all_toArray, List.all_eq_true]; exact bytV_one _)
  have HL_VT : Hid ((bytV T).length = 16) := Lib.hid (by rw [bytV_len]; exact hT)
  have HC_VP_0 : Hid (p.vals[0]? = some (.int .i64 p.tos)) := Lib.hid rfl
  have HC_VP_1 : Hid (p.vals[1]? = some (.int .i64 p.id)) := Lib.hid rfl
  have HC_VP_2 : Hid (p.vals[2]? = some (.int .i64 p.ttl)) := Lib.hid rfl
  have HC_VP_3 : Hid (p.vals[3]? = some (.int .i64 p.proto)) := Lib.hid rfl
  have HC_VP_4 : Hid (p.vals[4]? = some (.int .i64 p.pl)) := Lib.hid rfl
  have HC_VP_5 : Hid (p.vals[5]? = some (.bool p.df)) := Lib.hid rfl
  have HC_VP_6 : Hid (p.vals[6]? = some (.bool p.more)) := Lib.hid rfl
  have HC_VP_15 : Hid (p.vals[15]? = some (.string p.opts)) := Lib.hid rfl
  have HC_VP_16 : Hid (p.vals[16]? = some (.string p.data)) := Lib.hid rfl
  have HK1 : Hid (Kp w w.heap.size [(w.heap.size + 1 + 1 + 1, 35, Z), (w.heap.size + 1 + 1, 32, bytV T), (w.heap.size + 1, 32, bytV F), (w.heap.size, 25, p.vals)] ((((w.alloc (.cells p.vals.toArray 25)).alloc (.cells (bytV F).toArray 32)).alloc (.cells (bytV T).toArray 32)).alloc (.cells Z.toArray 35))) := Lib.hid (by
    have h := (((Kp.start w).new 25 p.vals).new 32 (bytV F)).new 32 (bytV T)
    have e1 : (w.alloc (.cells p.vals.toArray 25)).heap.size = w.heap.size + 1 := by simp
    have e2 : ((w.alloc (.cells p.vals.toArray 25)).alloc (.cells (bytV F).toArray 32)).heap.size = w.heap.size + 1 + 1 := by simp
    have e3 : (((w.alloc (.cells p.vals.toArray 25)).alloc (.cells (bytV F).toArray 32)).alloc (.cells (bytV T).toArray 32)).heap.size = w.heap.size + 1 + 1 + 1 := by simp
    rw [e1, e2] at h
    have h2 := h.new 35 Z
    rwa [e3] at h2)
  generalize p.vals = VP at *
  generalize bytV F = VF at *
  generalize bytV T = VT at *
  generalize hw1 : (((w.alloc (.cells VP.toArray 25)).alloc (.cells VF.toArray 32)).alloc (.cells VT.toArray 32)).alloc (.cells Z.toArray 35) = w1 at *
  rw [hz0] at hw1
  go_enter Try.func21, Try.ntmps21
  go_upto_region 1 with (fail)
  clear hw1 hz0
  have c2 : w1.cell? ⟨w.heap.size, 2, none⟩ = some (.int .i64 p.ttl) := HK1.out.tl.tl.tl.hd.at HC_VP_2.out
  have c0 : w1.cell? ⟨w.heap.size, 0, none⟩ = some (.int .i64 p.tos) := HK1.out.tl.tl.tl.hd.at HC_VP_0.out
  go_upto_region 2 with (fail)
  have hkc : Bk (w1.alloc (.cells #[.int .i64 13, .int .i64 0] 78)) (w.heap.size + 1 + 1 + 1) 35 Z.toArray := HK1.out.hd.alloc _
  have htf := hkc.there _ (Nat.le_refl _)
  go_wp2_with (((with_reducible (change wpList _ _ _ _ _ _)); (first | (refine Great.wpList_readTo rfl _ rfl (.agg Z.toArray) (run_execN (T := 35) (l := #[]) (m := #[]) rfl (by simp) (HBZ.out _)) ?_) | (refine wpList_store_mid rfl 35 _ _ rfl (w.heap.size + 1 + 1 + 1) 0 Z.toArray rfl rfl htf (by simpa using HI_Z.out) HO_Z.out ?_))))
  have hk5 := Bk.sets Z 0 _ _ hkc
  rw [puts_whole Z.toArray Z (by simp)] at hk5
  have hlc := HK1.out.hd.lt
  refine bodyPost_ret (v := .tuple #[.agg Z.toArray, .iface 75 (.pointer (some ⟨w1.heap.size, 0, none⟩))]) ?_ rfl ?_
  · exact results_cell2 rfl rfl rfl (run_loadVar_mid _ (w.heap.size + 1 + 1 + 1) 0 35 Z _ hk5.range Try.underlying35 rfl HI_Z.out)
  · refine ⟨_, by rw [HZ.out], ?_, HK1.out.2.1.size, below_sets _ (by omega) 0 _ (HK1.out.2.1.alloc HK1.out.2.1.size _)⟩
    exact (heap_sets Z (by omega) 0 _).trans (Flt.new _ 13 0)

set_option maxRecDepth 100000 in
set_option maxHeartbeats 4000000 in
theorem head_form (p : P4.Pkt) (F T : List UInt8) (hF : F.length = 16) (hT : T.length = 16) (w : World) (h0 : ¬ p.ttl < 2) (h1 : ¬ 255 < p.ttl) (h2 : ¬ p.tos < 0) (h3 : ¬ 255 < p.tos) (hr : P4.rtE p.opts.data.toList false = none) :
    Calls Try.prog 21 #[.agg p.vals.toArray, .agg (bytV F).toArray, .agg (bytV T).toArray] w (Bad (.agg (pk0.vals (.slice none 0 0)).toArray) 8 w) := by
  have HR := Lib.hid (fun W => rtd_none p.opts W hr)
  clear hr
  obtain ⟨Z, hZ⟩ : ∃ Z, Z = pk0.vals (.slice none 0 0) := ⟨_, rfl⟩
  have HBZ : Hid (∀ W, (Instr.build 35 #[]).run Try.prog W = .ok (.agg Z.toArray) W) := Lib.hid (fun W => by rw [hZ]; exact buildZ W)
  have HI_Z : Hid ((Try.prog.info? 35).map (·.size) = some Z.length) := Lib.hid (by rw [hZ]; exact Try.info6 _ _)
  have HO_Z : Hid (Z.toArray.all (·.oneCell') = true) := Lib.hid (by rw [hZ]; exact vals_one _ _ rfl)
  have HL_Z : Hid (Z.length = 42) := Lib.hid (by rw [hZ]; exact vals_len _ _)
  have hz0 : Z.toArray = #[.int .i64 0, .int .i64 0, .int .i64 0, .int .u8 0, .int .u8 0, .int .u8 0, .int .u8 0, .int .u8 0, .int .u8 0, .int .u8 0, .int .u8 0, .int .u8 0, .int .u8 0, .int .u8 0, .int .u8 0, .int .u8 0, .int .u8 0, .int .u8 0, .int .u8 0, .int .u8 0, .int .u8 0, .int .u8 0, .int .u8 0, .int .u8 0, .int .u8 0, .int .u8 0, .int .u8 0, .int .u8 0, .int .u8 0, .int .u8 0, .int .u8 0, .int .u8 0, .int .u8 0, .int .u8 0, .int .u8 0, .slice none 0 0, .bool false, .int .u32 0, .int .i64 0, .bool false, .int .i64 0, .string ⟨#[]⟩] := by rw [hZ]; exact pk0_vals
  have HZ := Lib.hid hZ
  have HZ0 := Lib.hid hz0
  clear hZ
  have HI_VP : Hid ((Try.prog.info? 25).map (·.size) = some (p.vals).length) := Lib.hid (P4.Try.infoIp _)
  have HO_VP : Hid ((p.vals).toArray.all (·.oneCell') = true) := Lib.hid (P4.vals_one _)
  have HL_VP : Hid ((p.vals).length = 17) := Lib.hid rfl
  have HI_VF : Hid ((Try.prog.info? 32).map (·.size) = some (bytV F).length) := Lib.hid (Try.infoV6 _ hF)
  have HO_VF : Hid ((bytV F).toArray.all (·.oneCell') = true) := Lib.hid (by rw [List.all_toArray, List.all_eq_true]; exact bytV_one _)
  have HL_VF : Hid ((bytV F).length = 16) := Lib.hid (by rw [bytV_len]; exact hF)
  have HI_VT : Hid ((Try.prog.info? 32).map (·.size) = some (bytV T).length) := Lib.hid (Try.infoV6 _ hT)
  have HO_VT : Hid ((bytV T).toArray.all (·.oneCell') = true) := Lib.hid (by rw [List.all_toArray, List.all_eq_true]; exact bytV_one _)
  have HL_VT : Hid ((bytV T).length = 16) := Lib.hid (by rw [bytV_len]; exact hT)
  have HC_VP_0 : Hid (p.vals[0]? = some (.int .i64 p.tos)) := Lib.hid rfl
  have HC_VP_1 : Hid (p.vals[1]? = some (.int .i64 p.id)) := Lib.hid rfl
  have HC_VP_2 : Hid (p.vals[2]? = some (.int .i64 p.ttl)) := Lib.hid rfl
  have HC_VP_3 : Hid (p.vals[3]? = some (.int .i64 p.proto)) := Lib.hid rfl
  have HC_VP_4 : Hid (p.vals[4]? = some (.int .i64 p.pl)) := Lib.hid rfl
  have HC_VP_5 : Hid (p.vals[5]? = some (.bool p.df)) := Lib.hid rfl
  have HC_VP_6 : Hid (p.vals[6]? = some (.bool p.more)) := Lib.hid rfl
  have HC_VP_15 : Hid (p.vals[15]? = some (.string p.opts)) := Lib.hid rfl
  have HC_VP_16 : Hid (p.vals[16]? = some (.string p.data)) := Lib.hid rfl
  have HK1 : Hid (Kp w w.heap.size [(w.heap.size + 1 + 1 + 1, 35, Z), (w.heap.size + 1 + 1, 32, bytV T), (w.heap.size + 1, 32, bytV F), (w.heap.size, 25, p.vals)] ((((w.alloc (.cells p.vals.toArray 25)).alloc (.cells (bytV F).toArray 32)).alloc (.cells (bytV T).toArray 32)).alloc (.cells Z.toArray 35))) := Lib.hid (by
    have h := (((Kp.start w).new 25 p.vals).new 32 (bytV F)).new 32 (bytV T)
    have e1 : (w.alloc (.cells p.vals.toArray 25)).heap.size = w.heap.size + 1 := by simp
    have e2 : ((w.alloc (.cells p.vals.toArray 25)).alloc (.cells (bytV F).toArray 32)).heap.size = w.heap.size + 1 + 1 := by simp
    have e3 : (((w.alloc (.cells p.vals.toArray 25)).alloc (.cells (bytV F).toArray 32)).alloc (.cells (bytV T).toArray 32)).heap.size = w.heap.size + 1 + 1 + 1 := by simp
    rw [e1, e2] at h
    have h2 := h.new 35 Z
    rwa [e3] at h2)
  generalize p.vals = VP at *
  generalize bytV F = VF at *
  generalize bytV T = VT at *
  generalize hw1 : (((w.alloc (.cells VP.toArray 25)).alloc (.cells VF.toArray 32)).alloc (.cells VT.toArray 32)).alloc (.cells Z.toArray 35) = w1 at *
  rw [hz0] at hw1
  go_enter Try.func21, Try.ntmps21
  go_upto_region 1 with (fail)
  clear hw1 hz0
  have c2 : w1.cell? ⟨w.heap.size, 2, none⟩ = some (.int .i64 p.ttl) := HK1.out.tl.tl.tl.hd.at HC_VP_2.out
  have c0 : w1.cell? ⟨w.heap.size, 0, none⟩ = some (.int .i64 p.tos) := HK1.out.tl.tl.tl.hd.at HC_VP_0.out
  have c15 : w1.cell? ⟨w.heap.size, 15, none⟩ = some (.string p.opts) := HK1.out.tl.tl.tl.hd.at HC_VP_15.out
  go_wp2_with (fail)
  clear c2 c0 c15
  refine (HR.out _).mono ?_
  rintro e w2 ⟨f, rfl, hfl, hle, bb⟩
  have HK2 := Lib.hid (HK1.out.below bb (Nat.le_refl _))
  have hlc := HK1.out.hd.lt
  clear bb HK1
  have hkc := HK2.out.hd
  have htf := hkc.there _ (Nat.le_refl _)
  have HFl := Lib.hid hfl
  clear hfl
  go_wp2_with (((with_reducible (change wpList _ _ _ _ _ _)); (first | (refine Great.wpList_readTo rfl _ rfl (.agg Z.toArray) (run_execN (T := 35) (l := #[]) (m := #[]) rfl (by simp) (HBZ.out _)) ?_) | (refine wpList_store_mid rfl 35 _ _ rfl (w.heap.size + 1 + 1 + 1) 0 Z.toArray rfl rfl htf (by simpa using HI_Z.out) HO_Z.out ?_))))
  have hk5 := Bk.sets Z 0 _ _ hkc
  rw [puts_whole Z.toArray Z (by simp)] at hk5
  refine bodyPost_ret (v := .tuple #[.agg Z.toArray, .iface 75 (.pointer (some ⟨f, 0, none⟩))]) ?_ rfl ?_
  · exact results_cell2 rfl rfl rfl (run_loadVar_mid _ (w.heap.size + 1 + 1 + 1) 0 35 Z _ hk5.range Try.underlying35 rfl HI_Z.out)
  · refine ⟨_, by rw [HZ.out], (heap_sets Z (by omega) 0 _).trans HFl.out, by omega, below_sets _ (by omega) 0 _ HK2.out.2.1⟩
set_option maxRecDepth 100000 in
set_option maxHeartbeats 4000000 in
theorem head_kind_r (p : P4.Pkt) (F T : List UInt8) (hF : F.length = 16) (hT : T.length = 16) (w : World) (h0 : ¬ p.ttl < 2) (h1 : ¬ 255 < p.ttl) (h2 : ¬ p.tos < 0) (h3 : ¬ 255 < p.tos) (hr : P4.rtE p.opts.data.toList false = some true) :
    Calls Try.prog 21 #[.agg p.vals.toArray, .agg (bytV F).toArray, .agg (bytV T).toArray] w (Bad (.agg (pk0.vals (.slice none 0 0)).toArray) 10 w) := by
  have HR := Lib.hid (fun W => rtd_some p.opts true W hr)
  have HP := Lib.hid (fun W => proto_any p.proto W)
  generalize prOk p.proto = ok at *
  clear hr
  generalize pr46 p.proto = pr at *
  obtain ⟨Z, hZ⟩ : ∃ Z, Z = pk0.vals (.slice none 0 0) := ⟨_, rfl⟩
  have HBZ : Hid (∀ W, (Instr.build 35 #[]).run Try.prog W = .ok (.agg Z.toArray) W) := Lib.hid (fun W => by rw [hZ]; exact buildZ W)
  have HI_Z : Hid ((Try.prog.info? 35).map (·.size) = some Z.length) := Lib.hid (by rw [hZ]; exact Try.info6 _ _)
  have HO_Z : Hid (Z.toArray.all (·.oneCell') = true) := Lib.hid (by rw [hZ]; exact vals_one _ _ rfl)
  have HL_Z : Hid (Z.length = 42) := Lib.hid (by rw [hZ]; exact vals_len _ _)
  have hz0 : Z.toArray = #[.int .i64 0, .int .i64 0, .int .i64 0, .int .u8 0, .int .u8 0, .int .u8 0, .int .u8 0, .int .u8 0, .int .u8 0, .int .u8 0, .int .u8 0, .int .u8 0, .int .u8 0, .int .u8 0, .int .u8 0, .int .u8 0, .int .u8 0, .int .u8 0, .int .u8 0, .int .u8 0, .int .u8 0, .int .u8 0, .int .u8 0, .int .u8 0, .int .u8 0, .int .u8 0, .int .u8 0, .int .u8 0, .int .u8 0, .int .u8 0, .int .u8 0, .int .u8 0, .int .u8 0, .int .u8 0, .int .u8 0, .slice none 0 0, .bool false, .int .u32 0, .int .i64 0, .bool false, .int .i64 0, .string ⟨#[]⟩] := by rw [hZ]; exact pk0_vals
  have HZ := Lib.hid hZ
  have HZ0 := Lib.hid hz0
  clear hZ
  have HI_VP : Hid ((Try.prog.info? 25).map (·.size) = some (p.vals).length) := Lib.hid (P4.Try.infoIp _)
  have HO_VP : Hid ((p.vals).toArray.all (·.oneCell') = true) := Lib.hid (P4.vals_one _)
  have HL_VP : Hid ((p.vals).length = 17) := Lib.hid rfl
  have HI_VF : Hid ((Try.prog.info? 32).map (·.size) = some (bytV F).length) := Lib.hid (Try.infoV6 _ hF)
  have HO_VF : Hid ((bytV F).toArray.all (·.oneCell') = true) := Lib.hid (by rw [List.all_toArray, List.all_eq_true]; exact bytV_one _)
  have HL_VF : Hid ((bytV F).length = 16) := Lib.hid (by rw [bytV_len]; exact hF)
  have HI_VT : Hid ((Try.prog.info? 32).map (·.size) = some (bytV T).length) := Lib.hid (Try.infoV6 _ hT)
  have HO_VT : Hid ((bytV T).toArray.all (·.oneCell') = true) := Lib.hid (by rw [List.all_toArray, List.all_eq_true]; exact bytV_one _)
  have HL_VT : Hid ((bytV T).length = 16) := Lib.hid (by rw [bytV_len]; exact hT)
  have HC_VP_0 : Hid (p.vals[0]? = some (.int .i64 p.tos)) := Lib.hid rfl
  have HC_VP_1 : Hid (p.vals[1]? = some (.int .i64 p.id)) := Lib.hid rfl
  have HC_VP_2 : Hid (p.vals[2]? = some (.int .i64 p.ttl)) := Lib.hid rfl
  have HC_VP_3 : Hid (p.vals[3]? = some (.int .i64 p.proto)) := Lib.hid rfl
  have HC_VP_4 : Hid (p.vals[4]? = some (.int .i64 p.pl)) := Lib.hid rfl
  have HC_VP_5 : Hid (p.vals[5]? = some (.bool p.df)) := Lib.hid rfl
  have HC_VP_6 : Hid (p.vals[6]? = some (.bool p.more)) := Lib.hid rfl
  have HC_VP_15 : Hid (p.vals[15]? = some (.string p.opts)) := Lib.hid rfl
  have HC_VP_16 : Hid (p.vals[16]? = some (.string p.data)) := Lib.hid rfl
  have HK1 : Hid (Kp w w.heap.size [(w.heap.size + 1 + 1 + 1, 35, Z), (w.heap.size + 1 + 1, 32, bytV T), (w.heap.size + 1, 32, bytV F), (w.heap.size, 25, p.vals)] ((((w.alloc (.cells p.vals.toArray 25)).alloc (.cells (bytV F).toArray 32)).alloc (.cells (bytV T).toArray 32)).alloc (.cells Z.toArray 35))) := Lib.hid (by
    have h := (((Kp.start w).new 25 p.vals).new 32 (bytV F)).new 32 (bytV T)
    have e1 : (w.alloc (.cells p.vals.toArray 25)).heap.size = w.heap.size + 1 := by simp
    have e2 : ((w.alloc (.cells p.vals.toArray 25)).alloc (.cells (bytV F).toArray 32)).heap.size = w.heap.size + 1 + 1 := by simp
    have e3 : (((w.alloc (.cells p.vals.toArray 25)).alloc (.cells (bytV F).toArray 32)).alloc (.cells (bytV T).toArray 32)).heap.size = w.heap.size + 1 + 1 + 1 := by simp
    rw [e1, e2] at h
    have h2 := h.new 35 Z
    rwa [e3] at h2)
  generalize p.vals = VP at *
  generalize bytV F = VF at *
  generalize bytV T = VT at *
  generalize hw1 : (((w.alloc (.cells VP.toArray 25)).alloc (.cells VF.toArray 32)).alloc (.cells VT.toArray 32)).alloc (.cells Z.toArray 35) = w1 at *
  rw [hz0] at hw1
  go_enter Try.func21, Try.ntmps21
  go_upto_region 1 with (fail)
  clear hw1 hz0
  have c2 : w1.cell? ⟨w.heap.size, 2, none⟩ = some (.int .i64 p.ttl) := HK1.out.tl.tl.tl.hd.at HC_VP_2.out
  have c0 : w1.cell? ⟨w.heap.size, 0, none⟩ = some (.int .i64 p.tos) := HK1.out.tl.tl.tl.hd.at HC_VP_0.out
  have c15 : w1.cell? ⟨w.heap.size, 15, none⟩ = some (.string p.opts) := HK1.out.tl.tl.tl.hd.at HC_VP_15.out
  go_wp2_with (fail)
  clear c2 c0 c15
  refine (HR.out _).mono ?_
  rintro e w2 ⟨rfl, bb⟩
  have HK2 := Lib.hid (HK1.out.below bb (Nat.le_refl _))
  clear bb HK1
  have c3 : w2.cell? ⟨w.heap.size, 3, none⟩ = some (.int .i64 p.proto) := HK2.out.tl.tl.tl.hd.at HC_VP_3.out
  go_wp2_with (fail)
  clear c3
  refine (HP.out _).mono ?_
  rintro e w9 ⟨rfl, rfl⟩
  go_upto_region 8 with (fail)
  have hkc : Bk (w2.alloc (.cells #[.int .i64 10, .int .i64 0] 78)) (w.heap.size + 1 + 1 + 1) 35 Z.toArray := HK2.out.hd.alloc _
  have htf := hkc.there _ (Nat.le_refl _)
  go_wp2_with (((with_reducible (change wpList _ _ _ _ _ _)); (first | (refine Great.wpList_readTo rfl _ rfl (.agg Z.toArray) (run_execN (T := 35) (l := #[]) (m := #[]) rfl (by simp) (HBZ.out _)) ?_) | (refine wpList_store_mid rfl 35 _ _ rfl (w.heap.size + 1 + 1 + 1) 0 Z.toArray rfl rfl htf (by simpa using HI_Z.out) HO_Z.out ?_))))
  have hk5 := Bk.sets Z 0 _ _ hkc
  rw [puts_whole Z.toArray Z (by simp)] at hk5
  have hlc := HK2.out.hd.lt
  refine bodyPost_ret (v := .tuple #[.agg Z.toArray, .iface 75 (.pointer (some ⟨w2.heap.size, 0, none⟩))]) ?_ rfl ?_
  · exact results_cell2 rfl rfl rfl (run_loadVar_mid _ (w.heap.size + 1 + 1 + 1) 0 35 Z _ hk5.range Try.underlying35 rfl HI_Z.out)
  · refine ⟨_, by rw [HZ.out], ?_, HK2.out.2.1.size, below_sets _ (by omega) 0 _ (HK2.out.2.1.alloc HK2.out.2.1.size _)⟩
    exact (heap_sets Z (by omega) 0 _).trans (Flt.new _ 10 0)
set_option maxRecDepth 100000 in
set_option maxHeartbeats 4000000 in
theorem head_kind_p (p : P4.Pkt) (F T : List UInt8) (hF : F.length = 16) (hT : T.length = 16) (w : World) (h0 : ¬ p.ttl < 2) (h1 : ¬ 255 < p.ttl) (h2 : ¬ p.tos < 0) (h3 : ¬ 255 < p.tos) (hr : P4.rtE p.opts.data.toList false = some false) (hp : prOk p.proto = false) :
    Calls Try.prog 21 #[.agg p.vals.toArray, .agg (bytV F).toArray, .agg (bytV T).toArray] w (Bad (.agg (pk0.vals (.slice none 0 0)).toArray) 10 w) := by
  have HR := Lib.hid (fun W => rtd_some p.opts false W hr)
  have HP : Hid (∀ W, Calls Try.prog 22 #[.int .i64 p.proto] W fun e w' => e = .returned (.tuple #[.int .i64 (pr46 p.proto), .bool false]) ∧ W = w') := Lib.hid (fun W => by rw [← hp]; exact proto_any p.proto W)
  clear hp
  clear hr
  generalize pr46 p.proto = pr at *
  obtain ⟨Z, hZ⟩ : ∃ Z, Z = pk0.vals (.slice none 0 0) := ⟨_, rfl⟩
  have HBZ : Hid (∀ W, (Instr.build 35 #[]).run Try.prog W = .ok (.agg Z.toArray) W) := Lib.hid (fun W => by rw [hZ]; exact buildZ W)
  have HI_Z : Hid ((Try.prog.info? 35).map (·.size) = some Z.length) := Lib.hid (by rw [hZ]; exact Try.info6 _ _)
  have HO_Z : Hid (Z.toArray.all (·.oneCell') = true) := Lib.hid (by rw [hZ]; exact vals_one _ _ rfl)
  have HL_Z : Hid (Z.length = 42) := Lib.hid (by rw [hZ]; exact vals_len _ _)
  have hz0 : Z.toArray = #[.int .i64 0, .int .i64 0, .int .i64 0, .int .u8 0, .int .u8 0, .int .u8 0, .int .u8 0, .int .u8 0, .int .u8 0, .int .u8 0, .int .u8 0, .int .u8 0, .int .u8 0, .int .u8 0, .int .u8 0, .int .u8 0, .int .u8 0, .int .u8 0, .int .u8 0, .int .u8 0, .int .u8 0, .int .u8 0, .int .u8 0, .int .u8 0, .int .u8 0, .int .u8 0, .int .u8 0, .int .u8 0, .int .u8 0, .int .u8 0, .int .u8 0, .int .u8 0, .int .u8 0, .int .u8 0, .int .u8 0, .slice none 0 0, .bool false, .int .u32 0, .int .i64 0, .bool false, .int .i64 0, .string ⟨#[]⟩] := by rw [hZ]; exact pk0_vals
  have HZ := Lib.hid hZ
  have HZ0 := Lib.hid hz0
  clear hZ
  have HI_VP : Hid ((Try.prog.info? 25).map (·.size) = some (p.vals).length) := Lib.hid (P4.Try.infoIp _)
  have HO_VP : Hid ((p.vals).toArray.all (·.oneCell') = true) := Lib.hid (P4.vals_one _)
  have HL_VP : Hid ((p.vals).length = 17) := Lib.hid rfl
  have HI_VF : Hid ((Try.prog.info? 32).map (·.size) = some (bytV F).length) := Lib.hid (Try.infoV6 _ hF)
  have HO_VF : Hid ((bytV F).toArray.all (·.oneCell') = true) := Lib.hid (by rw [List.all_toArray, List.all_eq_true]; exact bytV_one _)
  have HL_VF : Hid ((bytV F).length = 16) := Lib.hid (by rw [bytV_len]; exact hF)
  have HI_VT : Hid ((Try.prog.info? 32).map (·.size) = some (bytV T).length) := Lib.hid (Try.infoV6 _ hT)
  have HO_VT : Hid ((bytV T).toArray.all (·.oneCell') = true) := Lib.hid (by rw [List.all_toArray, List.all_eq_true]; exact bytV_one _)
  have HL_VT : Hid ((bytV T).length = 16) := Lib.hid (by rw [bytV_len]; exact hT)
  have HC_VP_0 : Hid (p.vals[0]? = some (.int .i64 p.tos)) := Lib.hid rfl
  have HC_VP_1 : Hid (p.vals[1]? = some (.int .i64 p.id)) := Lib.hid rfl
  have HC_VP_2 : Hid (p.vals[2]? = some (.int .i64 p.ttl)) := Lib.hid rfl
  have HC_VP_3 : Hid (p.vals[3]? = some (.int .i64 p.proto)) := Lib.hid rfl
  have HC_VP_4 : Hid (p.vals[4]? = some (.int .i64 p.pl)) := Lib.hid rfl
  have HC_VP_5 : Hid (p.vals[5]? = some (.bool p.df)) := Lib.hid rfl
  have HC_VP_6 : Hid (p.vals[6]? = some (.bool p.more)) := Lib.hid rfl
  have HC_VP_15 : Hid (p.vals[15]? = some (.string p.opts)) := Lib.hid rfl
  have HC_VP_16 : Hid (p.vals[16]? = some (.string p.data)) := Lib.hid rfl
  have HK1 : Hid (Kp w w.heap.size [(w.heap.size + 1 + 1 + 1, 35, Z), (w.heap.size + 1 + 1, 32, bytV T), (w.heap.size + 1, 32, bytV F), (w.heap.size, 25, p.vals)] ((((w.alloc (.cells p.vals.toArray 25)).alloc (.cells (bytV F).toArray 32)).alloc (.cells (bytV T).toArray 32)).alloc (.cells Z.toArray 35))) := Lib.hid (by
    have h := (((Kp.start w).new 25 p.vals).new 32 (bytV F)).new 32 (bytV T)
    have e1 : (w.alloc (.cells p.vals.toArray 25)).heap.size = w.heap.size + 1 := by simp
    have e2 : ((w.alloc (.cells p.vals.toArray 25)).alloc (.cells (bytV F).toArray 32)).heap.size = w.heap.size + 1 + 1 := by simp
    have e3 : (((w.alloc (.cells p.vals.toArray 25)).alloc (.cells (bytV F).toArray 32)).alloc (.cells (bytV T).toArray 32)).heap.size = w.heap.size + 1 + 1 + 1 := by simp
    rw [e1, e2] at h
    have h2 := h.new 35 Z
    rwa [e3] at h2)
  generalize p.vals = VP at *
  generalize bytV F = VF at *
  generalize bytV T = VT at *
  generalize hw1 : (((w.alloc (.cells VP.toArray 25)).alloc (.cells VF.toArray 32)).alloc (.cells VT.toArray 32)).alloc (.cells Z.toArray 35) = w1 at *
  rw [hz0] at hw1
  go_enter Try.func21, Try.ntmps21
  go_upto_region 1 with (fail)
  clear hw1 hz0
  have c2 : w1.cell? ⟨w.heap.size, 2, none⟩ = some (.int .i64 p.ttl) := HK1.out.tl.tl.tl.hd.at HC_VP_2.out
  have c0 : w1.cell? ⟨w.heap.size, 0, none⟩ = some (.int .i64 p.tos) := HK1.out.tl.tl.tl.hd.at HC_VP_0.out
  have c15 : w1.cell? ⟨w.heap.size, 15, none⟩ = some (.string p.opts) := HK1.out.tl.tl.tl.hd.at HC_VP_15.out
  go_wp2_with (fail)
  clear c2 c0 c15
  refine (HR.out _).mono ?_
  rintro e w2 ⟨rfl, bb⟩
  have HK2 := Lib.hid (HK1.out.below bb (Nat.le_refl _))
  clear bb HK1
  have c3 : w2.cell? ⟨w.heap.size, 3, none⟩ = some (.int .i64 p.proto) := HK2.out.tl.tl.tl.hd.at HC_VP_3.out
  go_wp2_with (fail)
  clear c3
  refine (HP.out _).mono ?_
  rintro e w9 ⟨rfl, rfl⟩
  go_upto_region 8 with (fail)
  have hkc : Bk (w2.alloc (.cells #[.int .i64 10, .int .i64 0] 78)) (w.heap.size + 1 + 1 + 1) 35 Z.toArray := HK2.out.hd.alloc _
  have htf := hkc.there _ (Nat.le_refl _)
  go_wp2_with (((with_reducible (change wpList _ _ _ _ _ _)); (first | (refine Great.wpList_readTo rfl _ rfl (.agg Z.toArray) (run_execN (T := 35) (l := #[]) (m := #[]) rfl (by simp) (HBZ.out _)) ?_) | (refine wpList_store_mid rfl 35 _ _ rfl (w.heap.size + 1 + 1 + 1) 0 Z.toArray rfl rfl htf (by simpa using HI_Z.out) HO_Z.out ?_))))
  have hk5 := Bk.sets Z 0 _ _ hkc
  rw [puts_whole Z.toArray Z (by simp)] at hk5
  have hlc := HK2.out.hd.lt
  refine bodyPost_ret (v := .tuple #[.agg Z.toArray, .iface 75 (.pointer (some ⟨w2.heap.size, 0, none⟩))]) ?_ rfl ?_
  · exact results_cell2 rfl rfl rfl (run_loadVar_mid _ (w.heap.size + 1 + 1 + 1) 0 35 Z _ hk5.range Try.underlying35 rfl HI_Z.out)
  · refine ⟨_, by rw [HZ.out], ?_, HK2.out.2.1.size, below_sets _ (by omega) 0 _ (HK2.out.2.1.alloc HK2.out.2.1.size _)⟩
    exact (heap_sets Z (by omega) 0 _).trans (Flt.new _ 10 0)

set_option maxRecDepth 100000 in
set_option maxHeartbeats 4000000 in
theorem head_whole (p : P4.Pkt) (F T : List UInt8) (hF : F.length = 16) (hT : T.length = 16) (w : World) (h0 : ¬ p.ttl < 2) (h1 : ¬ 255 < p.ttl) (h2 : ¬ p.tos < 0) (h3 : ¬ 255 < p.tos) (hr : P4.rtE p.opts.data.toList false = some false) (hp : prOk p.proto = true) (hm : p.more = false) (hl : p.pl = 0) :
    Calls Try.prog 21 #[.agg p.vals.toArray, .agg (bytV F).toArray, .agg (bytV T).toArray] w fun e w' => e = .returned (.tuple #[.agg ((⟨p.tos, 0, p.ttl - 1, F, T, [], false, 0, 0, false, pr46 p.proto, p.data, hF, hT⟩ : Pk6).vals (.slice none 0 0)).toArray, .nilIface]) ∧ Below w.heap.size w w' := by
  have HM := Lib.hid hm
  have HL := Lib.hid hl
  clear hm hl
  have HR := Lib.hid (fun W => rtd_some p.opts false W hr)
  have HP : Hid (∀ W, Calls Try.prog 22 #[.int .i64 p.proto] W fun e w' => e = .returned (.tuple #[.int .i64 (pr46 p.proto), .bool true]) ∧ W = w') := Lib.hid (fun W => by rw [← hp]; exact proto_any p.proto W)
  clear hp
  clear hr
  generalize pr46 p.proto = pr at *
  have HB : Hid (∀ W, (Instr.build 35 #[(0, .int .i64 p.tos), (2, .int .i64 (p.ttl - 1)), (3, .agg (bytV F).toArray), (4, .agg (bytV T).toArray), (10, .int .i64 pr), (11, .string p.data)]).run Try.prog W = .ok (.agg ((⟨p.tos, 0, p.ttl - 1, F, T, [], false, 0, 0, false, pr, p.data, hF, hT⟩ : Pk6).vals (.slice none 0 0)).toArray) W) := Lib.hid (fun W => buildH p.tos (p.ttl - 1) pr p.data F T hF hT W)
  have HI_V0 : Hid ((Try.prog.info? 35).map (·.size) = some ((⟨p.tos, 0, p.ttl - 1, F, T, [], false, 0, 0, false, pr, p.data, hF, hT⟩ : Pk6).vals (.slice none 0 0)).length) := Lib.hid (Try.info6 _ _)
  have HO_V0 : Hid (((⟨p.tos, 0, p.ttl - 1, F, T, [], false, 0, 0, false, pr, p.data, hF, hT⟩ : Pk6).vals (.slice none 0 0)).toArray.all (·.oneCell') = true) := Lib.hid (vals_one _ _ rfl)
  have HL_V0 : Hid (((⟨p.tos, 0, p.ttl - 1, F, T, [], false, 0, 0, false, pr, p.data, hF, hT⟩ : Pk6).vals (.slice none 0 0)).length = 42) := Lib.hid (vals_len _ _)
  generalize (⟨p.tos, 0, p.ttl - 1, F, T, [], false, 0, 0, false, pr, p.data, hF, hT⟩ : Pk6).vals (.slice none 0 0) = V0 at *
  obtain ⟨Z, hZ⟩ : ∃ Z, Z = pk0.vals (.slice none 0 0) := ⟨_, rfl⟩
  have HBZ : Hid (∀ W, (Instr.build 35 #[]).run Try.prog W = .ok (.agg Z.toArray) W) := Lib.hid (fun W => by rw [hZ]; exact buildZ W)
  have HI_Z : Hid ((Try.prog.info? 35).map (·.size) = some Z.length) := Lib.hid (by rw [hZ]; exact Try.info6 _ _)
  have HO_Z : Hid (Z.toArray.all (·.oneCell') = true) := Lib.hid (by rw [hZ]; exact vals_one _ _ rfl)
  have HL_Z : Hid (Z.length = 42) := Lib.hid (by rw [hZ]; exact vals_len _ _)
  have hz0 : Z.toArray = #[.int .i64 0, .int .i64 0, .int .i64 0, .int .u8 0, .int .u8 0, .int .u8 0, .int .u8 0, .int .u8 0, .int .u8 0, .int .u8 0, .int .u8 0, .int .u8 0, .int .u8 0, .int .u8 0, .int .u8 0, .int .u8 0, .int .u8 0, .int .u8 0, .int .u8 0, .int .u8 0, .int .u8 0, .int .u8 0, .int .u8 0, .int .u8 0, .int .u8 0, .int .u8 0, .int .u8 0, .int .u8 0, .int .u8 0, .int .u8 0, .int .u8 0, .int .u8 0, .int .u8 0, .int .u8 0, .int .u8 0, .slice none 0 0, .bool false, .int .u32 0, .int .i64 0, .bool false, .int .i64 0, .string ⟨#[]⟩] := by rw [hZ]; exact pk0_vals
  have HZ := Lib.hid hZ
  have HZ0 := Lib.hid hz0
  clear hZ
  have HI_VP : Hid ((Try.prog.info? 25).map (·.size) = some (p.vals).length) := Lib.hid (P4.Try.infoIp _)
  have HO_VP : Hid ((p.vals).toArray.all (·.oneCell') = true) := Lib.hid (P4.vals_one _)
  have HL_VP : Hid ((p.vals).length = 17) := Lib.hid rfl
  have HI_VF : Hid ((Try.prog.info? 32).map (·.size) = some (bytV F).length) := Lib.hid (Try.infoV6 _ hF)
  have HO_VF : Hid ((bytV F).toArray.all (·.oneCell') = true) := Lib.hid (by rw [List.all_toArray, List.all_eq_true]; exact bytV_one _)
  have HL_VF : Hid ((bytV F).length = 16) := Lib.hid (by rw [bytV_len]; exact hF)
  have HI_VT : Hid ((Try.prog.info? 32).map (·.size) = some (bytV T).length) := Lib.hid (Try.infoV6 _ hT)
  have HO_VT : Hid ((bytV T).toArray.all (·.oneCell') = true) := Lib.hid (by rw [List.all_toArray, List.all_eq_true]; exact bytV_one _)
  have HL_VT : Hid ((bytV T).length = 16) := Lib.hid (by rw [bytV_len]; exact hT)
  have HC_VP_0 : Hid (p.vals[0]? = some (.int .i64 p.tos)) := Lib.hid rfl
  have HC_VP_1 : Hid (p.vals[1]? = some (.int .i64 p.id)) := Lib.hid rfl
  have HC_VP_2 : Hid (p.vals[2]? = some (.int .i64 p.ttl)) := Lib.hid rfl
  have HC_VP_3 : Hid (p.vals[3]? = some (.int .i64 p.proto)) := Lib.hid rfl
  have HC_VP_4 : Hid (p.vals[4]? = some (.int .i64 p.pl)) := Lib.hid rfl
  have HC_VP_5 : Hid (p.vals[5]? = some (.bool p.df)) := Lib.hid rfl
  have HC_VP_6 : Hid (p.vals[6]? = some (.bool p.more)) := Lib.hid rfl
  have HC_VP_15 : Hid (p.vals[15]? = some (.string p.opts)) := Lib.hid rfl
  have HC_VP_16 : Hid (p.vals[16]? = some (.string p.data)) := Lib.hid rfl
  have HK1 : Hid (Kp w w.heap.size [(w.heap.size + 1 + 1 + 1, 35, Z), (w.heap.size + 1 + 1, 32, bytV T), (w.heap.size + 1, 32, bytV F), (w.heap.size, 25, p.vals)] ((((w.alloc (.cells p.vals.toArray 25)).alloc (.cells (bytV F).toArray 32)).alloc (.cells (bytV T).toArray 32)).alloc (.cells Z.toArray 35))) := Lib.hid (by
    have h := (((Kp.start w).new 25 p.vals).new 32 (bytV F)).new 32 (bytV T)
    have e1 : (w.alloc (.cells p.vals.toArray 25)).heap.size = w.heap.size + 1 := by simp
    have e2 : ((w.alloc (.cells p.vals.toArray 25)).alloc (.cells (bytV F).toArray 32)).heap.size = w.heap.size + 1 + 1 := by simp
    have e3 : (((w.alloc (.cells p.vals.toArray 25)).alloc (.cells (bytV F).toArray 32)).alloc (.cells (bytV T).toArray 32)).heap.size = w.heap.size + 1 + 1 + 1 := by simp
    rw [e1, e2] at h
    have h2 := h.new 35 Z
    rwa [e3] at h2)
  generalize p.vals = VP at *
  generalize bytV F = VF at *
  generalize bytV T = VT at *
  generalize hw1 : (((w.alloc (.cells VP.toArray 25)).alloc (.cells VF.toArray 32)).alloc (.cells VT.toArray 32)).alloc (.cells Z.toArray 35) = w1 at *
  rw [hz0] at hw1
  go_enter Try.func21, Try.ntmps21
  go_upto_region 1 with (fail)
  clear hw1 hz0
  have c2 : w1.cell? ⟨w.heap.size, 2, none⟩ = some (.int .i64 p.ttl) := HK1.out.tl.tl.tl.hd.at HC_VP_2.out
  have c0 : w1.cell? ⟨w.heap.size, 0, none⟩ = some (.int .i64 p.tos) := HK1.out.tl.tl.tl.hd.at HC_VP_0.out
  have c15 : w1.cell? ⟨w.heap.size, 15, none⟩ = some (.string p.opts) := HK1.out.tl.tl.tl.hd.at HC_VP_15.out
  go_wp2_with (fail)
  clear c2 c0 c15
  refine (HR.out _).mono ?_
  rintro e w2 ⟨rfl, bb⟩
  have HK2 := Lib.hid (HK1.out.below bb (Nat.le_refl _))
  clear bb HK1
  have c3 : w2.cell? ⟨w.heap.size, 3, none⟩ = some (.int .i64 p.proto) := HK2.out.tl.tl.tl.hd.at HC_VP_3.out
  go_wp2_with (fail)
  clear c3
  refine (HP.out _).mono ?_
  rintro e w9 ⟨rfl, rfl⟩
  have c0 : w2.cell? ⟨w.heap.size, 0, none⟩ = some (.int .i64 p.tos) := HK2.out.tl.tl.tl.hd.at HC_VP_0.out
  have c2 : w2.cell? ⟨w.heap.size, 2, none⟩ = some (.int .i64 p.ttl) := HK2.out.tl.tl.tl.hd.at HC_VP_2.out
  have c16 : w2.cell? ⟨w.heap.size, 16, none⟩ = some (.string p.data) := HK2.out.tl.tl.tl.hd.at HC_VP_16.out
  have hr0 := HK2.out.tl.hd.range
  have hr1 := HK2.out.tl.tl.hd.range
  have kw : IntKind.i64.wrap (p.ttl - 1) = p.ttl - 1 := IntWalk.i64_in _ (by omega)
  have HG3 : Hid (w.heap.size + 1 + 1 + 1 < w2.heap.size) := Lib.hid HK2.out.hd.lt
  have ht := (bk_new w2 35 ([.int .i64 0, .int .i64 0, .int .i64 0, .int .u8 0, .int .u8 0, .int .u8 0, .int .u8 0, .int .u8 0, .int .u8 0, .int .u8 0, .int .u8 0, .int .u8 0, .int .u8 0, .int .u8 0, .int .u8 0, .int .u8 0, .int .u8 0, .int .u8 0, .int .u8 0, .int .u8 0, .int .u8 0, .int .u8 0, .int .u8 0, .int .u8 0, .int .u8 0, .int .u8 0, .int .u8 0, .int .u8 0, .int .u8 0, .int .u8 0, .int .u8 0, .int .u8 0, .int .u8 0, .int .u8 0, .int .u8 0, .slice none 0 0, .bool false, .int .u32 0, .int .i64 0, .bool false, .int .i64 0, .string ⟨#[]⟩] : List Value).toArray).there V0.toArray.size (by have := HL_V0.out; simp; omega)
  go_upto_region 10 with (((with_reducible (change wpList _ _ _ _ _ _)); (first | (refine wpList_load_mid rfl 32 _ rfl (w.heap.size + 1 + 1) 0 rfl (VT) _ hr0 Try.underlying32 rfl HI_VT.out ?_) | (refine wpList_load_mid rfl 32 _ rfl (w.heap.size + 1) 0 rfl (VF) _ hr1 Try.underlying32 rfl HI_VF.out ?_) | (refine Great.wpList_readTo rfl _ rfl (.agg V0.toArray) (run_execN rfl (by rw [List.map_toArray]; rfl) (HB.out _)) ?_) | (refine wpList_store_mid rfl 35 _ _ rfl (w2.heap.size) 0 V0.toArray rfl rfl ht (by simpa using HI_V0.out) HO_V0.out ?_))))
  have HK3 := Lib.hid (HK2.out.put 35 ([.int .i64 0, .int .i64 0, .int .i64 0, .int .u8 0, .int .u8 0, .int .u8 0, .int .u8 0, .int .u8 0, .int .u8 0, .int .u8 0, .int .u8 0, .int .u8 0, .int .u8 0, .int .u8 0, .int .u8 0, .int .u8 0, .int .u8 0, .int .u8 0, .int .u8 0, .int .u8 0, .int .u8 0, .int .u8 0, .int .u8 0, .int .u8 0, .int .u8 0, .int .u8 0, .int .u8 0, .int .u8 0, .int .u8 0, .int .u8 0, .int .u8 0, .int .u8 0, .int .u8 0, .int .u8 0, .int .u8 0, .slice none 0 0, .bool false, .int .u32 0, .int .i64 0, .bool false, .int .i64 0, .string ⟨#[]⟩] : List Value).toArray V0 (by have := HL_V0.out; simp; omega))
  clear ht HK2
  generalize (w2.alloc (.cells ([.int .i64 0, .int .i64 0, .int .i64 0, .int .u8 0, .int .u8 0, .int .u8 0, .int .u8 0, .int .u8 0, .int .u8 0, .int .u8 0, .int .u8 0, .int .u8 0, .int .u8 0, .int .u8 0, .int .u8 0, .int .u8 0, .int .u8 0, .int .u8 0, .int .u8 0, .int .u8 0, .int .u8 0, .int .u8 0, .int .u8 0, .int .u8 0, .int .u8 0, .int .u8 0, .int .u8 0, .int .u8 0, .int .u8 0, .int .u8 0, .int .u8 0, .int .u8 0, .int .u8 0, .int .u8 0, .int .u8 0, .slice none 0 0, .bool false, .int .u32 0, .int .i64 0, .bool false, .int .i64 0, .string ⟨#[]⟩] : List Value).toArray 35)).setCells w2.heap.size 0 V0 = w3 at *
  generalize w2.heap.size = g3 at *
  clear kw hr0 hr1 c0 c2 c16
  have c6 : w3.cell? ⟨w.heap.size, 6, none⟩ = some (.bool false) := HK3.out.tl.tl.tl.tl.hd.at (by rw [HC_VP_6.out, HM.out])
  have c4 : w3.cell? ⟨w.heap.size, 4, none⟩ = some (.int .i64 0) := HK3.out.tl.tl.tl.tl.hd.at (by rw [HC_VP_4.out, HL.out])
  have hr0 := HK3.out.hd.range
  have hkc := HK3.out.tl.hd
  have htf : w3.there (w.heap.size + 1 + 1 + 1) 0 V0.toArray.size := hkc.there _ (by have := HL_V0.out; have := HL_Z.out; simp; omega)
  go_wp2_with (((with_reducible (change wpList _ _ _ _ _ _)); (first | (refine wpList_load_mid rfl 35 _ rfl (g3) 0 rfl (V0) _ hr0 Try.underlying35 rfl HI_V0.out ?_) | (refine wpList_store_mid rfl 35 _ _ rfl (w.heap.size + 1 + 1 + 1) 0 V0.toArray rfl rfl htf (by simpa using HI_V0.out) HO_V0.out ?_))))
  have hk5 := Bk.sets V0 0 _ _ hkc
  rw [puts_whole Z.toArray V0 (by have := HL_V0.out; have := HL_Z.out; simp; omega)] at hk5
  refine bodyPost_ret (v := .tuple #[.agg V0.toArray, .nilIface]) ?_ rfl ?_
  · exact results_cell2 rfl rfl rfl (run_loadVar_mid _ (w.heap.size + 1 + 1 + 1) 0 35 V0 _ hk5.range Try.underlying35 rfl HI_V0.out)
  · exact ⟨rfl, below_sets _ (by omega) 0 _ HK3.out.2.1⟩
end Go.Proofs.Ytkihhmnlefekoaa
