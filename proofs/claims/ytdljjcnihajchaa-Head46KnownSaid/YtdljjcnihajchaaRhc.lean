/-
  Proved here: what the document's Head answers of a packet that may be.
  Conditions: a text of at most 70000 bytes as options.
-/
import Derived.Test.YtdljjcnihajchaaRq
namespace Go.Proofs.Ytdljjcnihajchaa
open Go.RowKit

set_option maxRecDepth 100000 in
set_option maxHeartbeats 4000000 in
theorem rhead_whole (p : P4.Pkt) (F T : List UInt8) (hF : F.length = 16) (hT : T.length = 16) (w : World) (h0 : ¬ p.ttl < 2) (h1 : ¬ 255 < p.ttl) (h2 : ¬ p.tos < 0) (h3 : ¬ 255 < p.tos) (hs : p.opts.size ≤ 70000) (hr : P4.rtE p.opts.data.toList false = some false) (hp : prOk p.proto = true) (hm : p.more = false) (hl : p.pl = 0) :
    Calls Try.prog 11 #[.agg p.vals.toArray, .agg (bytV F).toArray, .agg (bytV T).toArray] w (fun e w' => e = .returned (.tuple #[.agg (((⟨p.tos, 0, (p.ttl - 1), F, T, [], false, 0, 0, false, pr46 p.proto, p.data, hF, hT⟩ : Pk6).vals (.slice none 0 0))).toArray, .int .i64 0]) ∧ Below w.heap.size w w') := by
  have HM := Lib.hid hm
  clear hm
  have HL := Lib.hid hl
  clear hl
  have HR := Lib.hid (fun W => rrtd_some p.opts false W hs hr)
  have HP : Hid (∀ W, Calls Try.prog 13 #[.int .i64 p.proto] W fun e w' => e = .returned (.tuple #[.int .i64 (pr46 p.proto), .bool true]) ∧ W = w') := Lib.hid (fun W => by rw [← hp]; exact rproto_any p.proto W)
  clear hp
  clear hr hs
  generalize pr46 p.proto = pr at *
  have HI_Q1 : Hid ((Try.prog.info? 27).map (·.size) = some (((⟨p.tos, 0, 0, List.replicate 16 0, List.replicate 16 0, [], false, 0, 0, false, 0, ⟨#[]⟩, rfl, rfl⟩ : Pk6).vals (.slice none 0 0))).length) := Lib.hid (Try.info6 _ _)
  have HO_Q1 : Hid ((((⟨p.tos, 0, 0, List.replicate 16 0, List.replicate 16 0, [], false, 0, 0, false, 0, ⟨#[]⟩, rfl, rfl⟩ : Pk6).vals (.slice none 0 0))).toArray.all (·.oneCell') = true) := Lib.hid (vals_one _ _ rfl)
  have HL_Q1 : Hid ((((⟨p.tos, 0, 0, List.replicate 16 0, List.replicate 16 0, [], false, 0, 0, false, 0, ⟨#[]⟩, rfl, rfl⟩ : Pk6).vals (.slice none 0 0))).length = 42) := Lib.hid (vals_len _ _)
  have HE1 : Hid (((⟨0, 0, 0, List.replicate 16 0, List.replicate 16 0, [], false, 0, 0, false, 0, ⟨#[]⟩, rfl, rfl⟩ : Pk6).vals (.slice none 0 0)).set 0 (.int .i64 p.tos) = ((⟨p.tos, 0, 0, List.replicate 16 0, List.replicate 16 0, [], false, 0, 0, false, 0, ⟨#[]⟩, rfl, rfl⟩ : Pk6).vals (.slice none 0 0))) := Lib.hid (by
    obtain ⟨x0, x1, x2, x3, x4, x5, x6, x7, x8, x9, x10, x11, x12, x13, x14, x15, rfl⟩ := list16u hF
    obtain ⟨y0, y1, y2, y3, y4, y5, y6, y7, y8, y9, y10, y11, y12, y13, y14, y15, rfl⟩ := list16u hT
    rfl)
  have HI_Q2 : Hid ((Try.prog.info? 27).map (·.size) = some (((⟨p.tos, 0, (p.ttl - 1), List.replicate 16 0, List.replicate 16 0, [], false, 0, 0, false, 0, ⟨#[]⟩, rfl, rfl⟩ : Pk6).vals (.slice none 0 0))).length) := Lib.hid (Try.info6 _ _)
  have HO_Q2 : Hid ((((⟨p.tos, 0, (p.ttl - 1), List.replicate 16 0, List.replicate 16 0, [], false, 0, 0, false, 0, ⟨#[]⟩, rfl, rfl⟩ : Pk6).vals (.slice none 0 0))).toArray.all (·.oneCell') = true) := Lib.hid (vals_one _ _ rfl)
  have HL_Q2 : Hid ((((⟨p.tos, 0, (p.ttl - 1), List.replicate 16 0, List.replicate 16 0, [], false, 0, 0, false, 0, ⟨#[]⟩, rfl, rfl⟩ : Pk6).vals (.slice none 0 0))).length = 42) := Lib.hid (vals_len _ _)
  have HE2 : Hid (((⟨p.tos, 0, 0, List.replicate 16 0, List.replicate 16 0, [], false, 0, 0, false, 0, ⟨#[]⟩, rfl, rfl⟩ : Pk6).vals (.slice none 0 0)).set 2 (.int .i64 (p.ttl - 1)) = ((⟨p.tos, 0, (p.ttl - 1), List.replicate 16 0, List.replicate 16 0, [], false, 0, 0, false, 0, ⟨#[]⟩, rfl, rfl⟩ : Pk6).vals (.slice none 0 0))) := Lib.hid (by
    obtain ⟨x0, x1, x2, x3, x4, x5, x6, x7, x8, x9, x10, x11, x12, x13, x14, x15, rfl⟩ := list16u hF
    obtain ⟨y0, y1, y2, y3, y4, y5, y6, y7, y8, y9, y10, y11, y12, y13, y14, y15, rfl⟩ := list16u hT
    rfl)
  have HI_Q3 : Hid ((Try.prog.info? 27).map (·.size) = some (((⟨p.tos, 0, (p.ttl - 1), F, List.replicate 16 0, [], false, 0, 0, false, 0, ⟨#[]⟩, hF, rfl⟩ : Pk6).vals (.slice none 0 0))).length) := Lib.hid (Try.info6 _ _)
  have HO_Q3 : Hid ((((⟨p.tos, 0, (p.ttl - 1), F, List.replicate 16 0, [], false, 0, 0, false, 0, ⟨#[]⟩, hF, rfl⟩ : Pk6).vals (.slice none 0 0))).toArray.all (·.oneCell') = true) := Lib.hid (vals_one _ _ rfl)
  have HL_Q3 : Hid ((((⟨p.tos, 0, (p.ttl - 1), F, List.replicate 16 0, [], false, 0, 0, false, 0, ⟨#[]⟩, hF, rfl⟩ : Pk6).vals (.slice none 0 0))).length = 42) := Lib.hid (vals_len _ _)
  have HE3 : Hid (puts ((⟨p.tos, 0, (p.ttl - 1), List.replicate 16 0, List.replicate 16 0, [], false, 0, 0, false, 0, ⟨#[]⟩, rfl, rfl⟩ : Pk6).vals (.slice none 0 0)).toArray 3 (bytV F) = ((⟨p.tos, 0, (p.ttl - 1), F, List.replicate 16 0, [], false, 0, 0, false, 0, ⟨#[]⟩, hF, rfl⟩ : Pk6).vals (.slice none 0 0)).toArray) := Lib.hid (vputs_fr _ _ F hF)
  have HI_Q4 : Hid ((Try.prog.info? 27).map (·.size) = some (((⟨p.tos, 0, (p.ttl - 1), F, T, [], false, 0, 0, false, 0, ⟨#[]⟩, hF, hT⟩ : Pk6).vals (.slice none 0 0))).length) := Lib.hid (Try.info6 _ _)
  have HO_Q4 : Hid ((((⟨p.tos, 0, (p.ttl - 1), F, T, [], false, 0, 0, false, 0, ⟨#[]⟩, hF, hT⟩ : Pk6).vals (.slice none 0 0))).toArray.all (·.oneCell') = true) := Lib.hid (vals_one _ _ rfl)
  have HL_Q4 : Hid ((((⟨p.tos, 0, (p.ttl - 1), F, T, [], false, 0, 0, false, 0, ⟨#[]⟩, hF, hT⟩ : Pk6).vals (.slice none 0 0))).length = 42) := Lib.hid (vals_len _ _)
  have HE4 : Hid (puts ((⟨p.tos, 0, (p.ttl - 1), F, List.replicate 16 0, [], false, 0, 0, false, 0, ⟨#[]⟩, hF, rfl⟩ : Pk6).vals (.slice none 0 0)).toArray 19 (bytV T) = ((⟨p.tos, 0, (p.ttl - 1), F, T, [], false, 0, 0, false, 0, ⟨#[]⟩, hF, hT⟩ : Pk6).vals (.slice none 0 0)).toArray) := Lib.hid (vputs_dst _ _ T hT)
  have HI_Q5 : Hid ((Try.prog.info? 27).map (·.size) = some (((⟨p.tos, 0, (p.ttl - 1), F, T, [], false, 0, 0, false, pr, ⟨#[]⟩, hF, hT⟩ : Pk6).vals (.slice none 0 0))).length) := Lib.hid (Try.info6 _ _)
  have HO_Q5 : Hid ((((⟨p.tos, 0, (p.ttl - 1), F, T, [], false, 0, 0, false, pr, ⟨#[]⟩, hF, hT⟩ : Pk6).vals (.slice none 0 0))).toArray.all (·.oneCell') = true) := Lib.hid (vals_one _ _ rfl)
  have HL_Q5 : Hid ((((⟨p.tos, 0, (p.ttl - 1), F, T, [], false, 0, 0, false, pr, ⟨#[]⟩, hF, hT⟩ : Pk6).vals (.slice none 0 0))).length = 42) := Lib.hid (vals_len _ _)
  have HE5 : Hid (((⟨p.tos, 0, (p.ttl - 1), F, T, [], false, 0, 0, false, 0, ⟨#[]⟩, hF, hT⟩ : Pk6).vals (.slice none 0 0)).set 40 (.int .i64 pr) = ((⟨p.tos, 0, (p.ttl - 1), F, T, [], false, 0, 0, false, pr, ⟨#[]⟩, hF, hT⟩ : Pk6).vals (.slice none 0 0))) := Lib.hid (by
    obtain ⟨x0, x1, x2, x3, x4, x5, x6, x7, x8, x9, x10, x11, x12, x13, x14, x15, rfl⟩ := list16u hF
    obtain ⟨y0, y1, y2, y3, y4, y5, y6, y7, y8, y9, y10, y11, y12, y13, y14, y15, rfl⟩ := list16u hT
    rfl)
  have HI_Q6 : Hid ((Try.prog.info? 27).map (·.size) = some (((⟨p.tos, 0, (p.ttl - 1), F, T, [], false, 0, 0, false, pr, p.data, hF, hT⟩ : Pk6).vals (.slice none 0 0))).length) := Lib.hid (Try.info6 _ _)
  have HO_Q6 : Hid ((((⟨p.tos, 0, (p.ttl - 1), F, T, [], false, 0, 0, false, pr, p.data, hF, hT⟩ : Pk6).vals (.slice none 0 0))).toArray.all (·.oneCell') = true) := Lib.hid (vals_one _ _ rfl)
  have HL_Q6 : Hid ((((⟨p.tos, 0, (p.ttl - 1), F, T, [], false, 0, 0, false, pr, p.data, hF, hT⟩ : Pk6).vals (.slice none 0 0))).length = 42) := Lib.hid (vals_len _ _)
  have HE6 : Hid (((⟨p.tos, 0, (p.ttl - 1), F, T, [], false, 0, 0, false, pr, ⟨#[]⟩, hF, hT⟩ : Pk6).vals (.slice none 0 0)).set 41 (.string p.data) = ((⟨p.tos, 0, (p.ttl - 1), F, T, [], false, 0, 0, false, pr, p.data, hF, hT⟩ : Pk6).vals (.slice none 0 0))) := Lib.hid (by
    obtain ⟨x0, x1, x2, x3, x4, x5, x6, x7, x8, x9, x10, x11, x12, x13, x14, x15, rfl⟩ := list16u hF
    obtain ⟨y0, y1, y2, y3, y4, y5, y6, y7, y8, y9, y10, y11, y12, y13, y14, y15, rfl⟩ := list16u hT
    rfl)
  obtain ⟨Z9, hZ9⟩ : ∃ Z, Z = ((⟨0, 0, 0, List.replicate 16 0, List.replicate 16 0, [], false, 0, 0, false, 0, ⟨#[]⟩, rfl, rfl⟩ : Pk6).vals (.slice none 0 0)) := ⟨_, rfl⟩
  rw [← hZ9] at HE1
  generalize ((⟨p.tos, 0, 0, List.replicate 16 0, List.replicate 16 0, [], false, 0, 0, false, 0, ⟨#[]⟩, rfl, rfl⟩ : Pk6).vals (.slice none 0 0)) = Q1 at *
  generalize ((⟨p.tos, 0, (p.ttl - 1), List.replicate 16 0, List.replicate 16 0, [], false, 0, 0, false, 0, ⟨#[]⟩, rfl, rfl⟩ : Pk6).vals (.slice none 0 0)) = Q2 at *
  generalize ((⟨p.tos, 0, (p.ttl - 1), F, List.replicate 16 0, [], false, 0, 0, false, 0, ⟨#[]⟩, hF, rfl⟩ : Pk6).vals (.slice none 0 0)) = Q3 at *
  generalize ((⟨p.tos, 0, (p.ttl - 1), F, T, [], false, 0, 0, false, 0, ⟨#[]⟩, hF, hT⟩ : Pk6).vals (.slice none 0 0)) = Q4 at *
  generalize ((⟨p.tos, 0, (p.ttl - 1), F, T, [], false, 0, 0, false, pr, ⟨#[]⟩, hF, hT⟩ : Pk6).vals (.slice none 0 0)) = Q5 at *
  generalize ((⟨p.tos, 0, (p.ttl - 1), F, T, [], false, 0, 0, false, pr, p.data, hF, hT⟩ : Pk6).vals (.slice none 0 0)) = Q6 at *
  obtain ⟨Z, hZ⟩ : ∃ Z, Z = pk0.vals (.slice none 0 0) := ⟨_, rfl⟩
  have HBZ : Hid (∀ W, (Instr.build 27 #[]).run Try.prog W = .ok (.agg Z.toArray) W) := Lib.hid (fun W => by rw [hZ]; exact buildZ W)
  have HI_Z : Hid ((Try.prog.info? 27).map (·.size) = some Z.length) := Lib.hid (by rw [hZ]; exact Try.info6 _ _)
  have HO_Z : Hid (Z.toArray.all (·.oneCell') = true) := Lib.hid (by rw [hZ]; exact vals_one _ _ rfl)
  have HL_Z : Hid (Z.length = 42) := Lib.hid (by rw [hZ]; exact vals_len _ _)
  have hz0 : Z.toArray = #[.int .i64 0, .int .i64 0, .int .i64 0, .int .u8 0, .int .u8 0, .int .u8 0, .int .u8 0, .int .u8 0, .int .u8 0, .int .u8 0, .int .u8 0, .int .u8 0, .int .u8 0, .int .u8 0, .int .u8 0, .int .u8 0, .int .u8 0, .int .u8 0, .int .u8 0, .int .u8 0, .int .u8 0, .int .u8 0, .int .u8 0, .int .u8 0, .int .u8 0, .int .u8 0, .int .u8 0, .int .u8 0, .int .u8 0, .int .u8 0, .int .u8 0, .int .u8 0, .int .u8 0, .int .u8 0, .int .u8 0, .slice none 0 0, .bool false, .int .u32 0, .int .i64 0, .bool false, .int .i64 0, .string ⟨#[]⟩] := by rw [hZ]; exact pk0_vals
  have HZ := Lib.hid hZ
  have HZ0 := Lib.hid hz0
  clear hZ
  have HI_VP : Hid ((Try.prog.info? 35).map (·.size) = some (p.vals).length) := Lib.hid (P4.Try.infoIp _)
  have HO_VP : Hid ((p.vals).toArray.all (·.oneCell') = true) := Lib.hid (P4.vals_one _)
  have HL_VP : Hid ((p.vals).length = 17) := Lib.hid rfl
  have HI_VF : Hid ((Try.prog.info? 23).map (·.size) = some (bytV F).length) := Lib.hid (Try.infoV6 _ hF)
  have HO_VF : Hid ((bytV F).toArray.all (·.oneCell') = true) := Lib.hid (by rw [List.all_toArray, List.all_eq_true]; exact bytV_one _)
  have HL_VF : Hid ((bytV F).length = 16) := Lib.hid (by rw [bytV_len]; exact hF)
  have HI_VT : Hid ((Try.prog.info? 23).map (·.size) = some (bytV T).length) := Lib.hid (Try.infoV6 _ hT)
  have HO_VT : Hid ((bytV T).toArray.all (·.oneCell') = true) := Lib.hid (by rw [List.all_toArray, List.all_eq_true]; exact bytV_one _)
  have HL_VT : Hid ((bytV T).length = 16) := Lib.hid (by rw [bytV_len]; exact hT)
  have HC_VP_0 : Hid (p.vals[0]? = some (.int .i64 p.tos)) := Lib.hid rfl
  have HC_VP_1 : Hid (p.vals[1]? = some (.int .i64 p.id)) := Lib.hid rfl
  have HC_VP_2 : Hid (p.vals[2]? = some (.int .i64 p.ttl)) := Lib.hid rfl
  have HC_VP_3 : Hid (p.vals[3]? = some (.int .i64 p.proto)) := Lib.hid rfl
  have HC_VP_4 : Hid (p.vals[4]? = some (.int .i64 p.pl)) := Lib.hid rfl
  have HC_VP_5 : Hid (p.vals[5]? = some (.bool p.df)) := Lib.hid rfl
  have HC_VP_6 : Hid (p.vals[6]? = some (.bool p.more)) := Lib.hid rfl
  have HC_VP_15 : Hid (p.vals[15]? = some (.string p.opts)) := Lib.hid rfl
  have HC_VP_16 : Hid (p.vals[16]? = some (.string p.data)) := Lib.hid rfl
  have HK1 : Hid (Kp w w.heap.size [(w.heap.size + 1 + 1 + 1, 27, Z), (w.heap.size + 1 + 1, 23, bytV T), (w.heap.size + 1, 23, bytV F), (w.heap.size, 35, p.vals)] ((((w.alloc (.cells p.vals.toArray 35)).alloc (.cells (bytV F).toArray 23)).alloc (.cells (bytV T).toArray 23)).alloc (.cells Z.toArray 27))) := Lib.hid (by
    have h := (((Kp.start w).new 35 p.vals).new 23 (bytV F)).new 23 (bytV T)
    have e1 : (w.alloc (.cells p.vals.toArray 35)).heap.size = w.heap.size + 1 := by simp
    have e2 : ((w.alloc (.cells p.vals.toArray 35)).alloc (.cells (bytV F).toArray 23)).heap.size = w.heap.size + 1 + 1 := by simp
    have e3 : (((w.alloc (.cells p.vals.toArray 35)).alloc (.cells (bytV F).toArray 23)).alloc (.cells (bytV T).toArray 23)).heap.size = w.heap.size + 1 + 1 + 1 := by simp
    rw [e1, e2] at h
    have h2 := h.new 27 Z
    rwa [e3] at h2)
  generalize p.vals = VP at *
  generalize bytV F = VF at *
  generalize bytV T = VT at *
  generalize hw1 : (((w.alloc (.cells VP.toArray 35)).alloc (.cells VF.toArray 23)).alloc (.cells VT.toArray 23)).alloc (.cells Z.toArray 27) = w1 at *
  rw [hz0] at hw1
  go_enter Try.func11, Try.ntmps11
  go_upto_region 1 with (fail)
  clear hw1 hz0
  obtain rfl : Z = Z9 := HZ.out.trans hZ9.symm
  clear hZ9
  have ht := (bk_new w1 27 ([.int .i64 0, .int .i64 0, .int .i64 0, .int .u8 0, .int .u8 0, .int .u8 0, .int .u8 0, .int .u8 0, .int .u8 0, .int .u8 0, .int .u8 0, .int .u8 0, .int .u8 0, .int .u8 0, .int .u8 0, .int .u8 0, .int .u8 0, .int .u8 0, .int .u8 0, .int .u8 0, .int .u8 0, .int .u8 0, .int .u8 0, .int .u8 0, .int .u8 0, .int .u8 0, .int .u8 0, .int .u8 0, .int .u8 0, .int .u8 0, .int .u8 0, .int .u8 0, .int .u8 0, .int .u8 0, .int .u8 0, .slice none 0 0, .bool false, .int .u32 0, .int .i64 0, .bool false, .int .i64 0, .string ⟨#[]⟩] : List Value).toArray).there Z.toArray.size (by have := HL_Z.out; simp; omega)
  go_upto_region 2 with (((with_reducible (change wpList _ _ _ _ _ _)); (first | (refine Great.wpList_readTo rfl _ rfl (.agg Z.toArray) (run_execN (T := 27) (l := #[]) (m := #[]) rfl (by simp) (HBZ.out _)) ?_) | (refine wpList_store_mid rfl 27 _ _ rfl (w1.heap.size) 0 Z.toArray rfl rfl ht (by simpa using HI_Z.out) HO_Z.out ?_))))
  have HK2 := Lib.hid (HK1.out.put 27 ([.int .i64 0, .int .i64 0, .int .i64 0, .int .u8 0, .int .u8 0, .int .u8 0, .int .u8 0, .int .u8 0, .int .u8 0, .int .u8 0, .int .u8 0, .int .u8 0, .int .u8 0, .int .u8 0, .int .u8 0, .int .u8 0, .int .u8 0, .int .u8 0, .int .u8 0, .int .u8 0, .int .u8 0, .int .u8 0, .int .u8 0, .int .u8 0, .int .u8 0, .int .u8 0, .int .u8 0, .int .u8 0, .int .u8 0, .int .u8 0, .int .u8 0, .int .u8 0, .int .u8 0, .int .u8 0, .int .u8 0, .slice none 0 0, .bool false, .int .u32 0, .int .i64 0, .bool false, .int .i64 0, .string ⟨#[]⟩] : List Value).toArray Z (by have := HL_Z.out; simp; omega))
  clear ht HK1
  generalize (w1.alloc (.cells ([.int .i64 0, .int .i64 0, .int .i64 0, .int .u8 0, .int .u8 0, .int .u8 0, .int .u8 0, .int .u8 0, .int .u8 0, .int .u8 0, .int .u8 0, .int .u8 0, .int .u8 0, .int .u8 0, .int .u8 0, .int .u8 0, .int .u8 0, .int .u8 0, .int .u8 0, .int .u8 0, .int .u8 0, .int .u8 0, .int .u8 0, .int .u8 0, .int .u8 0, .int .u8 0, .int .u8 0, .int .u8 0, .int .u8 0, .int .u8 0, .int .u8 0, .int .u8 0, .int .u8 0, .int .u8 0, .int .u8 0, .slice none 0 0, .bool false, .int .u32 0, .int .i64 0, .bool false, .int .i64 0, .string ⟨#[]⟩] : List Value).toArray 27)).setCells w1.heap.size 0 Z = w2 at *
  generalize w1.heap.size = g0 at *
  have c2 : w2.cell? ⟨w.heap.size, 2, none⟩ = some (.int .i64 p.ttl) := HK2.out.tl.tl.tl.tl.hd.at HC_VP_2.out
  have c0 : w2.cell? ⟨w.heap.size, 0, none⟩ = some (.int .i64 p.tos) := HK2.out.tl.tl.tl.tl.hd.at HC_VP_0.out
  have c15 : w2.cell? ⟨w.heap.size, 15, none⟩ = some (.string p.opts) := HK2.out.tl.tl.tl.tl.hd.at HC_VP_15.out
  go_wp2_with (fail)
  clear c2 c0 c15
  refine (HR.out _).mono ?_
  rintro e w3 ⟨rfl, bb⟩
  have HK3 := Lib.hid (HK2.out.below bb (Nat.le_refl _))
  clear bb HK2
  have c3 : w3.cell? ⟨w.heap.size, 3, none⟩ = some (.int .i64 p.proto) := HK3.out.tl.tl.tl.tl.hd.at HC_VP_3.out
  go_wp2_with (fail)
  clear c3
  refine (HP.out _).mono ?_
  rintro e w9 ⟨rfl, rfl⟩
  have hr0 := HK3.out.hd.range
  have HG3 : Hid (w.heap.size + 1 + 1 + 1 < w3.heap.size ∧ g0 < w3.heap.size) := Lib.hid ⟨HK3.out.tl.hd.lt, HK3.out.hd.lt⟩
  have ht := (bk_new w3 27 ([.int .i64 0, .int .i64 0, .int .i64 0, .int .u8 0, .int .u8 0, .int .u8 0, .int .u8 0, .int .u8 0, .int .u8 0, .int .u8 0, .int .u8 0, .int .u8 0, .int .u8 0, .int .u8 0, .int .u8 0, .int .u8 0, .int .u8 0, .int .u8 0, .int .u8 0, .int .u8 0, .int .u8 0, .int .u8 0, .int .u8 0, .int .u8 0, .int .u8 0, .int .u8 0, .int .u8 0, .int .u8 0, .int .u8 0, .int .u8 0, .int .u8 0, .int .u8 0, .int .u8 0, .int .u8 0, .int .u8 0, .slice none 0 0, .bool false, .int .u32 0, .int .i64 0, .bool false, .int .i64 0, .string ⟨#[]⟩] : List Value).toArray).there Z.toArray.size (by have := HL_Z.out; simp; omega)
  go_upto_region 13 with (((with_reducible (change wpList _ _ _ _ _ _)); (first | (refine wpList_load_mid rfl 27 _ rfl (g0) 0 rfl (Z) _ hr0 Try.underlying27 rfl HI_Z.out ?_) | (refine wpList_store_mid rfl 27 _ _ rfl (w3.heap.size) 0 Z.toArray rfl rfl ht (by simpa using HI_Z.out) HO_Z.out ?_))))
  have HK4 := Lib.hid (HK3.out.put 27 ([.int .i64 0, .int .i64 0, .int .i64 0, .int .u8 0, .int .u8 0, .int .u8 0, .int .u8 0, .int .u8 0, .int .u8 0, .int .u8 0, .int .u8 0, .int .u8 0, .int .u8 0, .int .u8 0, .int .u8 0, .int .u8 0, .int .u8 0, .int .u8 0, .int .u8 0, .int .u8 0, .int .u8 0, .int .u8 0, .int .u8 0, .int .u8 0, .int .u8 0, .int .u8 0, .int .u8 0, .int .u8 0, .int .u8 0, .int .u8 0, .int .u8 0, .int .u8 0, .int .u8 0, .int .u8 0, .int .u8 0, .slice none 0 0, .bool false, .int .u32 0, .int .i64 0, .bool false, .int .i64 0, .string ⟨#[]⟩] : List Value).toArray Z (by have := HL_Z.out; simp; omega))
  clear ht HK3
  generalize (w3.alloc (.cells ([.int .i64 0, .int .i64 0, .int .i64 0, .int .u8 0, .int .u8 0, .int .u8 0, .int .u8 0, .int .u8 0, .int .u8 0, .int .u8 0, .int .u8 0, .int .u8 0, .int .u8 0, .int .u8 0, .int .u8 0, .int .u8 0, .int .u8 0, .int .u8 0, .int .u8 0, .int .u8 0, .int .u8 0, .int .u8 0, .int .u8 0, .int .u8 0, .int .u8 0, .int .u8 0, .int .u8 0, .int .u8 0, .int .u8 0, .int .u8 0, .int .u8 0, .int .u8 0, .int .u8 0, .int .u8 0, .int .u8 0, .slice none 0 0, .bool false, .int .u32 0, .int .i64 0, .bool false, .int .i64 0, .string ⟨#[]⟩] : List Value).toArray 27)).setCells w3.heap.size 0 Z = w4 at *
  generalize w3.heap.size = g3 at *
  clear hr0
  have hne : ∀ x ∈ ([(g0, 27, Z), (w.heap.size + 1 + 1 + 1, 27, Z), (w.heap.size + 1 + 1, 23, VT), (w.heap.size + 1, 23, VF), (w.heap.size, 35, VP)] : List (Nat × TypeId × List Value)), x.1 ≠ g3 := by
    have hg := HG3.out
    intro x hx
    simp only [List.mem_cons, List.not_mem_nil, or_false] at hx
    rcases hx with rfl | rfl | rfl | rfl | rfl <;> (show _ ≠ g3; omega)
  have hgB : w.heap.size ≤ g3 := by have := HG3.out; omega
  have HNE := Lib.hid (And.intro hne hgB)
  clear hne hgB
  obtain ⟨uu, hu, hz⟩ := HK4.out.some1 0 (by have := HL_Z.out; omega)
  have c0 : w4.cell? ⟨w.heap.size, 0, none⟩ = some (.int .i64 p.tos) := HK4.out.tl.tl.tl.tl.tl.hd.at HC_VP_0.out
  go_upto_region 14 with (fail)
  have hk := HK4.out.set1 HNE.out.1 HNE.out.2 0 (.int .i64 p.tos)
  rw [HE1.out] at hk
  have HK5 := Lib.hid hk
  clear hk hu hz HK4 c0
  generalize w4.setCell ⟨g3, 0, none⟩ (.int .i64 p.tos) = w5 at *
  obtain ⟨uu, hu, hz⟩ := HK5.out.some1 2 (by have := HL_Q1.out; omega)
  have c2 : w5.cell? ⟨w.heap.size, 2, none⟩ = some (.int .i64 p.ttl) := HK5.out.tl.tl.tl.tl.tl.hd.at HC_VP_2.out
  have kw : IntKind.i64.wrap (p.ttl - 1) = p.ttl - 1 := IntWalk.i64_in _ (by omega)
  go_upto_region 15 with (fail)
  have hk := HK5.out.set1 HNE.out.1 HNE.out.2 2 (.int .i64 (p.ttl - 1))
  rw [HE2.out] at hk
  have HK6 := Lib.hid hk
  clear hk hu hz HK5 c2 kw
  generalize w5.setCell ⟨g3, 2, none⟩ (.int .i64 (p.ttl - 1)) = w6 at *
  have hr0 := HK6.out.tl.tl.tl.tl.hd.range
  have ht := HK6.out.hd.there' 3 VF.toArray.size (by have := HL_VF.out; have := HL_Q2.out; simp; omega)
  go_upto_region 16 with (((with_reducible (change wpList _ _ _ _ _ _)); (first | (refine wpList_load_mid rfl 23 _ rfl (w.heap.size + 1) 0 rfl (VF) _ hr0 Try.underlying23 rfl HI_VF.out ?_) | (refine wpList_store_mid rfl 23 _ _ rfl g3 3 VF.toArray rfl rfl ht (by simpa using HI_VF.out) HO_VF.out ?_))))
  have HK7 := Lib.hid (HK6.out.sets1 HNE.out.1 HNE.out.2 3 VF HE3.out)
  clear ht hr0 HK6
  generalize w6.setCells g3 3 VF = w7 at *
  have hr0 := HK7.out.tl.tl.tl.hd.range
  have ht := HK7.out.hd.there' 19 VT.toArray.size (by have := HL_VT.out; have := HL_Q3.out; simp; omega)
  go_upto_region 17 with (((with_reducible (change wpList _ _ _ _ _ _)); (first | (refine wpList_load_mid rfl 23 _ rfl (w.heap.size + 1 + 1) 0 rfl (VT) _ hr0 Try.underlying23 rfl HI_VT.out ?_) | (refine wpList_store_mid rfl 23 _ _ rfl g3 19 VT.toArray rfl rfl ht (by simpa using HI_VT.out) HO_VT.out ?_))))
  have HK8 := Lib.hid (HK7.out.sets1 HNE.out.1 HNE.out.2 19 VT HE4.out)
  clear ht hr0 HK7
  generalize w7.setCells g3 19 VT = w8 at *
  obtain ⟨uu, hu, hz⟩ := HK8.out.some1 40 (by have := HL_Q4.out; omega)
  go_upto_region 18 with (fail)
  have hk := HK8.out.set1 HNE.out.1 HNE.out.2 40 (.int .i64 pr)
  rw [HE5.out] at hk
  have HK9 := Lib.hid hk
  clear hk hu hz HK8 
  generalize w8.setCell ⟨g3, 40, none⟩ (.int .i64 pr) = w9 at *
  obtain ⟨uu, hu, hz⟩ := HK9.out.some1 41 (by have := HL_Q5.out; omega)
  have c16 : w9.cell? ⟨w.heap.size, 16, none⟩ = some (.string p.data) := HK9.out.tl.tl.tl.tl.tl.hd.at HC_VP_16.out
  go_upto_region 19 with (fail)
  have hk := HK9.out.set1 HNE.out.1 HNE.out.2 41 (.string p.data)
  rw [HE6.out] at hk
  have HK10 := Lib.hid hk
  clear hk hu hz HK9 c16
  generalize w9.setCell ⟨g3, 41, none⟩ (.string p.data) = w10 at *
  have c6 : w10.cell? ⟨w.heap.size, 6, none⟩ = some (.bool false) := HK10.out.tl.tl.tl.tl.tl.hd.at (by rw [HC_VP_6.out, HM.out])
  have c4 : w10.cell? ⟨w.heap.size, 4, none⟩ = some (.int .i64 0) := HK10.out.tl.tl.tl.tl.tl.hd.at (by rw [HC_VP_4.out, HL.out])
  have hr0 := HK10.out.hd.range
  have hkc := HK10.out.tl.tl.hd
  have htf : w10.there (w.heap.size + 1 + 1 + 1) 0 Q6.toArray.size := hkc.there _ (by have := HL_Q6.out; have := HL_Z.out; simp; omega)
  go_wp2_with (((with_reducible (change wpList _ _ _ _ _ _)); (first | (refine wpList_load_mid rfl 27 _ rfl (g3) 0 rfl (Q6) _ hr0 Try.underlying27 rfl HI_Q6.out ?_) | (refine wpList_store_mid rfl 27 _ _ rfl (w.heap.size + 1 + 1 + 1) 0 Q6.toArray rfl rfl htf (by simpa using HI_Q6.out) HO_Q6.out ?_))))
  have hk5 := Bk.sets Q6 0 _ _ hkc
  rw [puts_whole Z.toArray Q6 (by have := HL_Q6.out; have := HL_Z.out; simp; omega)] at hk5
  refine bodyPost_ret (v := .tuple #[.agg Q6.toArray, .int .i64 0]) ?_ rfl ?_
  · exact results_cell2 rfl rfl rfl (run_loadVar_mid _ (w.heap.size + 1 + 1 + 1) 0 27 Q6 _ hk5.range Try.underlying27 rfl HI_Q6.out)
  · exact ⟨rfl, below_sets _ (by omega) 0 _ HK10.out.2.1⟩
end Go.Proofs.Ytdljjcnihajchaa
