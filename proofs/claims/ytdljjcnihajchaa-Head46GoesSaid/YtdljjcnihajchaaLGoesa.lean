/-
  Proved here: the law Head46Goes answers true.
  Conditions: none.
-/
import Derived.Test.YtdljjcnihajchaaFits
namespace Go.Proofs.Ytdljjcnihajchaa
open Go.RowKit

set_option maxRecDepth 100000 in
set_option maxHeartbeats 4000000 in
theorem goes_long (s : ByteArray) (F T : List UInt8) (hF : F.length = 16) (hT : T.length = 16) (w : World) (hs : (70000 : Int) < (s.size : Int)) :
    Calls Try.prog 5 #[.string s, .agg (bytV F).toArray, .agg (bytV T).toArray] w fun e w' => e = .returned (.bool true) ∧ Below w.heap.size w w' := by
  have HI_VF : Hid ((Try.prog.info? 23).map (·.size) = some (bytV F).length) := Lib.hid (Try.infoV6 _ hF)
  have HO_VF : Hid ((bytV F).toArray.all (·.oneCell') = true) := Lib.hid (by rw [List.all_toArray, List.all_eq_true]; exact bytV_one _)
  have HL_VF : Hid ((bytV F).length = 16) := Lib.hid (by rw [bytV_len]; exact hF)
  have HI_VT : Hid ((Try.prog.info? 23).map (·.size) = some (bytV T).length) := Lib.hid (Try.infoV6 _ hT)
  have HO_VT : Hid ((bytV T).toArray.all (·.oneCell') = true) := Lib.hid (by rw [List.all_toArray, List.all_eq_true]; exact bytV_one _)
  have HL_VT : Hid ((bytV T).length = 16) := Lib.hid (by rw [bytV_len]; exact hT)
  have HK1 : Hid (Kp w w.heap.size [(w.heap.size + 1, 23, bytV T), (w.heap.size, 23, bytV F)] ((w.alloc (.cells (bytV F).toArray 23)).alloc (.cells (bytV T).toArray 23))) := Lib.hid (by
    have h := (Kp.start w).new 23 (bytV F)
    have e1 : (w.alloc (.cells (bytV F).toArray 23)).heap.size = w.heap.size + 1 := by simp
    have h2 := h.new 23 (bytV T)
    rwa [e1] at h2)
  generalize bytV F = VF at *
  generalize bytV T = VT at *
  generalize hw1 : (w.alloc (.cells VF.toArray 23)).alloc (.cells VT.toArray 23) = w1 at *
  go_enter Try.func5, Try.ntmps5
  go_upto_region 1 with (fail)
  clear hw1
  go_wp2_with (fail)
  refine (awake_true _).mono ?_
  rintro e w2 ⟨rfl, bb⟩
  have HK2 := Lib.hid (HK1.out.below bb (Nat.le_refl _))
  clear bb HK1
  go_wp2_with (fail)
  go_ret
  exact ⟨rfl, HK2.out.2.1⟩
set_option maxRecDepth 100000 in
set_option maxHeartbeats 4000000 in
theorem goes_none (s : ByteArray) (F T : List UInt8) (hF : F.length = 16) (hT : T.length = 16) (w : World) (hs : ¬ (70000 : Int) < (s.size : Int)) (hc : P4.pcode s ≠ 0) :
    Calls Try.prog 5 #[.string s, .agg (bytV F).toArray, .agg (bytV T).toArray] w fun e w' => e = .returned (.bool true) ∧ Below w.heap.size w w' := by
  have CP := Lib.hid (fun W => P4.parse_bad s W (by omega) hc)
  clear hc
  generalize P4.pcode s = c at *
  have HI_VP : Hid ((Try.prog.info? 35).map (·.size) = some (P4.pkt0.vals).length) := Lib.hid (P4.Try.infoIp _)
  have HO_VP : Hid ((P4.pkt0.vals).toArray.all (·.oneCell') = true) := Lib.hid (P4.vals_one _)
  have HL_VP : Hid ((P4.pkt0.vals).length = 17) := Lib.hid rfl
  generalize P4.pkt0.vals = VP at *
  have HI_VF : Hid ((Try.prog.info? 23).map (·.size) = some (bytV F).length) := Lib.hid (Try.infoV6 _ hF)
  have HO_VF : Hid ((bytV F).toArray.all (·.oneCell') = true) := Lib.hid (by rw [List.all_toArray, List.all_eq_true]; exact bytV_one _)
  have HL_VF : Hid ((bytV F).length = 16) := Lib.hid (by rw [bytV_len]; exact hF)
  have HI_VT : Hid ((Try.prog.info? 23).map (·.size) = some (bytV T).length) := Lib.hid (Try.infoV6 _ hT)
  have HO_VT : Hid ((bytV T).toArray.all (·.oneCell') = true) := Lib.hid (by rw [List.all_toArray, List.all_eq_true]; exact bytV_one _)
  have HL_VT : Hid ((bytV T).length = 16) := Lib.hid (by rw [bytV_len]; exact hT)
  have HK1 : Hid (Kp w w.heap.size [(w.heap.size + 1, 23, bytV T), (w.heap.size, 23, bytV F)] ((w.alloc (.cells (bytV F).toArray 23)).alloc (.cells (bytV T).toArray 23))) := Lib.hid (by
    have h := (Kp.start w).new 23 (bytV F)
    have e1 : (w.alloc (.cells (bytV F).toArray 23)).heap.size = w.heap.size + 1 := by simp
    have h2 := h.new 23 (bytV T)
    rwa [e1] at h2)
  generalize bytV F = VF at *
  generalize bytV T = VT at *
  generalize hw1 : (w.alloc (.cells VF.toArray 23)).alloc (.cells VT.toArray 23) = w1 at *
  go_enter Try.func5, Try.ntmps5
  go_upto_region 1 with (fail)
  clear hw1
  go_wp2_with (fail)
  refine (awake_true _).mono ?_
  rintro e w2 ⟨rfl, bb⟩
  have HK2 := Lib.hid (HK1.out.below bb (Nat.le_refl _))
  clear bb HK1
  go_wp2_with (fail)
  refine (CP.out _).mono ?_
  rintro e w3 ⟨f, rfl, _, _, bb⟩
  have HK3 := Lib.hid (HK2.out.below bb (Nat.le_refl _))
  clear bb HK2
  have ht := (bk_new w3 35 ([.int .i64 0, .int .i64 0, .int .i64 0, .int .i64 0, .int .i64 0, .bool false, .bool false, .int .u8 0, .int .u8 0, .int .u8 0, .int .u8 0, .int .u8 0, .int .u8 0, .int .u8 0, .int .u8 0, .string ⟨#[]⟩, .string ⟨#[]⟩] : List Value).toArray).there VP.toArray.size (by have := HL_VP.out; simp; omega)
  go_upto_region 6 with (((with_reducible (change wpList _ _ _ _ _ _)); ((refine wpList_store_mid rfl 35 _ _ rfl (w3.heap.size) 0 VP.toArray rfl rfl ht (by simpa using HI_VP.out) HO_VP.out ?_))))
  have HK4 := Lib.hid (HK3.out.put 35 ([.int .i64 0, .int .i64 0, .int .i64 0, .int .i64 0, .int .i64 0, .bool false, .bool false, .int .u8 0, .int .u8 0, .int .u8 0, .int .u8 0, .int .u8 0, .int .u8 0, .int .u8 0, .int .u8 0, .string ⟨#[]⟩, .string ⟨#[]⟩] : List Value).toArray VP (by have := HL_VP.out; simp; omega))
  clear ht HK3
  generalize (w3.alloc (.cells ([.int .i64 0, .int .i64 0, .int .i64 0, .int .i64 0, .int .i64 0, .bool false, .bool false, .int .u8 0, .int .u8 0, .int .u8 0, .int .u8 0, .int .u8 0, .int .u8 0, .int .u8 0, .int .u8 0, .string ⟨#[]⟩, .string ⟨#[]⟩] : List Value).toArray 35)).setCells w3.heap.size 0 VP = w4 at *
  generalize w3.heap.size = g7 at *
  go_wp2_with (fail)
  go_ret
  exact ⟨rfl, HK4.out.2.1⟩
set_option maxRecDepth 100000 in
set_option maxHeartbeats 4000000 in
theorem goes_bad (s : ByteArray) (F T : List UInt8) (hF : F.length = 16) (hT : T.length = 16) (w : World) (hs : ¬ (70000 : Int) < (s.size : Int)) (hc : P4.pcode s = 0) (hh : hcode (P4.ppkt s) ≠ 0) :
    Calls Try.prog 5 #[.string s, .agg (bytV F).toArray, .agg (bytV T).toArray] w fun e w' => e = .returned (.bool true) ∧ Below w.heap.size w w' := by
  have CP := Lib.hid (fun W => P4.parse_ok s W (by omega) hc)
  clear hc
  generalize P4.ppkt s = p at *
  obtain ⟨VQ, hVQ⟩ : ∃ V, V = pk0.vals (.slice none 0 0) := ⟨_, rfl⟩
  have CH : Hid (∀ W, Calls Try.prog 7 #[.agg p.vals.toArray, .agg (bytV F).toArray, .agg (bytV T).toArray] W fun e w' => ∃ f : Nat, e = .returned (.tuple #[.agg VQ.toArray, .iface 50 (.pointer (some ⟨f, 0, none⟩))]) ∧ Below W.heap.size W w') := Lib.hid (fun W => by
    refine (head_any p F T hF hT W).mono ?_
    rintro e w' ⟨x, rfl, her, b⟩
    rcases her with ⟨h, _⟩ | ⟨_, f, rfl, _, _⟩
    · exact absurd h hh
    · exact ⟨f, by rw [hVQ, hout_bad hh], b⟩)
  have HC_VQ_41 : Hid (VQ[41]? = some (.string ⟨#[]⟩)) := Lib.hid (by rw [hVQ]; rfl)
  have HC_VQ_2 : Hid (VQ[2]? = some (.int .i64 0)) := Lib.hid (by rw [hVQ]; rfl)
  have HC_VQ_36 : Hid (VQ[36]? = some (.bool false)) := Lib.hid (by rw [hVQ]; rfl)
  have HI_VQ : Hid ((Try.prog.info? 27).map (·.size) = some (VQ).length) := Lib.hid (by rw [hVQ]; exact Try.info6 _ _)
  have HO_VQ : Hid ((VQ).toArray.all (·.oneCell') = true) := Lib.hid (by rw [hVQ]; exact vals_one _ _ rfl)
  have HL_VQ : Hid ((VQ).length = 42) := Lib.hid (by rw [hVQ]; exact vals_len _ _)
  clear hVQ hh
  have HI_VP : Hid ((Try.prog.info? 35).map (·.size) = some (p.vals).length) := Lib.hid (P4.Try.infoIp _)
  have HO_VP : Hid ((p.vals).toArray.all (·.oneCell') = true) := Lib.hid (P4.vals_one _)
  have HL_VP : Hid ((p.vals).length = 17) := Lib.hid rfl
  generalize p.vals = VP at *
  have HI_VF : Hid ((Try.prog.info? 23).map (·.size) = some (bytV F).length) := Lib.hid (Try.infoV6 _ hF)
  have HO_VF : Hid ((bytV F).toArray.all (·.oneCell') = true) := Lib.hid (by rw [List.all_toArray, List.all_eq_true]; exact bytV_one _)
  have HL_VF : Hid ((bytV F).length = 16) := Lib.hid (by rw [bytV_len]; exact hF)
  have HI_VT : Hid ((Try.prog.info? 23).map (·.size) = some (bytV T).length) := Lib.hid (Try.infoV6 _ hT)
  have HO_VT : Hid ((bytV T).toArray.all (·.oneCell') = true) := Lib.hid (by rw [List.all_toArray, List.all_eq_true]; exact bytV_one _)
  have HL_VT : Hid ((bytV T).length = 16) := Lib.hid (by rw [bytV_len]; exact hT)
  have HK1 : Hid (Kp w w.heap.size [(w.heap.size + 1, 23, bytV T), (w.heap.size, 23, bytV F)] ((w.alloc (.cells (bytV F).toArray 23)).alloc (.cells (bytV T).toArray 23))) := Lib.hid (by
    have h := (Kp.start w).new 23 (bytV F)
    have e1 : (w.alloc (.cells (bytV F).toArray 23)).heap.size = w.heap.size + 1 := by simp
    have h2 := h.new 23 (bytV T)
    rwa [e1] at h2)
  generalize bytV F = VF at *
  generalize bytV T = VT at *
  generalize hw1 : (w.alloc (.cells VF.toArray 23)).alloc (.cells VT.toArray 23) = w1 at *
  go_enter Try.func5, Try.ntmps5
  go_upto_region 1 with (fail)
  clear hw1
  go_wp2_with (fail)
  refine (awake_true _).mono ?_
  rintro e w2 ⟨rfl, bb⟩
  have HK2 := Lib.hid (HK1.out.below bb (Nat.le_refl _))
  clear bb HK1
  go_wp2_with (fail)
  refine (CP.out _).mono ?_
  rintro e w3 ⟨rfl, bb⟩
  have HK3 := Lib.hid (HK2.out.below bb (Nat.le_refl _))
  clear bb HK2
  have ht := (bk_new w3 35 ([.int .i64 0, .int .i64 0, .int .i64 0, .int .i64 0, .int .i64 0, .bool false, .bool false, .int .u8 0, .int .u8 0, .int .u8 0, .int .u8 0, .int .u8 0, .int .u8 0, .int .u8 0, .int .u8 0, .string ⟨#[]⟩, .string ⟨#[]⟩] : List Value).toArray).there VP.toArray.size (by have := HL_VP.out; simp; omega)
  go_upto_region 6 with (((with_reducible (change wpList _ _ _ _ _ _)); ((refine wpList_store_mid rfl 35 _ _ rfl (w3.heap.size) 0 VP.toArray rfl rfl ht (by simpa using HI_VP.out) HO_VP.out ?_))))
  have HK4 := Lib.hid (HK3.out.put 35 ([.int .i64 0, .int .i64 0, .int .i64 0, .int .i64 0, .int .i64 0, .bool false, .bool false, .int .u8 0, .int .u8 0, .int .u8 0, .int .u8 0, .int .u8 0, .int .u8 0, .int .u8 0, .int .u8 0, .string ⟨#[]⟩, .string ⟨#[]⟩] : List Value).toArray VP (by have := HL_VP.out; simp; omega))
  clear ht HK3
  generalize (w3.alloc (.cells ([.int .i64 0, .int .i64 0, .int .i64 0, .int .i64 0, .int .i64 0, .bool false, .bool false, .int .u8 0, .int .u8 0, .int .u8 0, .int .u8 0, .int .u8 0, .int .u8 0, .int .u8 0, .int .u8 0, .string ⟨#[]⟩, .string ⟨#[]⟩] : List Value).toArray 35)).setCells w3.heap.size 0 VP = w4 at *
  generalize w3.heap.size = g7 at *
  have hr0 := HK4.out.hd.range
  have hr1 := HK4.out.tl.tl.hd.range
  have hr2 := HK4.out.tl.hd.range
  go_wp2_with (((with_reducible (change wpList _ _ _ _ _ _)); (first | (refine wpList_load_mid rfl 35 _ rfl (g7) 0 rfl (VP) _ hr0 Try.underlying35 rfl HI_VP.out ?_) | (refine wpList_load_mid rfl 23 _ rfl (w.heap.size) 0 rfl (VF) _ hr1 Try.underlying23 rfl HI_VF.out ?_) | (refine wpList_load_mid rfl 23 _ rfl (w.heap.size + 1) 0 rfl (VT) _ hr2 Try.underlying23 rfl HI_VT.out ?_))))
  clear hr0 hr1 hr2
  refine (CH.out _).mono ?_
  rintro e w5 ⟨f, rfl, bb⟩
  have HK5 := Lib.hid (HK4.out.below bb (Nat.le_refl _))
  clear bb HK4
  have ht := (bk_new w5 27 ([.int .i64 0, .int .i64 0, .int .i64 0, .int .u8 0, .int .u8 0, .int .u8 0, .int .u8 0, .int .u8 0, .int .u8 0, .int .u8 0, .int .u8 0, .int .u8 0, .int .u8 0, .int .u8 0, .int .u8 0, .int .u8 0, .int .u8 0, .int .u8 0, .int .u8 0, .int .u8 0, .int .u8 0, .int .u8 0, .int .u8 0, .int .u8 0, .int .u8 0, .int .u8 0, .int .u8 0, .int .u8 0, .int .u8 0, .int .u8 0, .int .u8 0, .int .u8 0, .int .u8 0, .int .u8 0, .int .u8 0, .slice none 0 0, .bool false, .int .u32 0, .int .i64 0, .bool false, .int .i64 0, .string ⟨#[]⟩] : List Value).toArray).there VQ.toArray.size (by have := HL_VQ.out; simp; omega)
  go_upto_region 9 with (((with_reducible (change wpList _ _ _ _ _ _)); ((refine wpList_store_mid rfl 27 _ _ rfl (w5.heap.size) 0 VQ.toArray rfl rfl ht (by simpa using HI_VQ.out) HO_VQ.out ?_))))
  have HK6 := Lib.hid (HK5.out.put 27 ([.int .i64 0, .int .i64 0, .int .i64 0, .int .u8 0, .int .u8 0, .int .u8 0, .int .u8 0, .int .u8 0, .int .u8 0, .int .u8 0, .int .u8 0, .int .u8 0, .int .u8 0, .int .u8 0, .int .u8 0, .int .u8 0, .int .u8 0, .int .u8 0, .int .u8 0, .int .u8 0, .int .u8 0, .int .u8 0, .int .u8 0, .int .u8 0, .int .u8 0, .int .u8 0, .int .u8 0, .int .u8 0, .int .u8 0, .int .u8 0, .int .u8 0, .int .u8 0, .int .u8 0, .int .u8 0, .int .u8 0, .slice none 0 0, .bool false, .int .u32 0, .int .i64 0, .bool false, .int .i64 0, .string ⟨#[]⟩] : List Value).toArray VQ (by have := HL_VQ.out; simp; omega))
  clear ht HK5
  generalize (w5.alloc (.cells ([.int .i64 0, .int .i64 0, .int .i64 0, .int .u8 0, .int .u8 0, .int .u8 0, .int .u8 0, .int .u8 0, .int .u8 0, .int .u8 0, .int .u8 0, .int .u8 0, .int .u8 0, .int .u8 0, .int .u8 0, .int .u8 0, .int .u8 0, .int .u8 0, .int .u8 0, .int .u8 0, .int .u8 0, .int .u8 0, .int .u8 0, .int .u8 0, .int .u8 0, .int .u8 0, .int .u8 0, .int .u8 0, .int .u8 0, .int .u8 0, .int .u8 0, .int .u8 0, .int .u8 0, .int .u8 0, .int .u8 0, .slice none 0 0, .bool false, .int .u32 0, .int .i64 0, .bool false, .int .i64 0, .string ⟨#[]⟩] : List Value).toArray 27)).setCells w5.heap.size 0 VQ = w6 at *
  generalize w5.heap.size = g9 at *
  have d41 : w6.cell? ⟨g9, 41, none⟩ = some (.string ⟨#[]⟩) := HK6.out.hd.at HC_VQ_41.out
  have d2 : w6.cell? ⟨g9, 2, none⟩ = some (.int .i64 0) := HK6.out.hd.at HC_VQ_2.out
  have d36 : w6.cell? ⟨g9, 36, none⟩ = some (.bool false) := HK6.out.hd.at HC_VQ_36.out
  go_wp2_with (fail)
  go_ret
  exact ⟨rfl, HK6.out.2.1⟩
end Go.Proofs.Ytdljjcnihajchaa
