/-
  Proved here: the law Head64Again answers true.
  Conditions: none.
-/
import Derived.Test.YtkihhmnlefekoaaAwk64
import Derived.Test.YtkihhmnlefekoaaPl46
import Derived.Test.YtkihhmnlefekoaaFits64
namespace Go.Proofs.Ytkihhmnlefekoaa
open Go.RowKit

theorem pkt_ranges (p : P4.Pkt) {W : World} {b : Nat} {TT : TypeId} (h : Bk W b TT p.vals.toArray) : W.rangeAt b 7 [.int .u8 p.a0, .int .u8 p.a1, .int .u8 p.a2, .int .u8 p.a3] ∧ W.rangeAt b 11 [.int .u8 p.b0, .int .u8 p.b1, .int .u8 p.b2, .int .u8 p.b3] := by
  constructor
  · intro j x hj
    rcases j with _ | _ | _ | _ | j
    · obtain rfl := Option.some.inj hj; exact h.at rfl
    · obtain rfl := Option.some.inj hj; exact h.at rfl
    · obtain rfl := Option.some.inj hj; exact h.at rfl
    · obtain rfl := Option.some.inj hj; exact h.at rfl
    · simp at hj
  · intro j x hj
    rcases j with _ | _ | _ | _ | j
    · obtain rfl := Option.some.inj hj; exact h.at rfl
    · obtain rfl := Option.some.inj hj; exact h.at rfl
    · obtain rfl := Option.some.inj hj; exact h.at rfl
    · obtain rfl := Option.some.inj hj; exact h.at rfl
    · simp at hj
theorem back_code {p : P4.Pkt} {F T : List UInt8} {hF : F.length = 16} {hT : T.length = 16} {id : Int} (hc : hcode p = 0) (h3 : 3 ≤ p.ttl) (hi : 0 ≤ id ∧ id ≤ 65535) : hcode64 (h46 p F T hF hT) id = (if 65535 < p.pl ∨ 65535 < p.pl + 20 + (p.data.size : Int) then 3 else 0) := by
  obtain ⟨t0, t1, s0, s1, hp, _⟩ := hcode_ok hc
  have e : hcode64 (h46 p F T hF hT) id = (if p.ttl - 1 < 2 ∨ 255 < p.ttl - 1 ∨ p.tos < 0 ∨ 255 < p.tos ∨ id < 0 ∨ 65535 < id then 13 else if prOk64 (pr46 p.proto) = false ∨ rtd [] = true then 10 else if 65535 < p.pl ∨ 65535 < p.pl + 20 + (p.data.size : Int) then 3 else 0) := rfl
  rw [e, if_neg (by omega), if_neg (by rw [(protos_back hp).1]; decide)]
theorem back_low {p : P4.Pkt} {F T : List UInt8} {hF : F.length = 16} {hT : T.length = 16} {id : Int} (h3 : p.ttl < 3) : hcode64 (h46 p F T hF hT) id = 13 := by
  unfold hcode64
  rw [if_pos (.inl (show p.ttl - 1 < 2 by omega))]
theorem back_piece {p : P4.Pkt} {F T : List UInt8} {hF : F.length = 16} {hT : T.length = 16} {id : Int} (hp : prOk p.proto = true) (hi : 0 ≤ p.id ∧ p.id ≤ 65535) (hm : (p.more || p.pl != 0) = true) : h64 (h46 p F T hF hT) p.a0 p.a1 p.a2 p.a3 p.b0 p.b1 p.b2 p.b3 id = ⟨p.tos, p.id, p.ttl - 2, p.proto, p.pl, false, p.more, p.a0, p.a1, p.a2, p.a3, p.b0, p.b1, p.b2, p.b3, ⟨#[]⟩, p.data⟩ := by
  have e : h64 (h46 p F T hF hT) p.a0 p.a1 p.a2 p.a3 p.b0 p.b1 p.b2 p.b3 id = ⟨p.tos, if (p.more || p.pl != 0) = true then (if (p.more || p.pl != 0) = true then IntKind.u32.wrap p.id else 0) % 65536 else if p.data.size ≤ 1240 then id else 0, p.ttl - 1 - 1, pr64 (pr46 p.proto), if (p.more || p.pl != 0) = true then p.pl else 0, !(p.more || p.pl != 0) && decide (1240 < p.data.size), (p.more || p.pl != 0) && p.more, p.a0, p.a1, p.a2, p.a3, p.b0, p.b1, p.b2, p.b3, ⟨#[]⟩, p.data⟩ := rfl
  rw [e, hm, (protos_back hp).2, if_pos rfl, if_pos rfl, if_pos rfl, IntKind.wrap_u32, show p.id % 4294967296 % 65536 = p.id by omega, show p.ttl - 1 - 1 = p.ttl - 2 by omega]
  rfl
theorem back_whole {p : P4.Pkt} {F T : List UInt8} {hF : F.length = 16} {hT : T.length = 16} {id : Int} (hp : prOk p.proto = true) (hm : p.more = false) (hl : p.pl = 0) : h64 (h46 p F T hF hT) p.a0 p.a1 p.a2 p.a3 p.b0 p.b1 p.b2 p.b3 id = ⟨p.tos, if p.data.size ≤ 1240 then id else 0, p.ttl - 2, p.proto, p.pl, decide (1240 < p.data.size), p.more, p.a0, p.a1, p.a2, p.a3, p.b0, p.b1, p.b2, p.b3, ⟨#[]⟩, p.data⟩ := by
  rw [h46_whole hm hl]
  have e : h64 (⟨p.tos, 0, p.ttl - 1, F, T, [], false, 0, 0, false, pr46 p.proto, p.data, hF, hT⟩ : Pk6) p.a0 p.a1 p.a2 p.a3 p.b0 p.b1 p.b2 p.b3 id = ⟨p.tos, if p.data.size ≤ 1240 then id else 0, p.ttl - 1 - 1, pr64 (pr46 p.proto), 0, decide (1240 < p.data.size), false, p.a0, p.a1, p.a2, p.a3, p.b0, p.b1, p.b2, p.b3, ⟨#[]⟩, p.data⟩ := rfl
  rw [e, (protos_back hp).2, show p.ttl - 1 - 1 = p.ttl - 2 by omega, hm, hl]
set_option maxRecDepth 100000 in
set_option maxHeartbeats 4000000 in
theorem again64_out0 (p : P4.Pkt) (F T : List UInt8) (hF : F.length = 16) (hT : T.length = 16) (id : Int) (w : World) (n0 : ((70000 : Int) < (p.data.size : Int))) :
    Calls Try.prog 6 #[.agg p.vals.toArray, .agg (bytV F).toArray, .agg (bytV T).toArray, .int .u16 id] w (fun e w' => e = .returned (.bool true) ∧ Below w.heap.size w w') := by
  have HI_VP : Hid ((Try.prog.info? 25).map (·.size) = some (p.vals).length) := Lib.hid (P4.Try.infoIp _)
  have HO_VP : Hid ((p.vals).toArray.all (·.oneCell') = true) := Lib.hid (P4.vals_one _)
  have HL_VP : Hid ((p.vals).length = 17) := Lib.hid rfl
  have HI_VF : Hid ((Try.prog.info? 32).map (·.size) = some (bytV F).length) := Lib.hid (Try.infoV6 _ hF)
  have HO_VF : Hid ((bytV F).toArray.all (·.oneCell') = true) := Lib.hid (by rw [List.all_toArray, List.all_eq_true]; exact bytV_one _)
  have HL_VF : Hid ((bytV F).length = 16) := Lib.hid (by rw [bytV_len]; exact hF)
  have HI_VT : Hid ((Try.prog.info? 32).map (·.size) = some (bytV T).length) := Lib.hid (Try.infoV6 _ hT)
  have HO_VT : Hid ((bytV T).toArray.all (·.oneCell') = true) := Lib.hid (by rw [List.all_toArray, List.all_eq_true]; exact bytV_one _)
  have HL_VT : Hid ((bytV T).length = 16) := Lib.hid (by rw [bytV_len]; exact hT)
  have HC_VP_0 : Hid (p.vals[0]? = some (.int .i64 p.tos)) := Lib.hid rfl
  have HC_VP_1 : Hid (p.vals[1]? = some (.int .i64 p.id)) := Lib.hid rfl
  have HC_VP_2 : Hid (p.vals[2]? = some (.int .i64 p.ttl)) := Lib.hid rfl
  have HC_VP_3 : Hid (p.vals[3]? = some (.int .i64 p.proto)) := Lib.hid rfl
  have HC_VP_4 : Hid (p.vals[4]? = some (.int .i64 p.pl)) := Lib.hid rfl
  have HC_VP_5 : Hid (p.vals[5]? = some (.bool p.df)) := Lib.hid rfl
  have HC_VP_6 : Hid (p.vals[6]? = some (.bool p.more)) := Lib.hid rfl
  have HC_VP_15 : Hid (p.vals[15]? = some (.string p.opts)) := Lib.hid rfl
  have HC_VP_16 : Hid (p.vals[16]? = some (.string p.data)) := Lib.hid rfl
  have HK1 : Hid (Kp w w.heap.size [(w.heap.size + 1 + 1, 32, bytV T), (w.heap.size + 1, 32, bytV F), (w.heap.size, 25, p.vals)] (((w.alloc (.cells p.vals.toArray 25)).alloc (.cells (bytV F).toArray 32)).alloc (.cells (bytV T).toArray 32))) := Lib.hid (by
    have h := ((Kp.start w).new 25 p.vals).new 32 (bytV F)
    have e1 : (w.alloc (.cells p.vals.toArray 25)).heap.size = w.heap.size + 1 := by simp
    have e2 : ((w.alloc (.cells p.vals.toArray 25)).alloc (.cells (bytV F).toArray 32)).heap.size = w.heap.size + 1 + 1 := by simp
    rw [e1] at h
    have h2 := h.new 32 (bytV T)
    rwa [e2] at h2)
  generalize p.vals = VP at *
  generalize bytV F = VF at *
  generalize bytV T = VT at *
  generalize hw1 : ((w.alloc (.cells VP.toArray 25)).alloc (.cells VF.toArray 32)).alloc (.cells VT.toArray 32) = w1 at *
  go_enter Try.func6, Try.ntmps6
  go_upto_region 1 with (fail)
  clear hw1
  go_wp2_with (fail)
  refine (awake64_true _).mono ?_
  rintro e w2 ⟨rfl, bb⟩
  have HK2 := Lib.hid (HK1.out.below bb (Nat.le_refl _))
  clear bb HK1
  have c16 : w2.cell? ⟨w.heap.size, 16, none⟩ = some (.string p.data) := HK2.out.tl.tl.hd.at HC_VP_16.out
  go_wp2_with (fail)
  go_ret
  exact ⟨rfl, HK2.out.2.1⟩
set_option maxRecDepth 100000 in
set_option maxHeartbeats 4000000 in
theorem again64_out1 (p : P4.Pkt) (F T : List UInt8) (hF : F.length = 16) (hT : T.length = 16) (id : Int) (w : World) (n0 : ¬ ((70000 : Int) < (p.data.size : Int))) (n1 : ((1000 : Int) < (p.opts.size : Int))) :
    Calls Try.prog 6 #[.agg p.vals.toArray, .agg (bytV F).toArray, .agg (bytV T).toArray, .int .u16 id] w (fun e w' => e = .returned (.bool true) ∧ Below w.heap.size w w') := by
  have HI_VP : Hid ((Try.prog.info? 25).map (·.size) = some (p.vals).length) := Lib.hid (P4.Try.infoIp _)
  have HO_VP : Hid ((p.vals).toArray.all (·.oneCell') = true) := Lib.hid (P4.vals_one _)
  have HL_VP : Hid ((p.vals).length = 17) := Lib.hid rfl
  have HI_VF : Hid ((Try.prog.info? 32).map (·.size) = some (bytV F).length) := Lib.hid (Try.infoV6 _ hF)
  have HO_VF : Hid ((bytV F).toArray.all (·.oneCell') = true) := Lib.hid (by rw [List.all_toArray, List.all_eq_true]; exact bytV_one _)
  have HL_VF : Hid ((bytV F).length = 16) := Lib.hid (by rw [bytV_len]; exact hF)
  have HI_VT : Hid ((Try.prog.info? 32).map (·.size) = some (bytV T).length) := Lib.hid (Try.infoV6 _ hT)
  have HO_VT : Hid ((bytV T).toArray.all (·.oneCell') = true) := Lib.hid (by rw [List.all_toArray, List.all_eq_true]; exact bytV_one _)
  have HL_VT : Hid ((bytV T).length = 16) := Lib.hid (by rw [bytV_len]; exact hT)
  have HC_VP_0 : Hid (p.vals[0]? = some (.int .i64 p.tos)) := Lib.hid rfl
  have HC_VP_1 : Hid (p.vals[1]? = some (.int .i64 p.id)) := Lib.hid rfl
  have HC_VP_2 : Hid (p.vals[2]? = some (.int .i64 p.ttl)) := Lib.hid rfl
  have HC_VP_3 : Hid (p.vals[3]? = some (.int .i64 p.proto)) := Lib.hid rfl
  have HC_VP_4 : Hid (p.vals[4]? = some (.int .i64 p.pl)) := Lib.hid rfl
  have HC_VP_5 : Hid (p.vals[5]? = some (.bool p.df)) := Lib.hid rfl
  have HC_VP_6 : Hid (p.vals[6]? = some (.bool p.more)) := Lib.hid rfl
  have HC_VP_15 : Hid (p.vals[15]? = some (.string p.opts)) := Lib.hid rfl
  have HC_VP_16 : Hid (p.vals[16]? = some (.string p.data)) := Lib.hid rfl
  have HK1 : Hid (Kp w w.heap.size [(w.heap.size + 1 + 1, 32, bytV T), (w.heap.size + 1, 32, bytV F), (w.heap.size, 25, p.vals)] (((w.alloc (.cells p.vals.toArray 25)).alloc (.cells (bytV F).toArray 32)).alloc (.cells (bytV T).toArray 32))) := Lib.hid (by
    have h := ((Kp.start w).new 25 p.vals).new 32 (bytV F)
    have e1 : (w.alloc (.cells p.vals.toArray 25)).heap.size = w.heap.size + 1 := by simp
    have e2 : ((w.alloc (.cells p.vals.toArray 25)).alloc (.cells (bytV F).toArray 32)).heap.size = w.heap.size + 1 + 1 := by simp
    rw [e1] at h
    have h2 := h.new 32 (bytV T)
    rwa [e2] at h2)
  generalize p.vals = VP at *
  generalize bytV F = VF at *
  generalize bytV T = VT at *
  generalize hw1 : ((w.alloc (.cells VP.toArray 25)).alloc (.cells VF.toArray 32)).alloc (.cells VT.toArray 32) = w1 at *
  go_enter Try.func6, Try.ntmps6
  go_upto_region 1 with (fail)
  clear hw1
  go_wp2_with (fail)
  refine (awake64_true _).mono ?_
  rintro e w2 ⟨rfl, bb⟩
  have HK2 := Lib.hid (HK1.out.below bb (Nat.le_refl _))
  clear bb HK1
  have c16 : w2.cell? ⟨w.heap.size, 16, none⟩ = some (.string p.data) := HK2.out.tl.tl.hd.at HC_VP_16.out
  have c15 : w2.cell? ⟨w.heap.size, 15, none⟩ = some (.string p.opts) := HK2.out.tl.tl.hd.at HC_VP_15.out
  go_wp2_with (fail)
  go_ret
  exact ⟨rfl, HK2.out.2.1⟩
set_option maxRecDepth 100000 in
set_option maxHeartbeats 4000000 in
theorem again64_out2 (p : P4.Pkt) (F T : List UInt8) (hF : F.length = 16) (hT : T.length = 16) (id : Int) (w : World) (n0 : ¬ ((70000 : Int) < (p.data.size : Int))) (n1 : ¬ ((1000 : Int) < (p.opts.size : Int))) (n2 : (p.pl < 0)) :
    Calls Try.prog 6 #[.agg p.vals.toArray, .agg (bytV F).toArray, .agg (bytV T).toArray, .int .u16 id] w (fun e w' => e = .returned (.bool true) ∧ Below w.heap.size w w') := by
  have HI_VP : Hid ((Try.prog.info? 25).map (·.size) = some (p.vals).length) := Lib.hid (P4.Try.infoIp _)
  have HO_VP : Hid ((p.vals).toArray.all (·.oneCell') = true) := Lib.hid (P4.vals_one _)
  have HL_VP : Hid ((p.vals).length = 17) := Lib.hid rfl
  have HI_VF : Hid ((Try.prog.info? 32).map (·.size) = some (bytV F).length) := Lib.hid (Try.infoV6 _ hF)
  have HO_VF : Hid ((bytV F).toArray.all (·.oneCell') = true) := Lib.hid (by rw [List.all_toArray, List.all_eq_true]; exact bytV_one _)
  have HL_VF : Hid ((bytV F).length = 16) := Lib.hid (by rw [bytV_len]; exact hF)
  have HI_VT : Hid ((Try.prog.info? 32).map (·.size) = some (bytV T).length) := Lib.hid (Try.infoV6 _ hT)
  have HO_VT : Hid ((bytV T).toArray.all (·.oneCell') = true) := Lib.hid (by rw [List.all_toArray, List.all_eq_true]; exact bytV_one _)
  have HL_VT : Hid ((bytV T).length = 16) := Lib.hid (by rw [bytV_len]; exact hT)
  have HC_VP_0 : Hid (p.vals[0]? = some (.int .i64 p.tos)) := Lib.hid rfl
  have HC_VP_1 : Hid (p.vals[1]? = some (.int .i64 p.id)) := Lib.hid rfl
  have HC_VP_2 : Hid (p.vals[2]? = some (.int .i64 p.ttl)) := Lib.hid rfl
  have HC_VP_3 : Hid (p.vals[3]? = some (.int .i64 p.proto)) := Lib.hid rfl
  have HC_VP_4 : Hid (p.vals[4]? = some (.int .i64 p.pl)) := Lib.hid rfl
  have HC_VP_5 : Hid (p.vals[5]? = some (.bool p.df)) := Lib.hid rfl
  have HC_VP_6 : Hid (p.vals[6]? = some (.bool p.more)) := Lib.hid rfl
  have HC_VP_15 : Hid (p.vals[15]? = some (.string p.opts)) := Lib.hid rfl
  have HC_VP_16 : Hid (p.vals[16]? = some (.string p.data)) := Lib.hid rfl
  have HK1 : Hid (Kp w w.heap.size [(w.heap.size + 1 + 1, 32, bytV T), (w.heap.size + 1, 32, bytV F), (w.heap.size, 25, p.vals)] (((w.alloc (.cells p.vals.toArray 25)).alloc (.cells (bytV F).toArray 32)).alloc (.cells (bytV T).toArray 32))) := Lib.hid (by
    have h := ((Kp.start w).new 25 p.vals).new 32 (bytV F)
    have e1 : (w.alloc (.cells p.vals.toArray 25)).heap.size = w.heap.size + 1 := by simp
    have e2 : ((w.alloc (.cells p.vals.toArray 25)).alloc (.cells (bytV F).toArray 32)).heap.size = w.heap.size + 1 + 1 := by simp
    rw [e1] at h
    have h2 := h.new 32 (bytV T)
    rwa [e2] at h2)
  generalize p.vals = VP at *
  generalize bytV F = VF at *
  generalize bytV T = VT at *
  generalize hw1 : ((w.alloc (.cells VP.toArray 25)).alloc (.cells VF.toArray 32)).alloc (.cells VT.toArray 32) = w1 at *
  go_enter Try.func6, Try.ntmps6
  go_upto_region 1 with (fail)
  clear hw1
  go_wp2_with (fail)
  refine (awake64_true _).mono ?_
  rintro e w2 ⟨rfl, bb⟩
  have HK2 := Lib.hid (HK1.out.below bb (Nat.le_refl _))
  clear bb HK1
  have c16 : w2.cell? ⟨w.heap.size, 16, none⟩ = some (.string p.data) := HK2.out.tl.tl.hd.at HC_VP_16.out
  have c15 : w2.cell? ⟨w.heap.size, 15, none⟩ = some (.string p.opts) := HK2.out.tl.tl.hd.at HC_VP_15.out
  have c4 : w2.cell? ⟨w.heap.size, 4, none⟩ = some (.int .i64 p.pl) := HK2.out.tl.tl.hd.at HC_VP_4.out
  go_wp2_with (fail)
  go_ret
  exact ⟨rfl, HK2.out.2.1⟩
set_option maxRecDepth 100000 in
set_option maxHeartbeats 4000000 in
theorem again64_out3 (p : P4.Pkt) (F T : List UInt8) (hF : F.length = 16) (hT : T.length = 16) (id : Int) (w : World) (n0 : ¬ ((70000 : Int) < (p.data.size : Int))) (n1 : ¬ ((1000 : Int) < (p.opts.size : Int))) (n2 : ¬ (p.pl < 0)) (n3 : (p.id < 0)) :
    Calls Try.prog 6 #[.agg p.vals.toArray, .agg (bytV F).toArray, .agg (bytV T).toArray, .int .u16 id] w (fun e w' => e = .returned (.bool true) ∧ Below w.heap.size w w') := by
  have HI_VP : Hid ((Try.prog.info? 25).map (·.size) = some (p.vals).length) := Lib.hid (P4.Try.infoIp _)
  have HO_VP : Hid ((p.vals).toArray.all (·.oneCell') = true) := Lib.hid (P4.vals_one _)
  have HL_VP : Hid ((p.vals).length = 17) := Lib.hid rfl
  have HI_VF : Hid ((Try.prog.info? 32).map (·.size) = some (bytV F).length) := Lib.hid (Try.infoV6 _ hF)
  have HO_VF : Hid ((bytV F).toArray.all (·.oneCell') = true) := Lib.hid (by rw [List.all_toArray, List.all_eq_true]; exact bytV_one _)
  have HL_VF : Hid ((bytV F).length = 16) := Lib.hid (by rw [bytV_len]; exact hF)
  have HI_VT : Hid ((Try.prog.info? 32).map (·.size) = some (bytV T).length) := Lib.hid (Try.infoV6 _ hT)
  have HO_VT : Hid ((bytV T).toArray.all (·.oneCell') = true) := Lib.hid (by rw [List.all_toArray, List.all_eq_true]; exact bytV_one _)
  have HL_VT : Hid ((bytV T).length = 16) := Lib.hid (by rw [bytV_len]; exact hT)
  have HC_VP_0 : Hid (p.vals[0]? = some (.int .i64 p.tos)) := Lib.hid rfl
  have HC_VP_1 : Hid (p.vals[1]? = some (.int .i64 p.id)) := Lib.hid rfl
  have HC_VP_2 : Hid (p.vals[2]? = some (.int .i64 p.ttl)) := Lib.hid rfl
  have HC_VP_3 : Hid (p.vals[3]? = some (.int .i64 p.proto)) := Lib.hid rfl
  have HC_VP_4 : Hid (p.vals[4]? = some (.int .i64 p.pl)) := Lib.hid rfl
  have HC_VP_5 : Hid (p.vals[5]? = some (.bool p.df)) := Lib.hid rfl
  have HC_VP_6 : Hid (p.vals[6]? = some (.bool p.more)) := Lib.hid rfl
  have HC_VP_15 : Hid (p.vals[15]? = some (.string p.opts)) := Lib.hid rfl
  have HC_VP_16 : Hid (p.vals[16]? = some (.string p.data)) := Lib.hid rfl
  have HK1 : Hid (Kp w w.heap.size [(w.heap.size + 1 + 1, 32, bytV T), (w.heap.size + 1, 32, bytV F), (w.heap.size, 25, p.vals)] (((w.alloc (.cells p.vals.toArray 25)).alloc (.cells (bytV F).toArray 32)).alloc (.cells (bytV T).toArray 32))) := Lib.hid (by
    have h := ((Kp.start w).new 25 p.vals).new 32 (bytV F)
    have e1 : (w.alloc (.cells p.vals.toArray 25)).heap.size = w.heap.size + 1 := by simp
    have e2 : ((w.alloc (.cells p.vals.toArray 25)).alloc (.cells (bytV F).toArray 32)).heap.size = w.heap.size + 1 + 1 := by simp
    rw [e1] at h
    have h2 := h.new 32 (bytV T)
    rwa [e2] at h2)
  generalize p.vals = VP at *
  generalize bytV F = VF at *
  generalize bytV T = VT at *
  generalize hw1 : ((w.alloc (.cells VP.toArray 25)).alloc (.cells VF.toArray 32)).alloc (.cells VT.toArray 32) = w1 at *
  go_enter Try.func6, Try.ntmps6
  go_upto_region 1 with (fail)
  clear hw1
  go_wp2_with (fail)
  refine (awake64_true _).mono ?_
  rintro e w2 ⟨rfl, bb⟩
  have HK2 := Lib.hid (HK1.out.below bb (Nat.le_refl _))
  clear bb HK1
  have c16 : w2.cell? ⟨w.heap.size, 16, none⟩ = some (.string p.data) := HK2.out.tl.tl.hd.at HC_VP_16.out
  have c15 : w2.cell? ⟨w.heap.size, 15, none⟩ = some (.string p.opts) := HK2.out.tl.tl.hd.at HC_VP_15.out
  have c4 : w2.cell? ⟨w.heap.size, 4, none⟩ = some (.int .i64 p.pl) := HK2.out.tl.tl.hd.at HC_VP_4.out
  have c1 : w2.cell? ⟨w.heap.size, 1, none⟩ = some (.int .i64 p.id) := HK2.out.tl.tl.hd.at HC_VP_1.out
  go_wp2_with (fail)
  go_ret
  exact ⟨rfl, HK2.out.2.1⟩
set_option maxRecDepth 100000 in
set_option maxHeartbeats 4000000 in
theorem again64_out4 (p : P4.Pkt) (F T : List UInt8) (hF : F.length = 16) (hT : T.length = 16) (id : Int) (w : World) (n0 : ¬ ((70000 : Int) < (p.data.size : Int))) (n1 : ¬ ((1000 : Int) < (p.opts.size : Int))) (n2 : ¬ (p.pl < 0)) (n3 : ¬ (p.id < 0)) (n4 : (65535 < p.id)) :
    Calls Try.prog 6 #[.agg p.vals.toArray, .agg (bytV F).toArray, .agg (bytV T).toArray, .int .u16 id] w (fun e w' => e = .returned (.bool true) ∧ Below w.heap.size w w') := by
  have HI_VP : Hid ((Try.prog.info? 25).map (·.size) = some (p.vals).length) := Lib.hid (P4.Try.infoIp _)
  have HO_VP : Hid ((p.vals).toArray.all (·.oneCell') = true) := Lib.hid (P4.vals_one _)
  have HL_VP : Hid ((p.vals).length = 17) := Lib.hid rfl
  have HI_VF : Hid ((Try.prog.info? 32).map (·.size) = some (bytV F).length) := Lib.hid (Try.infoV6 _ hF)
  have HO_VF : Hid ((bytV F).toArray.all (·.oneCell') = true) := Lib.hid (by rw [List.all_toArray, List.all_eq_true]; exact bytV_one _)
  have HL_VF : Hid ((bytV F).length = 16) := Lib.hid (by rw [bytV_len]; exact hF)
  have HI_VT : Hid ((Try.prog.info? 32).map (·.size) = some (bytV T).length) := Lib.hid (Try.infoV6 _ hT)
  have HO_VT : Hid ((bytV T).toArray.all (·.oneCell') = true) := Lib.hid (by rw [List.all_toArray, List.all_eq_true]; exact bytV_one _)
  have HL_VT : Hid ((bytV T).length = 16) := Lib.hid (by rw [bytV_len]; exact hT)
  have HC_VP_0 : Hid (p.vals[0]? = some (.int .i64 p.tos)) := Lib.hid rfl
  have HC_VP_1 : Hid (p.vals[1]? = some (.int .i64 p.id)) := Lib.hid rfl
  have HC_VP_2 : Hid (p.vals[2]? = some (.int .i64 p.ttl)) := Lib.hid rfl
  have HC_VP_3 : Hid (p.vals[3]? = some (.int .i64 p.proto)) := Lib.hid rfl
  have HC_VP_4 : Hid (p.vals[4]? = some (.int .i64 p.pl)) := Lib.hid rfl
  have HC_VP_5 : Hid (p.vals[5]? = some (.bool p.df)) := Lib.hid rfl
  have HC_VP_6 : Hid (p.vals[6]? = some (.bool p.more)) := Lib.hid rfl
  have HC_VP_15 : Hid (p.vals[15]? = some (.string p.opts)) := Lib.hid rfl
  have HC_VP_16 : Hid (p.vals[16]? = some (.string p.data)) := Lib.hid rfl
  have HK1 : Hid (Kp w w.heap.size [(w.heap.size + 1 + 1, 32, bytV T), (w.heap.size + 1, 32, bytV F), (w.heap.size, 25, p.vals)] (((w.alloc (.cells p.vals.toArray 25)).alloc (.cells (bytV F).toArray 32)).alloc (.cells (bytV T).toArray 32))) := Lib.hid (by
    have h := ((Kp.start w).new 25 p.vals).new 32 (bytV F)
    have e1 : (w.alloc (.cells p.vals.toArray 25)).heap.size = w.heap.size + 1 := by simp
    have e2 : ((w.alloc (.cells p.vals.toArray 25)).alloc (.cells (bytV F).toArray 32)).heap.size = w.heap.size + 1 + 1 := by simp
    rw [e1] at h
    have h2 := h.new 32 (bytV T)
    rwa [e2] at h2)
  generalize p.vals = VP at *
  generalize bytV F = VF at *
  generalize bytV T = VT at *
  generalize hw1 : ((w.alloc (.cells VP.toArray 25)).alloc (.cells VF.toArray 32)).alloc (.cells VT.toArray 32) = w1 at *
  go_enter Try.func6, Try.ntmps6
  go_upto_region 1 with (fail)
  clear hw1
  go_wp2_with (fail)
  refine (awake64_true _).mono ?_
  rintro e w2 ⟨rfl, bb⟩
  have HK2 := Lib.hid (HK1.out.below bb (Nat.le_refl _))
  clear bb HK1
  have c16 : w2.cell? ⟨w.heap.size, 16, none⟩ = some (.string p.data) := HK2.out.tl.tl.hd.at HC_VP_16.out
  have c15 : w2.cell? ⟨w.heap.size, 15, none⟩ = some (.string p.opts) := HK2.out.tl.tl.hd.at HC_VP_15.out
  have c4 : w2.cell? ⟨w.heap.size, 4, none⟩ = some (.int .i64 p.pl) := HK2.out.tl.tl.hd.at HC_VP_4.out
  have c1 : w2.cell? ⟨w.heap.size, 1, none⟩ = some (.int .i64 p.id) := HK2.out.tl.tl.hd.at HC_VP_1.out
  go_wp2_with (fail)
  go_ret
  exact ⟨rfl, HK2.out.2.1⟩
set_option maxRecDepth 100000 in
set_option maxHeartbeats 4000000 in
theorem again64_none (p : P4.Pkt) (F T : List UInt8) (hF : F.length = 16) (hT : T.length = 16) (id : Int) (w : World) (n0 : ¬ ((70000 : Int) < (p.data.size : Int))) (n1 : ¬ ((1000 : Int) < (p.opts.size : Int))) (n2 : ¬ (p.pl < 0)) (n3 : ¬ (p.id < 0)) (n4 : ¬ (65535 < p.id)) (hh : hcode p ≠ 0) :
    Calls Try.prog 6 #[.agg p.vals.toArray, .agg (bytV F).toArray, .agg (bytV T).toArray, .int .u16 id] w (fun e w' => e = .returned (.bool true) ∧ Below w.heap.size w w') := by
  obtain ⟨VX, hVX⟩ : ∃ V, V = pk0.vals (.slice none 0 0) := ⟨_, rfl⟩
  have CH : Hid (∀ W, Calls Try.prog 21 #[.agg p.vals.toArray, .agg (bytV F).toArray, .agg (bytV T).toArray] W fun e w' =>  ∃ f : Nat, e = .returned (.tuple #[.agg VX.toArray, .iface 75 (.pointer (some ⟨f, 0, none⟩))]) ∧ Below W.heap.size W w') := Lib.hid (fun W => by
    refine (head_any p F T hF hT W).mono ?_
    rintro e w' ⟨x, rfl, her, b⟩
    rcases her with ⟨h, _⟩ | ⟨_, f, rfl, _, _⟩
    · exact absurd h hh
    · exact ⟨f, by rw [hVX, hout_bad hh], b⟩)
  have HI_VX : Hid ((Try.prog.info? 35).map (·.size) = some (VX).length) := Lib.hid (by rw [hVX]; exact Try.info6 _ _)
  have HO_VX : Hid ((VX).toArray.all (·.oneCell') = true) := Lib.hid (by rw [hVX]; exact vals_one _ _ rfl)
  have HL_VX : Hid ((VX).length = 42) := Lib.hid (by rw [hVX]; exact vals_len _ _)
  clear hVX hh
  have HI_VP : Hid ((Try.prog.info? 25).map (·.size) = some (p.vals).length) := Lib.hid (P4.Try.infoIp _)
  have HO_VP : Hid ((p.vals).toArray.all (·.oneCell') = true) := Lib.hid (P4.vals_one _)
  have HL_VP : Hid ((p.vals).length = 17) := Lib.hid rfl
  have HI_VF : Hid ((Try.prog.info? 32).map (·.size) = some (bytV F).length) := Lib.hid (Try.infoV6 _ hF)
  have HO_VF : Hid ((bytV F).toArray.all (·.oneCell') = true) := Lib.hid (by rw [List.all_toArray, List.all_eq_true]; exact bytV_one _)
  have HL_VF : Hid ((bytV F).length = 16) := Lib.hid (by rw [bytV_len]; exact hF)
  have HI_VT : Hid ((Try.prog.info? 32).map (·.size) = some (bytV T).length) := Lib.hid (Try.infoV6 _ hT)
  have HO_VT : Hid ((bytV T).toArray.all (·.oneCell') = true) := Lib.hid (by rw [List.all_toArray, List.all_eq_true]; exact bytV_one _)
  have HL_VT : Hid ((bytV T).length = 16) := Lib.hid (by rw [bytV_len]; exact hT)
  have HC_VP_0 : Hid (p.vals[0]? = some (.int .i64 p.tos)) := Lib.hid rfl
  have HC_VP_1 : Hid (p.vals[1]? = some (.int .i64 p.id)) := Lib.hid rfl
  have HC_VP_2 : Hid (p.vals[2]? = some (.int .i64 p.ttl)) := Lib.hid rfl
  have HC_VP_3 : Hid (p.vals[3]? = some (.int .i64 p.proto)) := Lib.hid rfl
  have HC_VP_4 : Hid (p.vals[4]? = some (.int .i64 p.pl)) := Lib.hid rfl
  have HC_VP_5 : Hid (p.vals[5]? = some (.bool p.df)) := Lib.hid rfl
  have HC_VP_6 : Hid (p.vals[6]? = some (.bool p.more)) := Lib.hid rfl
  have HC_VP_15 : Hid (p.vals[15]? = some (.string p.opts)) := Lib.hid rfl
  have HC_VP_16 : Hid (p.vals[16]? = some (.string p.data)) := Lib.hid rfl
  have HK1 : Hid (Kp w w.heap.size [(w.heap.size + 1 + 1, 32, bytV T), (w.heap.size + 1, 32, bytV F), (w.heap.size, 25, p.vals)] (((w.alloc (.cells p.vals.toArray 25)).alloc (.cells (bytV F).toArray 32)).alloc (.cells (bytV T).toArray 32))) := Lib.hid (by
    have h := ((Kp.start w).new 25 p.vals).new 32 (bytV F)
    have e1 : (w.alloc (.cells p.vals.toArray 25)).heap.size = w.heap.size + 1 := by simp
    have e2 : ((w.alloc (.cells p.vals.toArray 25)).alloc (.cells (bytV F).toArray 32)).heap.size = w.heap.size + 1 + 1 := by simp
    rw [e1] at h
    have h2 := h.new 32 (bytV T)
    rwa [e2] at h2)
  generalize p.vals = VP at *
  generalize bytV F = VF at *
  generalize bytV T = VT at *
  generalize hw1 : ((w.alloc (.cells VP.toArray 25)).alloc (.cells VF.toArray 32)).alloc (.cells VT.toArray 32) = w1 at *
  go_enter Try.func6, Try.ntmps6
  go_upto_region 1 with (fail)
  clear hw1
  go_wp2_with (fail)
  refine (awake64_true _).mono ?_
  rintro e w2 ⟨rfl, bb⟩
  have HK2 := Lib.hid (HK1.out.below bb (Nat.le_refl _))
  clear bb HK1
  have c16 : w2.cell? ⟨w.heap.size, 16, none⟩ = some (.string p.data) := HK2.out.tl.tl.hd.at HC_VP_16.out
  have c15 : w2.cell? ⟨w.heap.size, 15, none⟩ = some (.string p.opts) := HK2.out.tl.tl.hd.at HC_VP_15.out
  have c4 : w2.cell? ⟨w.heap.size, 4, none⟩ = some (.int .i64 p.pl) := HK2.out.tl.tl.hd.at HC_VP_4.out
  have c1 : w2.cell? ⟨w.heap.size, 1, none⟩ = some (.int .i64 p.id) := HK2.out.tl.tl.hd.at HC_VP_1.out
  go_upto_region 5 with (fail)
  clear c16 c15 c4 c1
  have hr0 := HK2.out.tl.tl.hd.range
  have hr1 := HK2.out.tl.hd.range
  have hr2 := HK2.out.hd.range
  go_wp2_with (((with_reducible (change wpList _ _ _ _ _ _)); (first | (refine wpList_load_mid rfl 25 _ rfl (w.heap.size) 0 rfl (VP) _ hr0 Try.underlying25 rfl HI_VP.out ?_) | (refine wpList_load_mid rfl 32 _ rfl (w.heap.size + 1) 0 rfl (VF) _ hr1 Try.underlying32 rfl HI_VF.out ?_) | (refine wpList_load_mid rfl 32 _ rfl (w.heap.size + 1 + 1) 0 rfl (VT) _ hr2 Try.underlying32 rfl HI_VT.out ?_))))
  clear hr0 hr1 hr2
  refine (CH.out _).mono ?_
  rintro e w3 ⟨f, rfl, bb⟩
  have HK3 := Lib.hid (HK2.out.below bb (Nat.le_refl _))
  clear bb HK2
  have ht := (bk_new w3 35 ([.int .i64 0, .int .i64 0, .int .i64 0, .int .u8 0, .int .u8 0, .int .u8 0, .int .u8 0, .int .u8 0, .int .u8 0, .int .u8 0, .int .u8 0, .int .u8 0, .int .u8 0, .int .u8 0, .int .u8 0, .int .u8 0, .int .u8 0, .int .u8 0, .int .u8 0, .int .u8 0, .int .u8 0, .int .u8 0, .int .u8 0, .int .u8 0, .int .u8 0, .int .u8 0, .int .u8 0, .int .u8 0, .int .u8 0, .int .u8 0, .int .u8 0, .int .u8 0, .int .u8 0, .int .u8 0, .int .u8 0, .slice none 0 0, .bool false, .int .u32 0, .int .i64 0, .bool false, .int .i64 0, .string ⟨#[]⟩] : List Value).toArray).there VX.toArray.size (by have := HL_VX.out; simp; omega)
  go_upto_region 6 with (((with_reducible (change wpList _ _ _ _ _ _)); ((refine wpList_store_mid rfl 35 _ _ rfl (w3.heap.size) 0 VX.toArray rfl rfl ht (by simpa using HI_VX.out) HO_VX.out ?_))))
  have HK4 := Lib.hid (HK3.out.put 35 ([.int .i64 0, .int .i64 0, .int .i64 0, .int .u8 0, .int .u8 0, .int .u8 0, .int .u8 0, .int .u8 0, .int .u8 0, .int .u8 0, .int .u8 0, .int .u8 0, .int .u8 0, .int .u8 0, .int .u8 0, .int .u8 0, .int .u8 0, .int .u8 0, .int .u8 0, .int .u8 0, .int .u8 0, .int .u8 0, .int .u8 0, .int .u8 0, .int .u8 0, .int .u8 0, .int .u8 0, .int .u8 0, .int .u8 0, .int .u8 0, .int .u8 0, .int .u8 0, .int .u8 0, .int .u8 0, .int .u8 0, .slice none 0 0, .bool false, .int .u32 0, .int .i64 0, .bool false, .int .i64 0, .string ⟨#[]⟩] : List Value).toArray VX (by have := HL_VX.out; simp; omega))
  clear ht HK3
  generalize (w3.alloc (.cells ([.int .i64 0, .int .i64 0, .int .i64 0, .int .u8 0, .int .u8 0, .int .u8 0, .int .u8 0, .int .u8 0, .int .u8 0, .int .u8 0, .int .u8 0, .int .u8 0, .int .u8 0, .int .u8 0, .int .u8 0, .int .u8 0, .int .u8 0, .int .u8 0, .int .u8 0, .int .u8 0, .int .u8 0, .int .u8 0, .int .u8 0, .int .u8 0, .int .u8 0, .int .u8 0, .int .u8 0, .int .u8 0, .int .u8 0, .int .u8 0, .int .u8 0, .int .u8 0, .int .u8 0, .int .u8 0, .int .u8 0, .slice none 0 0, .bool false, .int .u32 0, .int .i64 0, .bool false, .int .i64 0, .string ⟨#[]⟩] : List Value).toArray 35)).setCells w3.heap.size 0 VX = w4 at *
  generalize w3.heap.size = g9 at *
  go_wp2_with (fail)
  go_ret
  exact ⟨rfl, HK4.out.2.1⟩
set_option maxRecDepth 100000 in
set_option maxHeartbeats 4000000 in
theorem again64_low (p : P4.Pkt) (F T : List UInt8) (hF : F.length = 16) (hT : T.length = 16) (id : Int) (w : World) (n0 : ¬ ((70000 : Int) < (p.data.size : Int))) (n1 : ¬ ((1000 : Int) < (p.opts.size : Int))) (n2 : ¬ (p.pl < 0)) (n3 : ¬ (p.id < 0)) (n4 : ¬ (65535 < p.id)) (ii : 0 ≤ id ∧ id ≤ 65535) (hh : hcode p = 0) (h3 : p.ttl < 3) :
    Calls Try.prog 6 #[.agg p.vals.toArray, .agg (bytV F).toArray, .agg (bytV T).toArray, .int .u16 id] w (fun e w' => e = .returned (.bool true) ∧ Below w.heap.size w w') := by
  obtain ⟨t0, t1, s0, s1, hpr, _⟩ := hcode_ok hh
  obtain ⟨VX, hVX⟩ : ∃ V, V = (h46 p F T hF hT).vals (.slice none 0 0) := ⟨_, rfl⟩
  have CH : Hid (∀ W, Calls Try.prog 21 #[.agg p.vals.toArray, .agg (bytV F).toArray, .agg (bytV T).toArray] W fun e w' =>  e = .returned (.tuple #[.agg VX.toArray, .nilIface]) ∧ Below W.heap.size W w') := Lib.hid (fun W => by
    refine (head_any p F T hF hT W).mono ?_
    rintro e w' ⟨x, rfl, her, b⟩
    rcases her with ⟨_, rfl⟩ | ⟨h, _⟩
    · exact ⟨by rw [hVX, hout_ok hh], b⟩
    · exact absurd hh h)
  have hc6 : hcode64 (h46 p F T hF hT) id ≠ 0 := by rw [back_low h3]; decide
  obtain ⟨VQ, hVQ⟩ : ∃ V, V = P4.pkt0.vals := ⟨_, rfl⟩
  have CG : Hid (∀ W, Calls Try.prog 9 #[.agg VX.toArray, .agg ([.int .u8 p.a0, .int .u8 p.a1, .int .u8 p.a2, .int .u8 p.a3] : List Value).toArray, .agg ([.int .u8 p.b0, .int .u8 p.b1, .int .u8 p.b2, .int .u8 p.b3] : List Value).toArray, .int .i64 id] W fun e w' =>  ∃ f : Nat, e = .returned (.tuple #[.agg VQ.toArray, .iface 75 (.pointer (some ⟨f, 0, none⟩))]) ∧ Below W.heap.size W w') := Lib.hid (fun W => by
    rw [hVX]
    refine (head64_any (h46 p F T hF hT) (.slice none 0 0) p.a0 p.a1 p.a2 p.a3 p.b0 p.b1 p.b2 p.b3 id W (nil_exs W) (Nat.zero_le _) (show p.data.size ≤ _ by omega)).mono ?_
    rintro e w' ⟨x, rfl, her, b⟩
    rcases her with ⟨h, _⟩ | ⟨_, f, rfl, _, _⟩
    · exact absurd h hc6
    · exact ⟨f, by rw [hVQ, hout64_bad hc6], b⟩)
  have HI_VQ : Hid ((Try.prog.info? 25).map (·.size) = some VQ.length) := Lib.hid (by rw [hVQ]; exact P4.Try.infoIp _)
  have HO_VQ : Hid ((VQ).toArray.all (·.oneCell') = true) := Lib.hid (by rw [hVQ]; exact P4.vals_one _)
  have HL_VQ : Hid (VQ.length = 17) := Lib.hid (by rw [hVQ]; rfl)
  clear hVQ hc6
  have HI_VX : Hid ((Try.prog.info? 35).map (·.size) = some (VX).length) := Lib.hid (by rw [hVX]; exact Try.info6 _ _)
  have HO_VX : Hid ((VX).toArray.all (·.oneCell') = true) := Lib.hid (by rw [hVX]; exact vals_one _ _ rfl)
  have HL_VX : Hid ((VX).length = 42) := Lib.hid (by rw [hVX]; exact vals_len _ _)
  have HRG : Hid (∀ (W : World) (b : Nat), Bk W b 25 p.vals.toArray → W.rangeAt b 7 ([.int .u8 p.a0, .int .u8 p.a1, .int .u8 p.a2, .int .u8 p.a3] : List Value) ∧ W.rangeAt b 11 ([.int .u8 p.b0, .int .u8 p.b1, .int .u8 p.b2, .int .u8 p.b3] : List Value)) := Lib.hid (fun W b h => pkt_ranges p h)
  have HI_VA : Hid ((Try.prog.info? 23).map (·.size) = some (([.int .u8 p.a0, .int .u8 p.a1, .int .u8 p.a2, .int .u8 p.a3] : List Value)).length) := Lib.hid (Try.infoV4c _ _ _ _)
  have HI_VB : Hid ((Try.prog.info? 23).map (·.size) = some (([.int .u8 p.b0, .int .u8 p.b1, .int .u8 p.b2, .int .u8 p.b3] : List Value)).length) := Lib.hid (Try.infoV4c _ _ _ _)
  generalize ([.int .u8 p.a0, .int .u8 p.a1, .int .u8 p.a2, .int .u8 p.a3] : List Value) = VA at *
  generalize ([.int .u8 p.b0, .int .u8 p.b1, .int .u8 p.b2, .int .u8 p.b3] : List Value) = VB at *
  clear hVX hh hpr
  have HI_VP : Hid ((Try.prog.info? 25).map (·.size) = some (p.vals).length) := Lib.hid (P4.Try.infoIp _)
  have HO_VP : Hid ((p.vals).toArray.all (·.oneCell') = true) := Lib.hid (P4.vals_one _)
  have HL_VP : Hid ((p.vals).length = 17) := Lib.hid rfl
  have HI_VF : Hid ((Try.prog.info? 32).map (·.size) = some (bytV F).length) := Lib.hid (Try.infoV6 _ hF)
  have HO_VF : Hid ((bytV F).toArray.all (·.oneCell') = true) := Lib.hid (by rw [List.all_toArray, List.all_eq_true]; exact bytV_one _)
  have HL_VF : Hid ((bytV F).length = 16) := Lib.hid (by rw [bytV_len]; exact hF)
  have HI_VT : Hid ((Try.prog.info? 32).map (·.size) = some (bytV T).length) := Lib.hid (Try.infoV6 _ hT)
  have HO_VT : Hid ((bytV T).toArray.all (·.oneCell') = true) := Lib.hid (by rw [List.all_toArray, List.all_eq_true]; exact bytV_one _)
  have HL_VT : Hid ((bytV T).length = 16) := Lib.hid (by rw [bytV_len]; exact hT)
  have HC_VP_0 : Hid (p.vals[0]? = some (.int .i64 p.tos)) := Lib.hid rfl
  have HC_VP_1 : Hid (p.vals[1]? = some (.int .i64 p.id)) := Lib.hid rfl
  have HC_VP_2 : Hid (p.vals[2]? = some (.int .i64 p.ttl)) := Lib.hid rfl
  have HC_VP_3 : Hid (p.vals[3]? = some (.int .i64 p.proto)) := Lib.hid rfl
  have HC_VP_4 : Hid (p.vals[4]? = some (.int .i64 p.pl)) := Lib.hid rfl
  have HC_VP_5 : Hid (p.vals[5]? = some (.bool p.df)) := Lib.hid rfl
  have HC_VP_6 : Hid (p.vals[6]? = some (.bool p.more)) := Lib.hid rfl
  have HC_VP_15 : Hid (p.vals[15]? = some (.string p.opts)) := Lib.hid rfl
  have HC_VP_16 : Hid (p.vals[16]? = some (.string p.data)) := Lib.hid rfl
  have HK1 : Hid (Kp w w.heap.size [(w.heap.size + 1 + 1, 32, bytV T), (w.heap.size + 1, 32, bytV F), (w.heap.size, 25, p.vals)] (((w.alloc (.cells p.vals.toArray 25)).alloc (.cells (bytV F).toArray 32)).alloc (.cells (bytV T).toArray 32))) := Lib.hid (by
    have h := ((Kp.start w).new 25 p.vals).new 32 (bytV F)
    have e1 : (w.alloc (.cells p.vals.toArray 25)).heap.size = w.heap.size + 1 := by simp
    have e2 : ((w.alloc (.cells p.vals.toArray 25)).alloc (.cells (bytV F).toArray 32)).heap.size = w.heap.size + 1 + 1 := by simp
    rw [e1] at h
    have h2 := h.new 32 (bytV T)
    rwa [e2] at h2)
  generalize p.vals = VP at *
  generalize bytV F = VF at *
  generalize bytV T = VT at *
  generalize hw1 : ((w.alloc (.cells VP.toArray 25)).alloc (.cells VF.toArray 32)).alloc (.cells VT.toArray 32) = w1 at *
  go_enter Try.func6, Try.ntmps6
  go_upto_region 1 with (fail)
  clear hw1
  go_wp2_with (fail)
  refine (awake64_true _).mono ?_
  rintro e w2 ⟨rfl, bb⟩
  have HK2 := Lib.hid (HK1.out.below bb (Nat.le_refl _))
  clear bb HK1
  have c16 : w2.cell? ⟨w.heap.size, 16, none⟩ = some (.string p.data) := HK2.out.tl.tl.hd.at HC_VP_16.out
  have c15 : w2.cell? ⟨w.heap.size, 15, none⟩ = some (.string p.opts) := HK2.out.tl.tl.hd.at HC_VP_15.out
  have c4 : w2.cell? ⟨w.heap.size, 4, none⟩ = some (.int .i64 p.pl) := HK2.out.tl.tl.hd.at HC_VP_4.out
  have c1 : w2.cell? ⟨w.heap.size, 1, none⟩ = some (.int .i64 p.id) := HK2.out.tl.tl.hd.at HC_VP_1.out
  go_upto_region 5 with (fail)
  clear c16 c15 c4 c1
  have hr0 := HK2.out.tl.tl.hd.range
  have hr1 := HK2.out.tl.hd.range
  have hr2 := HK2.out.hd.range
  go_wp2_with (((with_reducible (change wpList _ _ _ _ _ _)); (first | (refine wpList_load_mid rfl 25 _ rfl (w.heap.size) 0 rfl (VP) _ hr0 Try.underlying25 rfl HI_VP.out ?_) | (refine wpList_load_mid rfl 32 _ rfl (w.heap.size + 1) 0 rfl (VF) _ hr1 Try.underlying32 rfl HI_VF.out ?_) | (refine wpList_load_mid rfl 32 _ rfl (w.heap.size + 1 + 1) 0 rfl (VT) _ hr2 Try.underlying32 rfl HI_VT.out ?_))))
  clear hr0 hr1 hr2
  refine (CH.out _).mono ?_
  rintro e w3 ⟨rfl, bb⟩
  have HK3 := Lib.hid (HK2.out.below bb (Nat.le_refl _))
  clear bb HK2
  have ht := (bk_new w3 35 ([.int .i64 0, .int .i64 0, .int .i64 0, .int .u8 0, .int .u8 0, .int .u8 0, .int .u8 0, .int .u8 0, .int .u8 0, .int .u8 0, .int .u8 0, .int .u8 0, .int .u8 0, .int .u8 0, .int .u8 0, .int .u8 0, .int .u8 0, .int .u8 0, .int .u8 0, .int .u8 0, .int .u8 0, .int .u8 0, .int .u8 0, .int .u8 0, .int .u8 0, .int .u8 0, .int .u8 0, .int .u8 0, .int .u8 0, .int .u8 0, .int .u8 0, .int .u8 0, .int .u8 0, .int .u8 0, .int .u8 0, .slice none 0 0, .bool false, .int .u32 0, .int .i64 0, .bool false, .int .i64 0, .string ⟨#[]⟩] : List Value).toArray).there VX.toArray.size (by have := HL_VX.out; simp; omega)
  go_upto_region 6 with (((with_reducible (change wpList _ _ _ _ _ _)); ((refine wpList_store_mid rfl 35 _ _ rfl (w3.heap.size) 0 VX.toArray rfl rfl ht (by simpa using HI_VX.out) HO_VX.out ?_))))
  have HK4 := Lib.hid (HK3.out.put 35 ([.int .i64 0, .int .i64 0, .int .i64 0, .int .u8 0, .int .u8 0, .int .u8 0, .int .u8 0, .int .u8 0, .int .u8 0, .int .u8 0, .int .u8 0, .int .u8 0, .int .u8 0, .int .u8 0, .int .u8 0, .int .u8 0, .int .u8 0, .int .u8 0, .int .u8 0, .int .u8 0, .int .u8 0, .int .u8 0, .int .u8 0, .int .u8 0, .int .u8 0, .int .u8 0, .int .u8 0, .int .u8 0, .int .u8 0, .int .u8 0, .int .u8 0, .int .u8 0, .int .u8 0, .int .u8 0, .int .u8 0, .slice none 0 0, .bool false, .int .u32 0, .int .i64 0, .bool false, .int .i64 0, .string ⟨#[]⟩] : List Value).toArray VX (by have := HL_VX.out; simp; omega))
  clear ht HK3
  generalize (w3.alloc (.cells ([.int .i64 0, .int .i64 0, .int .i64 0, .int .u8 0, .int .u8 0, .int .u8 0, .int .u8 0, .int .u8 0, .int .u8 0, .int .u8 0, .int .u8 0, .int .u8 0, .int .u8 0, .int .u8 0, .int .u8 0, .int .u8 0, .int .u8 0, .int .u8 0, .int .u8 0, .int .u8 0, .int .u8 0, .int .u8 0, .int .u8 0, .int .u8 0, .int .u8 0, .int .u8 0, .int .u8 0, .int .u8 0, .int .u8 0, .int .u8 0, .int .u8 0, .int .u8 0, .int .u8 0, .int .u8 0, .int .u8 0, .slice none 0 0, .bool false, .int .u32 0, .int .i64 0, .bool false, .int .i64 0, .string ⟨#[]⟩] : List Value).toArray 35)).setCells w3.heap.size 0 VX = w4 at *
  generalize w3.heap.size = g9 at *
  go_upto_region 8 with (fail)
  have hr0 := HK4.out.hd.range
  have rA := (HRG.out _ _ HK4.out.tl.tl.tl.hd).1
  have rB := (HRG.out _ _ HK4.out.tl.tl.tl.hd).2
  have kid : IntKind.i64.wrap id = id := IntWalk.i64_in _ (by omega)
  go_wp2_with (((with_reducible (change wpList _ _ _ _ _ _)); (first | (refine wpList_load_mid rfl 35 _ rfl (g9) 0 rfl (VX) _ hr0 Try.underlying35 rfl HI_VX.out ?_) | (refine wpList_load_mid rfl 23 _ rfl (w.heap.size) 7 rfl (VA) _ rA Try.underlying23 rfl HI_VA.out ?_) | (refine wpList_load_mid rfl 23 _ rfl (w.heap.size) 11 rfl (VB) _ rB Try.underlying23 rfl HI_VB.out ?_))))
  clear hr0 rA rB
  refine (CG.out _).mono ?_
  rintro e w5 ⟨f, rfl, bb⟩
  have HK5 := Lib.hid (HK4.out.below bb (Nat.le_refl _))
  clear bb HK4
  have ht := (bk_new w5 25 ([.int .i64 0, .int .i64 0, .int .i64 0, .int .i64 0, .int .i64 0, .bool false, .bool false, .int .u8 0, .int .u8 0, .int .u8 0, .int .u8 0, .int .u8 0, .int .u8 0, .int .u8 0, .int .u8 0, .string ⟨#[]⟩, .string ⟨#[]⟩] : List Value).toArray).there VQ.toArray.size (by have := HL_VQ.out; simp; omega)
  go_upto_region 9 with (((with_reducible (change wpList _ _ _ _ _ _)); ((refine wpList_store_mid rfl 25 _ _ rfl (w5.heap.size) 0 VQ.toArray rfl rfl ht (by simpa using HI_VQ.out) HO_VQ.out ?_))))
  have HK6 := Lib.hid (HK5.out.put 25 ([.int .i64 0, .int .i64 0, .int .i64 0, .int .i64 0, .int .i64 0, .bool false, .bool false, .int .u8 0, .int .u8 0, .int .u8 0, .int .u8 0, .int .u8 0, .int .u8 0, .int .u8 0, .int .u8 0, .string ⟨#[]⟩, .string ⟨#[]⟩] : List Value).toArray VQ (by have := HL_VQ.out; simp; omega))
  clear ht HK5
  generalize (w5.alloc (.cells ([.int .i64 0, .int .i64 0, .int .i64 0, .int .i64 0, .int .i64 0, .bool false, .bool false, .int .u8 0, .int .u8 0, .int .u8 0, .int .u8 0, .int .u8 0, .int .u8 0, .int .u8 0, .int .u8 0, .string ⟨#[]⟩, .string ⟨#[]⟩] : List Value).toArray 25)).setCells w5.heap.size 0 VQ = w6 at *
  generalize w5.heap.size = g11 at *
  have c2 : w6.cell? ⟨w.heap.size, 2, none⟩ = some (.int .i64 p.ttl) := HK6.out.tl.tl.tl.tl.hd.at HC_VP_2.out
  go_wp2_with (fail)
  go_ret
  exact ⟨rfl, HK6.out.2.1⟩
set_option maxRecDepth 100000 in
set_option maxHeartbeats 4000000 in
theorem again64_far (p : P4.Pkt) (F T : List UInt8) (hF : F.length = 16) (hT : T.length = 16) (id : Int) (w : World) (n0 : ¬ ((70000 : Int) < (p.data.size : Int))) (n1 : ¬ ((1000 : Int) < (p.opts.size : Int))) (n2 : ¬ (p.pl < 0)) (n3 : ¬ (p.id < 0)) (n4 : ¬ (65535 < p.id)) (ii : 0 ≤ id ∧ id ≤ 65535) (hh : hcode p = 0) (h3 : ¬ p.ttl < 3) (hz : ¬ p.pl ≤ 65515 - (p.data.size : Int)) :
    Calls Try.prog 6 #[.agg p.vals.toArray, .agg (bytV F).toArray, .agg (bytV T).toArray, .int .u16 id] w (fun e w' => e = .returned (.bool true) ∧ Below w.heap.size w w') := by
  obtain ⟨t0, t1, s0, s1, hpr, _⟩ := hcode_ok hh
  obtain ⟨VX, hVX⟩ : ∃ V, V = (h46 p F T hF hT).vals (.slice none 0 0) := ⟨_, rfl⟩
  have CH : Hid (∀ W, Calls Try.prog 21 #[.agg p.vals.toArray, .agg (bytV F).toArray, .agg (bytV T).toArray] W fun e w' =>  e = .returned (.tuple #[.agg VX.toArray, .nilIface]) ∧ Below W.heap.size W w') := Lib.hid (fun W => by
    refine (head_any p F T hF hT W).mono ?_
    rintro e w' ⟨x, rfl, her, b⟩
    rcases her with ⟨_, rfl⟩ | ⟨h, _⟩
    · exact ⟨by rw [hVX, hout_ok hh], b⟩
    · exact absurd hh h)
  have hc6 : hcode64 (h46 p F T hF hT) id ≠ 0 := by rw [back_code hh (by omega) ii, if_pos (by omega)]; decide
  obtain ⟨VQ, hVQ⟩ : ∃ V, V = P4.pkt0.vals := ⟨_, rfl⟩
  have CG : Hid (∀ W, Calls Try.prog 9 #[.agg VX.toArray, .agg ([.int .u8 p.a0, .int .u8 p.a1, .int .u8 p.a2, .int .u8 p.a3] : List Value).toArray, .agg ([.int .u8 p.b0, .int .u8 p.b1, .int .u8 p.b2, .int .u8 p.b3] : List Value).toArray, .int .i64 id] W fun e w' =>  ∃ f : Nat, e = .returned (.tuple #[.agg VQ.toArray, .iface 75 (.pointer (some ⟨f, 0, none⟩))]) ∧ Below W.heap.size W w') := Lib.hid (fun W => by
    rw [hVX]
    refine (head64_any (h46 p F T hF hT) (.slice none 0 0) p.a0 p.a1 p.a2 p.a3 p.b0 p.b1 p.b2 p.b3 id W (nil_exs W) (Nat.zero_le _) (show p.data.size ≤ _ by omega)).mono ?_
    rintro e w' ⟨x, rfl, her, b⟩
    rcases her with ⟨h, _⟩ | ⟨_, f, rfl, _, _⟩
    · exact absurd h hc6
    · exact ⟨f, by rw [hVQ, hout64_bad hc6], b⟩)
  have HI_VQ : Hid ((Try.prog.info? 25).map (·.size) = some VQ.length) := Lib.hid (by rw [hVQ]; exact P4.Try.infoIp _)
  have HO_VQ : Hid ((VQ).toArray.all (·.oneCell') = true) := Lib.hid (by rw [hVQ]; exact P4.vals_one _)
  have HL_VQ : Hid (VQ.length = 17) := Lib.hid (by rw [hVQ]; rfl)
  clear hVQ hc6
  have HI_VX : Hid ((Try.prog.info? 35).map (·.size) = some (VX).length) := Lib.hid (by rw [hVX]; exact Try.info6 _ _)
  have HO_VX : Hid ((VX).toArray.all (·.oneCell') = true) := Lib.hid (by rw [hVX]; exact vals_one _ _ rfl)
  have HL_VX : Hid ((VX).length = 42) := Lib.hid (by rw [hVX]; exact vals_len _ _)
  have HRG : Hid (∀ (W : World) (b : Nat), Bk W b 25 p.vals.toArray → W.rangeAt b 7 ([.int .u8 p.a0, .int .u8 p.a1, .int .u8 p.a2, .int .u8 p.a3] : List Value) ∧ W.rangeAt b 11 ([.int .u8 p.b0, .int .u8 p.b1, .int .u8 p.b2, .int .u8 p.b3] : List Value)) := Lib.hid (fun W b h => pkt_ranges p h)
  have HI_VA : Hid ((Try.prog.info? 23).map (·.size) = some (([.int .u8 p.a0, .int .u8 p.a1, .int .u8 p.a2, .int .u8 p.a3] : List Value)).length) := Lib.hid (Try.infoV4c _ _ _ _)
  have HI_VB : Hid ((Try.prog.info? 23).map (·.size) = some (([.int .u8 p.b0, .int .u8 p.b1, .int .u8 p.b2, .int .u8 p.b3] : List Value)).length) := Lib.hid (Try.infoV4c _ _ _ _)
  generalize ([.int .u8 p.a0, .int .u8 p.a1, .int .u8 p.a2, .int .u8 p.a3] : List Value) = VA at *
  generalize ([.int .u8 p.b0, .int .u8 p.b1, .int .u8 p.b2, .int .u8 p.b3] : List Value) = VB at *
  clear hVX hh hpr
  have HI_VP : Hid ((Try.prog.info? 25).map (·.size) = some (p.vals).length) := Lib.hid (P4.Try.infoIp _)
  have HO_VP : Hid ((p.vals).toArray.all (·.oneCell') = true) := Lib.hid (P4.vals_one _)
  have HL_VP : Hid ((p.vals).length = 17) := Lib.hid rfl
  have HI_VF : Hid ((Try.prog.info? 32).map (·.size) = some (bytV F).length) := Lib.hid (Try.infoV6 _ hF)
  have HO_VF : Hid ((bytV F).toArray.all (·.oneCell') = true) := Lib.hid (by rw [List.all_toArray, List.all_eq_true]; exact bytV_one _)
  have HL_VF : Hid ((bytV F).length = 16) := Lib.hid (by rw [bytV_len]; exact hF)
  have HI_VT : Hid ((Try.prog.info? 32).map (·.size) = some (bytV T).length) := Lib.hid (Try.infoV6 _ hT)
  have HO_VT : Hid ((bytV T).toArray.all (·.oneCell') = true) := Lib.hid (by rw [List.all_toArray, List.all_eq_true]; exact bytV_one _)
  have HL_VT : Hid ((bytV T).length = 16) := Lib.hid (by rw [bytV_len]; exact hT)
  have HC_VP_0 : Hid (p.vals[0]? = some (.int .i64 p.tos)) := Lib.hid rfl
  have HC_VP_1 : Hid (p.vals[1]? = some (.int .i64 p.id)) := Lib.hid rfl
  have HC_VP_2 : Hid (p.vals[2]? = some (.int .i64 p.ttl)) := Lib.hid rfl
  have HC_VP_3 : Hid (p.vals[3]? = some (.int .i64 p.proto)) := Lib.hid rfl
  have HC_VP_4 : Hid (p.vals[4]? = some (.int .i64 p.pl)) := Lib.hid rfl
  have HC_VP_5 : Hid (p.vals[5]? = some (.bool p.df)) := Lib.hid rfl
  have HC_VP_6 : Hid (p.vals[6]? = some (.bool p.more)) := Lib.hid rfl
  have HC_VP_15 : Hid (p.vals[15]? = some (.string p.opts)) := Lib.hid rfl
  have HC_VP_16 : Hid (p.vals[16]? = some (.string p.data)) := Lib.hid rfl
  have HK1 : Hid (Kp w w.heap.size [(w.heap.size + 1 + 1, 32, bytV T), (w.heap.size + 1, 32, bytV F), (w.heap.size, 25, p.vals)] (((w.alloc (.cells p.vals.toArray 25)).alloc (.cells (bytV F).toArray 32)).alloc (.cells (bytV T).toArray 32))) := Lib.hid (by
    have h := ((Kp.start w).new 25 p.vals).new 32 (bytV F)
    have e1 : (w.alloc (.cells p.vals.toArray 25)).heap.size = w.heap.size + 1 := by simp
    have e2 : ((w.alloc (.cells p.vals.toArray 25)).alloc (.cells (bytV F).toArray 32)).heap.size = w.heap.size + 1 + 1 := by simp
    rw [e1] at h
    have h2 := h.new 32 (bytV T)
    rwa [e2] at h2)
  generalize p.vals = VP at *
  generalize bytV F = VF at *
  generalize bytV T = VT at *
  generalize hw1 : ((w.alloc (.cells VP.toArray 25)).alloc (.cells VF.toArray 32)).alloc (.cells VT.toArray 32) = w1 at *
  go_enter Try.func6, Try.ntmps6
  go_upto_region 1 with (fail)
  clear hw1
  go_wp2_with (fail)
  refine (awake64_true _).mono ?_
  rintro e w2 ⟨rfl, bb⟩
  have HK2 := Lib.hid (HK1.out.below bb (Nat.le_refl _))
  clear bb HK1
  have c16 : w2.cell? ⟨w.heap.size, 16, none⟩ = some (.string p.data) := HK2.out.tl.tl.hd.at HC_VP_16.out
  have c15 : w2.cell? ⟨w.heap.size, 15, none⟩ = some (.string p.opts) := HK2.out.tl.tl.hd.at HC_VP_15.out
  have c4 : w2.cell? ⟨w.heap.size, 4, none⟩ = some (.int .i64 p.pl) := HK2.out.tl.tl.hd.at HC_VP_4.out
  have c1 : w2.cell? ⟨w.heap.size, 1, none⟩ = some (.int .i64 p.id) := HK2.out.tl.tl.hd.at HC_VP_1.out
  go_upto_region 5 with (fail)
  clear c16 c15 c4 c1
  have hr0 := HK2.out.tl.tl.hd.range
  have hr1 := HK2.out.tl.hd.range
  have hr2 := HK2.out.hd.range
  go_wp2_with (((with_reducible (change wpList _ _ _ _ _ _)); (first | (refine wpList_load_mid rfl 25 _ rfl (w.heap.size) 0 rfl (VP) _ hr0 Try.underlying25 rfl HI_VP.out ?_) | (refine wpList_load_mid rfl 32 _ rfl (w.heap.size + 1) 0 rfl (VF) _ hr1 Try.underlying32 rfl HI_VF.out ?_) | (refine wpList_load_mid rfl 32 _ rfl (w.heap.size + 1 + 1) 0 rfl (VT) _ hr2 Try.underlying32 rfl HI_VT.out ?_))))
  clear hr0 hr1 hr2
  refine (CH.out _).mono ?_
  rintro e w3 ⟨rfl, bb⟩
  have HK3 := Lib.hid (HK2.out.below bb (Nat.le_refl _))
  clear bb HK2
  have ht := (bk_new w3 35 ([.int .i64 0, .int .i64 0, .int .i64 0, .int .u8 0, .int .u8 0, .int .u8 0, .int .u8 0, .int .u8 0, .int .u8 0, .int .u8 0, .int .u8 0, .int .u8 0, .int .u8 0, .int .u8 0, .int .u8 0, .int .u8 0, .int .u8 0, .int .u8 0, .int .u8 0, .int .u8 0, .int .u8 0, .int .u8 0, .int .u8 0, .int .u8 0, .int .u8 0, .int .u8 0, .int .u8 0, .int .u8 0, .int .u8 0, .int .u8 0, .int .u8 0, .int .u8 0, .int .u8 0, .int .u8 0, .int .u8 0, .slice none 0 0, .bool false, .int .u32 0, .int .i64 0, .bool false, .int .i64 0, .string ⟨#[]⟩] : List Value).toArray).there VX.toArray.size (by have := HL_VX.out; simp; omega)
  go_upto_region 6 with (((with_reducible (change wpList _ _ _ _ _ _)); ((refine wpList_store_mid rfl 35 _ _ rfl (w3.heap.size) 0 VX.toArray rfl rfl ht (by simpa using HI_VX.out) HO_VX.out ?_))))
  have HK4 := Lib.hid (HK3.out.put 35 ([.int .i64 0, .int .i64 0, .int .i64 0, .int .u8 0, .int .u8 0, .int .u8 0, .int .u8 0, .int .u8 0, .int .u8 0, .int .u8 0, .int .u8 0, .int .u8 0, .int .u8 0, .int .u8 0, .int .u8 0, .int .u8 0, .int .u8 0, .int .u8 0, .int .u8 0, .int .u8 0, .int .u8 0, .int .u8 0, .int .u8 0, .int .u8 0, .int .u8 0, .int .u8 0, .int .u8 0, .int .u8 0, .int .u8 0, .int .u8 0, .int .u8 0, .int .u8 0, .int .u8 0, .int .u8 0, .int .u8 0, .slice none 0 0, .bool false, .int .u32 0, .int .i64 0, .bool false, .int .i64 0, .string ⟨#[]⟩] : List Value).toArray VX (by have := HL_VX.out; simp; omega))
  clear ht HK3
  generalize (w3.alloc (.cells ([.int .i64 0, .int .i64 0, .int .i64 0, .int .u8 0, .int .u8 0, .int .u8 0, .int .u8 0, .int .u8 0, .int .u8 0, .int .u8 0, .int .u8 0, .int .u8 0, .int .u8 0, .int .u8 0, .int .u8 0, .int .u8 0, .int .u8 0, .int .u8 0, .int .u8 0, .int .u8 0, .int .u8 0, .int .u8 0, .int .u8 0, .int .u8 0, .int .u8 0, .int .u8 0, .int .u8 0, .int .u8 0, .int .u8 0, .int .u8 0, .int .u8 0, .int .u8 0, .int .u8 0, .int .u8 0, .int .u8 0, .slice none 0 0, .bool false, .int .u32 0, .int .i64 0, .bool false, .int .i64 0, .string ⟨#[]⟩] : List Value).toArray 35)).setCells w3.heap.size 0 VX = w4 at *
  generalize w3.heap.size = g9 at *
  go_upto_region 8 with (fail)
  have hr0 := HK4.out.hd.range
  have rA := (HRG.out _ _ HK4.out.tl.tl.tl.hd).1
  have rB := (HRG.out _ _ HK4.out.tl.tl.tl.hd).2
  have kid : IntKind.i64.wrap id = id := IntWalk.i64_in _ (by omega)
  go_wp2_with (((with_reducible (change wpList _ _ _ _ _ _)); (first | (refine wpList_load_mid rfl 35 _ rfl (g9) 0 rfl (VX) _ hr0 Try.underlying35 rfl HI_VX.out ?_) | (refine wpList_load_mid rfl 23 _ rfl (w.heap.size) 7 rfl (VA) _ rA Try.underlying23 rfl HI_VA.out ?_) | (refine wpList_load_mid rfl 23 _ rfl (w.heap.size) 11 rfl (VB) _ rB Try.underlying23 rfl HI_VB.out ?_))))
  clear hr0 rA rB
  refine (CG.out _).mono ?_
  rintro e w5 ⟨f, rfl, bb⟩
  have HK5 := Lib.hid (HK4.out.below bb (Nat.le_refl _))
  clear bb HK4
  have ht := (bk_new w5 25 ([.int .i64 0, .int .i64 0, .int .i64 0, .int .i64 0, .int .i64 0, .bool false, .bool false, .int .u8 0, .int .u8 0, .int .u8 0, .int .u8 0, .int .u8 0, .int .u8 0, .int .u8 0, .int .u8 0, .string ⟨#[]⟩, .string ⟨#[]⟩] : List Value).toArray).there VQ.toArray.size (by have := HL_VQ.out; simp; omega)
  go_upto_region 9 with (((with_reducible (change wpList _ _ _ _ _ _)); ((refine wpList_store_mid rfl 25 _ _ rfl (w5.heap.size) 0 VQ.toArray rfl rfl ht (by simpa using HI_VQ.out) HO_VQ.out ?_))))
  have HK6 := Lib.hid (HK5.out.put 25 ([.int .i64 0, .int .i64 0, .int .i64 0, .int .i64 0, .int .i64 0, .bool false, .bool false, .int .u8 0, .int .u8 0, .int .u8 0, .int .u8 0, .int .u8 0, .int .u8 0, .int .u8 0, .int .u8 0, .string ⟨#[]⟩, .string ⟨#[]⟩] : List Value).toArray VQ (by have := HL_VQ.out; simp; omega))
  clear ht HK5
  generalize (w5.alloc (.cells ([.int .i64 0, .int .i64 0, .int .i64 0, .int .i64 0, .int .i64 0, .bool false, .bool false, .int .u8 0, .int .u8 0, .int .u8 0, .int .u8 0, .int .u8 0, .int .u8 0, .int .u8 0, .int .u8 0, .string ⟨#[]⟩, .string ⟨#[]⟩] : List Value).toArray 25)).setCells w5.heap.size 0 VQ = w6 at *
  generalize w5.heap.size = g11 at *
  have c2 : w6.cell? ⟨w.heap.size, 2, none⟩ = some (.int .i64 p.ttl) := HK6.out.tl.tl.tl.tl.hd.at HC_VP_2.out
  go_upto_region 12 with (fail)
  have c4 : w6.cell? ⟨w.heap.size, 4, none⟩ = some (.int .i64 p.pl) := HK6.out.tl.tl.tl.tl.hd.at HC_VP_4.out
  have c16 : w6.cell? ⟨w.heap.size, 16, none⟩ = some (.string p.data) := HK6.out.tl.tl.tl.tl.hd.at HC_VP_16.out
  have kw : IntKind.i64.wrap (65515 - (p.data.size : Int)) = 65515 - (p.data.size : Int) := IntWalk.i64_in _ (by omega)
  have hzz : 65515 - (p.data.size : Int) < p.pl := by omega
  go_wp2_with (fail)
  go_ret
  refine ⟨?_, HK6.out.2.1⟩
  first | rfl | (simp; done) | (simp; omega)
set_option maxRecDepth 100000 in
set_option maxHeartbeats 4000000 in
theorem again64_pm (p : P4.Pkt) (F T : List UInt8) (hF : F.length = 16) (hT : T.length = 16) (id : Int) (w : World) (n0 : ¬ ((70000 : Int) < (p.data.size : Int))) (n1 : ¬ ((1000 : Int) < (p.opts.size : Int))) (n2 : ¬ (p.pl < 0)) (n3 : ¬ (p.id < 0)) (n4 : ¬ (65535 < p.id)) (ii : 0 ≤ id ∧ id ≤ 65535) (hh : hcode p = 0) (h3 : ¬ p.ttl < 3) (hz : p.pl ≤ 65515 - (p.data.size : Int)) (hm : p.more = true) :
    Calls Try.prog 6 #[.agg p.vals.toArray, .agg (bytV F).toArray, .agg (bytV T).toArray, .int .u16 id] w (fun e w' => e = .returned (.bool true) ∧ Below w.heap.size w w') := by
  obtain ⟨t0, t1, s0, s1, hpr, _⟩ := hcode_ok hh
  obtain ⟨VX, hVX⟩ : ∃ V, V = (h46 p F T hF hT).vals (.slice none 0 0) := ⟨_, rfl⟩
  have CH : Hid (∀ W, Calls Try.prog 21 #[.agg p.vals.toArray, .agg (bytV F).toArray, .agg (bytV T).toArray] W fun e w' =>  e = .returned (.tuple #[.agg VX.toArray, .nilIface]) ∧ Below W.heap.size W w') := Lib.hid (fun W => by
    refine (head_any p F T hF hT W).mono ?_
    rintro e w' ⟨x, rfl, her, b⟩
    rcases her with ⟨_, rfl⟩ | ⟨h, _⟩
    · exact ⟨by rw [hVX, hout_ok hh], b⟩
    · exact absurd hh h)
  have hc6 : hcode64 (h46 p F T hF hT) id = 0 := by rw [back_code hh (by omega) ii, if_neg (by omega)]
  have hq : h64 (h46 p F T hF hT) p.a0 p.a1 p.a2 p.a3 p.b0 p.b1 p.b2 p.b3 id = ⟨p.tos, p.id, p.ttl - 2, p.proto, p.pl, false, true, p.a0, p.a1, p.a2, p.a3, p.b0, p.b1, p.b2, p.b3, ⟨#[]⟩, p.data⟩ := by rw [back_piece hpr (by omega) (by rw [hm]; rfl), hm]
  obtain ⟨VQ, hVQ⟩ : ∃ V, V = (⟨p.tos, p.id, p.ttl - 2, p.proto, p.pl, false, true, p.a0, p.a1, p.a2, p.a3, p.b0, p.b1, p.b2, p.b3, ⟨#[]⟩, p.data⟩ : P4.Pkt).vals := ⟨_, rfl⟩
  have CG : Hid (∀ W, Calls Try.prog 9 #[.agg VX.toArray, .agg ([.int .u8 p.a0, .int .u8 p.a1, .int .u8 p.a2, .int .u8 p.a3] : List Value).toArray, .agg ([.int .u8 p.b0, .int .u8 p.b1, .int .u8 p.b2, .int .u8 p.b3] : List Value).toArray, .int .i64 id] W fun e w' =>  e = .returned (.tuple #[.agg VQ.toArray, .nilIface]) ∧ Below W.heap.size W w') := Lib.hid (fun W => by
    rw [hVX]
    refine (head64_any (h46 p F T hF hT) (.slice none 0 0) p.a0 p.a1 p.a2 p.a3 p.b0 p.b1 p.b2 p.b3 id W (nil_exs W) (Nat.zero_le _) (show p.data.size ≤ _ by omega)).mono ?_
    rintro e w' ⟨x, rfl, her, b⟩
    rcases her with ⟨_, rfl⟩ | ⟨h, _⟩
    · exact ⟨by rw [hVQ, hout64_ok hc6, hq], b⟩
    · exact absurd hc6 h)
  have HEV_VQ : Hid (∀ W, (binOp .eql 25 (.agg VQ.toArray) (.agg VQ.toArray)).run Try.prog W = .ok (.bool true) W) := Lib.hid (fun W => by rw [hVQ]; exact P4.eqlP (⟨p.tos, p.id, p.ttl - 2, p.proto, p.pl, false, true, p.a0, p.a1, p.a2, p.a3, p.b0, p.b1, p.b2, p.b3, ⟨#[]⟩, p.data⟩) W)
  have HI_VQ : Hid ((Try.prog.info? 25).map (·.size) = some VQ.length) := Lib.hid (by rw [hVQ]; exact P4.Try.infoIp _)
  have HO_VQ : Hid ((VQ).toArray.all (·.oneCell') = true) := Lib.hid (by rw [hVQ]; exact P4.vals_one _)
  have HL_VQ : Hid (VQ.length = 17) := Lib.hid (by rw [hVQ]; rfl)
  obtain ⟨Y1, hY1⟩ : ∃ V, V = ((⟨p.tos, p.id, (p.ttl - 2), p.proto, p.pl, p.df, p.more, p.a0, p.a1, p.a2, p.a3, p.b0, p.b1, p.b2, p.b3, p.opts, p.data⟩ : P4.Pkt).vals) := ⟨_, rfl⟩
  have HI_Y1 : Hid ((Try.prog.info? 25).map (·.size) = some Y1.length) := Lib.hid (by rw [hY1]; exact P4.Try.infoIp _)
  have HO_Y1 : Hid ((Y1).toArray.all (·.oneCell') = true) := Lib.hid (by rw [hY1]; exact P4.vals_one _)
  have HL_Y1 : Hid (Y1.length = 17) := Lib.hid (by rw [hY1]; rfl)
  have HE1 : Hid (p.vals.set 2 (.int .i64 (p.ttl - 2)) = Y1) := Lib.hid (by rw [hY1]; rfl)
  obtain ⟨Y2, hY2⟩ : ∃ V, V = ((⟨p.tos, p.id, (p.ttl - 2), p.proto, p.pl, p.df, p.more, p.a0, p.a1, p.a2, p.a3, p.b0, p.b1, p.b2, p.b3, ⟨#[]⟩, p.data⟩ : P4.Pkt).vals) := ⟨_, rfl⟩
  have HI_Y2 : Hid ((Try.prog.info? 25).map (·.size) = some Y2.length) := Lib.hid (by rw [hY2]; exact P4.Try.infoIp _)
  have HO_Y2 : Hid ((Y2).toArray.all (·.oneCell') = true) := Lib.hid (by rw [hY2]; exact P4.vals_one _)
  have HL_Y2 : Hid (Y2.length = 17) := Lib.hid (by rw [hY2]; rfl)
  have HE2 : Hid (Y1.set 15 (.string ⟨#[]⟩) = Y2) := Lib.hid (by rw [hY1, hY2]; rfl)
  have HE3 : Hid (Y2.set 5 (.bool false) = VQ) := Lib.hid (by rw [hY2, hVQ, ← hm]; rfl)
  clear hVQ hq hc6 hY1 hY2
  have HI_VX : Hid ((Try.prog.info? 35).map (·.size) = some (VX).length) := Lib.hid (by rw [hVX]; exact Try.info6 _ _)
  have HO_VX : Hid ((VX).toArray.all (·.oneCell') = true) := Lib.hid (by rw [hVX]; exact vals_one _ _ rfl)
  have HL_VX : Hid ((VX).length = 42) := Lib.hid (by rw [hVX]; exact vals_len _ _)
  have HRG : Hid (∀ (W : World) (b : Nat), Bk W b 25 p.vals.toArray → W.rangeAt b 7 ([.int .u8 p.a0, .int .u8 p.a1, .int .u8 p.a2, .int .u8 p.a3] : List Value) ∧ W.rangeAt b 11 ([.int .u8 p.b0, .int .u8 p.b1, .int .u8 p.b2, .int .u8 p.b3] : List Value)) := Lib.hid (fun W b h => pkt_ranges p h)
  have HI_VA : Hid ((Try.prog.info? 23).map (·.size) = some (([.int .u8 p.a0, .int .u8 p.a1, .int .u8 p.a2, .int .u8 p.a3] : List Value)).length) := Lib.hid (Try.infoV4c _ _ _ _)
  have HI_VB : Hid ((Try.prog.info? 23).map (·.size) = some (([.int .u8 p.b0, .int .u8 p.b1, .int .u8 p.b2, .int .u8 p.b3] : List Value)).length) := Lib.hid (Try.infoV4c _ _ _ _)
  generalize ([.int .u8 p.a0, .int .u8 p.a1, .int .u8 p.a2, .int .u8 p.a3] : List Value) = VA at *
  generalize ([.int .u8 p.b0, .int .u8 p.b1, .int .u8 p.b2, .int .u8 p.b3] : List Value) = VB at *
  clear hVX hh hpr
  have HM := Lib.hid hm
  clear hm
  have HI_VP : Hid ((Try.prog.info? 25).map (·.size) = some (p.vals).length) := Lib.hid (P4.Try.infoIp _)
  have HO_VP : Hid ((p.vals).toArray.all (·.oneCell') = true) := Lib.hid (P4.vals_one _)
  have HL_VP : Hid ((p.vals).length = 17) := Lib.hid rfl
  have HI_VF : Hid ((Try.prog.info? 32).map (·.size) = some (bytV F).length) := Lib.hid (Try.infoV6 _ hF)
  have HO_VF : Hid ((bytV F).toArray.all (·.oneCell') = true) := Lib.hid (by rw [List.all_toArray, List.all_eq_true]; exact bytV_one _)
  have HL_VF : Hid ((bytV F).length = 16) := Lib.hid (by rw [bytV_len]; exact hF)
  have HI_VT : Hid ((Try.prog.info? 32).map (·.size) = some (bytV T).length) := Lib.hid (Try.infoV6 _ hT)
  have HO_VT : Hid ((bytV T).toArray.all (·.oneCell') = true) := Lib.hid (by rw [List.all_toArray, List.all_eq_true]; exact bytV_one _)
  have HL_VT : Hid ((bytV T).length = 16) := Lib.hid (by rw [bytV_len]; exact hT)
  have HC_VP_0 : Hid (p.vals[0]? = some (.int .i64 p.tos)) := Lib.hid rfl
  have HC_VP_1 : Hid (p.vals[1]? = some (.int .i64 p.id)) := Lib.hid rfl
  have HC_VP_2 : Hid (p.vals[2]? = some (.int .i64 p.ttl)) := Lib.hid rfl
  have HC_VP_3 : Hid (p.vals[3]? = some (.int .i64 p.proto)) := Lib.hid rfl
  have HC_VP_4 : Hid (p.vals[4]? = some (.int .i64 p.pl)) := Lib.hid rfl
  have HC_VP_5 : Hid (p.vals[5]? = some (.bool p.df)) := Lib.hid rfl
  have HC_VP_6 : Hid (p.vals[6]? = some (.bool p.more)) := Lib.hid rfl
  have HC_VP_15 : Hid (p.vals[15]? = some (.string p.opts)) := Lib.hid rfl
  have HC_VP_16 : Hid (p.vals[16]? = some (.string p.data)) := Lib.hid rfl
  have HK1 : Hid (Kp w w.heap.size [(w.heap.size + 1 + 1, 32, bytV T), (w.heap.size + 1, 32, bytV F), (w.heap.size, 25, p.vals)] (((w.alloc (.cells p.vals.toArray 25)).alloc (.cells (bytV F).toArray 32)).alloc (.cells (bytV T).toArray 32))) := Lib.hid (by
    have h := ((Kp.start w).new 25 p.vals).new 32 (bytV F)
    have e1 : (w.alloc (.cells p.vals.toArray 25)).heap.size = w.heap.size + 1 := by simp
    have e2 : ((w.alloc (.cells p.vals.toArray 25)).alloc (.cells (bytV F).toArray 32)).heap.size = w.heap.size + 1 + 1 := by simp
    rw [e1] at h
    have h2 := h.new 32 (bytV T)
    rwa [e2] at h2)
  generalize p.vals = VP at *
  generalize bytV F = VF at *
  generalize bytV T = VT at *
  generalize hw1 : ((w.alloc (.cells VP.toArray 25)).alloc (.cells VF.toArray 32)).alloc (.cells VT.toArray 32) = w1 at *
  go_enter Try.func6, Try.ntmps6
  go_upto_region 1 with (fail)
  clear hw1
  go_wp2_with (fail)
  refine (awake64_true _).mono ?_
  rintro e w2 ⟨rfl, bb⟩
  have HK2 := Lib.hid (HK1.out.below bb (Nat.le_refl _))
  clear bb HK1
  have c16 : w2.cell? ⟨w.heap.size, 16, none⟩ = some (.string p.data) := HK2.out.tl.tl.hd.at HC_VP_16.out
  have c15 : w2.cell? ⟨w.heap.size, 15, none⟩ = some (.string p.opts) := HK2.out.tl.tl.hd.at HC_VP_15.out
  have c4 : w2.cell? ⟨w.heap.size, 4, none⟩ = some (.int .i64 p.pl) := HK2.out.tl.tl.hd.at HC_VP_4.out
  have c1 : w2.cell? ⟨w.heap.size, 1, none⟩ = some (.int .i64 p.id) := HK2.out.tl.tl.hd.at HC_VP_1.out
  go_upto_region 5 with (fail)
  clear c16 c15 c4 c1
  have hr0 := HK2.out.tl.tl.hd.range
  have hr1 := HK2.out.tl.hd.range
  have hr2 := HK2.out.hd.range
  go_wp2_with (((with_reducible (change wpList _ _ _ _ _ _)); (first | (refine wpList_load_mid rfl 25 _ rfl (w.heap.size) 0 rfl (VP) _ hr0 Try.underlying25 rfl HI_VP.out ?_) | (refine wpList_load_mid rfl 32 _ rfl (w.heap.size + 1) 0 rfl (VF) _ hr1 Try.underlying32 rfl HI_VF.out ?_) | (refine wpList_load_mid rfl 32 _ rfl (w.heap.size + 1 + 1) 0 rfl (VT) _ hr2 Try.underlying32 rfl HI_VT.out ?_))))
  clear hr0 hr1 hr2
  refine (CH.out _).mono ?_
  rintro e w3 ⟨rfl, bb⟩
  have HK3 := Lib.hid (HK2.out.below bb (Nat.le_refl _))
  clear bb HK2
  have ht := (bk_new w3 35 ([.int .i64 0, .int .i64 0, .int .i64 0, .int .u8 0, .int .u8 0, .int .u8 0, .int .u8 0, .int .u8 0, .int .u8 0, .int .u8 0, .int .u8 0, .int .u8 0, .int .u8 0, .int .u8 0, .int .u8 0, .int .u8 0, .int .u8 0, .int .u8 0, .int .u8 0, .int .u8 0, .int .u8 0, .int .u8 0, .int .u8 0, .int .u8 0, .int .u8 0, .int .u8 0, .int .u8 0, .int .u8 0, .int .u8 0, .int .u8 0, .int .u8 0, .int .u8 0, .int .u8 0, .int .u8 0, .int .u8 0, .slice none 0 0, .bool false, .int .u32 0, .int .i64 0, .bool false, .int .i64 0, .string ⟨#[]⟩] : List Value).toArray).there VX.toArray.size (by have := HL_VX.out; simp; omega)
  go_upto_region 6 with (((with_reducible (change wpList _ _ _ _ _ _)); ((refine wpList_store_mid rfl 35 _ _ rfl (w3.heap.size) 0 VX.toArray rfl rfl ht (by simpa using HI_VX.out) HO_VX.out ?_))))
  have HK4 := Lib.hid (HK3.out.put 35 ([.int .i64 0, .int .i64 0, .int .i64 0, .int .u8 0, .int .u8 0, .int .u8 0, .int .u8 0, .int .u8 0, .int .u8 0, .int .u8 0, .int .u8 0, .int .u8 0, .int .u8 0, .int .u8 0, .int .u8 0, .int .u8 0, .int .u8 0, .int .u8 0, .int .u8 0, .int .u8 0, .int .u8 0, .int .u8 0, .int .u8 0, .int .u8 0, .int .u8 0, .int .u8 0, .int .u8 0, .int .u8 0, .int .u8 0, .int .u8 0, .int .u8 0, .int .u8 0, .int .u8 0, .int .u8 0, .int .u8 0, .slice none 0 0, .bool false, .int .u32 0, .int .i64 0, .bool false, .int .i64 0, .string ⟨#[]⟩] : List Value).toArray VX (by have := HL_VX.out; simp; omega))
  clear ht HK3
  generalize (w3.alloc (.cells ([.int .i64 0, .int .i64 0, .int .i64 0, .int .u8 0, .int .u8 0, .int .u8 0, .int .u8 0, .int .u8 0, .int .u8 0, .int .u8 0, .int .u8 0, .int .u8 0, .int .u8 0, .int .u8 0, .int .u8 0, .int .u8 0, .int .u8 0, .int .u8 0, .int .u8 0, .int .u8 0, .int .u8 0, .int .u8 0, .int .u8 0, .int .u8 0, .int .u8 0, .int .u8 0, .int .u8 0, .int .u8 0, .int .u8 0, .int .u8 0, .int .u8 0, .int .u8 0, .int .u8 0, .int .u8 0, .int .u8 0, .slice none 0 0, .bool false, .int .u32 0, .int .i64 0, .bool false, .int .i64 0, .string ⟨#[]⟩] : List Value).toArray 35)).setCells w3.heap.size 0 VX = w4 at *
  generalize w3.heap.size = g9 at *
  go_upto_region 8 with (fail)
  have hr0 := HK4.out.hd.range
  have rA := (HRG.out _ _ HK4.out.tl.tl.tl.hd).1
  have rB := (HRG.out _ _ HK4.out.tl.tl.tl.hd).2
  have kid : IntKind.i64.wrap id = id := IntWalk.i64_in _ (by omega)
  go_wp2_with (((with_reducible (change wpList _ _ _ _ _ _)); (first | (refine wpList_load_mid rfl 35 _ rfl (g9) 0 rfl (VX) _ hr0 Try.underlying35 rfl HI_VX.out ?_) | (refine wpList_load_mid rfl 23 _ rfl (w.heap.size) 7 rfl (VA) _ rA Try.underlying23 rfl HI_VA.out ?_) | (refine wpList_load_mid rfl 23 _ rfl (w.heap.size) 11 rfl (VB) _ rB Try.underlying23 rfl HI_VB.out ?_))))
  clear hr0 rA rB
  refine (CG.out _).mono ?_
  rintro e w5 ⟨rfl, bb⟩
  have HK5 := Lib.hid (HK4.out.below bb (Nat.le_refl _))
  clear bb HK4
  have ht := (bk_new w5 25 ([.int .i64 0, .int .i64 0, .int .i64 0, .int .i64 0, .int .i64 0, .bool false, .bool false, .int .u8 0, .int .u8 0, .int .u8 0, .int .u8 0, .int .u8 0, .int .u8 0, .int .u8 0, .int .u8 0, .string ⟨#[]⟩, .string ⟨#[]⟩] : List Value).toArray).there VQ.toArray.size (by have := HL_VQ.out; simp; omega)
  go_upto_region 9 with (((with_reducible (change wpList _ _ _ _ _ _)); ((refine wpList_store_mid rfl 25 _ _ rfl (w5.heap.size) 0 VQ.toArray rfl rfl ht (by simpa using HI_VQ.out) HO_VQ.out ?_))))
  have HK6 := Lib.hid (HK5.out.put 25 ([.int .i64 0, .int .i64 0, .int .i64 0, .int .i64 0, .int .i64 0, .bool false, .bool false, .int .u8 0, .int .u8 0, .int .u8 0, .int .u8 0, .int .u8 0, .int .u8 0, .int .u8 0, .int .u8 0, .string ⟨#[]⟩, .string ⟨#[]⟩] : List Value).toArray VQ (by have := HL_VQ.out; simp; omega))
  clear ht HK5
  generalize (w5.alloc (.cells ([.int .i64 0, .int .i64 0, .int .i64 0, .int .i64 0, .int .i64 0, .bool false, .bool false, .int .u8 0, .int .u8 0, .int .u8 0, .int .u8 0, .int .u8 0, .int .u8 0, .int .u8 0, .int .u8 0, .string ⟨#[]⟩, .string ⟨#[]⟩] : List Value).toArray 25)).setCells w5.heap.size 0 VQ = w6 at *
  generalize w5.heap.size = g11 at *
  have c2 : w6.cell? ⟨w.heap.size, 2, none⟩ = some (.int .i64 p.ttl) := HK6.out.tl.tl.tl.tl.hd.at HC_VP_2.out
  go_upto_region 13 with (fail)
  clear c2
  have HG11 : Hid (g11 < w6.heap.size ∧ g9 < w6.heap.size ∧ w.heap.size + 1 + 1 < w6.heap.size) := Lib.hid ⟨HK6.out.hd.lt, HK6.out.tl.hd.lt, HK6.out.tl.tl.hd.lt⟩
  have hr0 := HK6.out.tl.tl.tl.tl.hd.range
  have ht := (bk_new w6 25 ([.int .i64 0, .int .i64 0, .int .i64 0, .int .i64 0, .int .i64 0, .bool false, .bool false, .int .u8 0, .int .u8 0, .int .u8 0, .int .u8 0, .int .u8 0, .int .u8 0, .int .u8 0, .int .u8 0, .string ⟨#[]⟩, .string ⟨#[]⟩] : List Value).toArray).there VP.toArray.size (by have := HL_VP.out; simp; omega)
  go_upto_region 14 with (((with_reducible (change wpList _ _ _ _ _ _)); (first | (refine wpList_load_mid rfl 25 _ rfl (w.heap.size) 0 rfl (VP) _ hr0 Try.underlying25 rfl HI_VP.out ?_) | (refine wpList_store_mid rfl 25 _ _ rfl (w6.heap.size) 0 VP.toArray rfl rfl ht (by simpa using HI_VP.out) HO_VP.out ?_))))
  have HK7 := Lib.hid (HK6.out.put 25 ([.int .i64 0, .int .i64 0, .int .i64 0, .int .i64 0, .int .i64 0, .bool false, .bool false, .int .u8 0, .int .u8 0, .int .u8 0, .int .u8 0, .int .u8 0, .int .u8 0, .int .u8 0, .int .u8 0, .string ⟨#[]⟩, .string ⟨#[]⟩] : List Value).toArray VP (by have := HL_VP.out; simp; omega))
  clear ht HK6
  generalize (w6.alloc (.cells ([.int .i64 0, .int .i64 0, .int .i64 0, .int .i64 0, .int .i64 0, .bool false, .bool false, .int .u8 0, .int .u8 0, .int .u8 0, .int .u8 0, .int .u8 0, .int .u8 0, .int .u8 0, .int .u8 0, .string ⟨#[]⟩, .string ⟨#[]⟩] : List Value).toArray 25)).setCells w6.heap.size 0 VP = w7 at *
  generalize w6.heap.size = g13 at *
  clear hr0
  have hne : ∀ x ∈ ([(g11, 25, VQ), (g9, 35, VX), (w.heap.size + 1 + 1, 32, VT), (w.heap.size + 1, 32, VF), (w.heap.size, 25, VP)] : List (Nat × TypeId × List Value)), x.1 ≠ g13 := by
    have hg := HG11.out
    intro x hx
    simp only [List.mem_cons, List.not_mem_nil, or_false] at hx
    rcases hx with rfl | rfl | rfl | rfl | rfl <;> (show _ ≠ g13; omega)
  have hgB : w.heap.size ≤ g13 := by have := HG11.out; omega
  have HNE := Lib.hid (And.intro hne hgB)
  clear hne hgB
  have c2 : w7.cell? ⟨w.heap.size, 2, none⟩ = some (.int .i64 p.ttl) := HK7.out.tl.tl.tl.tl.tl.hd.at HC_VP_2.out
  have kw : IntKind.i64.wrap (p.ttl - 2) = p.ttl - 2 := IntWalk.i64_in _ (by omega)
  obtain ⟨uu, hu, hz⟩ := HK7.out.some1 2 (by have := HL_VP.out; omega)
  go_upto_region 15 with (fail)
  have hk := HK7.out.set1 HNE.out.1 HNE.out.2 2 (.int .i64 (p.ttl - 2))
  rw [HE1.out] at hk
  have HK8 := Lib.hid hk
  clear hk hu hz HK7 c2 kw
  generalize w7.setCell ⟨g13, 2, none⟩ (.int .i64 (p.ttl - 2)) = w8 at *
  obtain ⟨uu, hu, hz⟩ := HK8.out.some1 15 (by have := HL_Y1.out; omega)
  go_upto_region 16 with (fail)
  have hk := HK8.out.set1 HNE.out.1 HNE.out.2 15 (.string ⟨#[]⟩)
  rw [HE2.out] at hk
  have HK9 := Lib.hid hk
  clear hk hu hz HK8 
  generalize w8.setCell ⟨g13, 15, none⟩ (.string ⟨#[]⟩) = w9 at *
  obtain ⟨uu, hu, hz⟩ := HK9.out.some1 5 (by have := HL_Y2.out; omega)
  go_upto_region 17 with (fail)
  have hk := HK9.out.set1 HNE.out.1 HNE.out.2 5 (.bool false)
  rw [HE3.out] at hk
  have HK10 := Lib.hid hk
  clear hk hu hz HK9 
  generalize w9.setCell ⟨g13, 5, none⟩ (.bool false) = w10 at *
  have c6 : w10.cell? ⟨w.heap.size, 6, none⟩ = some (.bool true) := HK10.out.tl.tl.tl.tl.tl.hd.at (by rw [HC_VP_6.out, HM.out])
  go_upto_region 22 with (fail)
  clear c6
  have heq := HEV_VQ.out
  have hr0 := HK10.out.tl.hd.range
  have hr1 := HK10.out.hd.range
  go_wp2_with (((with_reducible (change wpList _ _ _ _ _ _)); (first | (refine wpList_load_mid rfl 25 _ rfl (g11) 0 rfl (VQ) _ hr0 Try.underlying25 rfl HI_VQ.out ?_) | (refine wpList_load_mid rfl 25 _ rfl (g13) 0 rfl (VQ) _ hr1 Try.underlying25 rfl HI_VQ.out ?_))))
  go_ret
  exact ⟨rfl, HK10.out.2.1⟩
set_option maxRecDepth 100000 in
set_option maxHeartbeats 4000000 in
theorem again64_pa (p : P4.Pkt) (F T : List UInt8) (hF : F.length = 16) (hT : T.length = 16) (id : Int) (w : World) (n0 : ¬ ((70000 : Int) < (p.data.size : Int))) (n1 : ¬ ((1000 : Int) < (p.opts.size : Int))) (n2 : ¬ (p.pl < 0)) (n3 : ¬ (p.id < 0)) (n4 : ¬ (65535 < p.id)) (ii : 0 ≤ id ∧ id ≤ 65535) (hh : hcode p = 0) (h3 : ¬ p.ttl < 3) (hz : p.pl ≤ 65515 - (p.data.size : Int)) (hm : p.more = false) (hl : p.pl ≠ 0) :
    Calls Try.prog 6 #[.agg p.vals.toArray, .agg (bytV F).toArray, .agg (bytV T).toArray, .int .u16 id] w (fun e w' => e = .returned (.bool true) ∧ Below w.heap.size w w') := by
  obtain ⟨t0, t1, s0, s1, hpr, _⟩ := hcode_ok hh
  obtain ⟨VX, hVX⟩ : ∃ V, V = (h46 p F T hF hT).vals (.slice none 0 0) := ⟨_, rfl⟩
  have CH : Hid (∀ W, Calls Try.prog 21 #[.agg p.vals.toArray, .agg (bytV F).toArray, .agg (bytV T).toArray] W fun e w' =>  e = .returned (.tuple #[.agg VX.toArray, .nilIface]) ∧ Below W.heap.size W w') := Lib.hid (fun W => by
    refine (head_any p F T hF hT W).mono ?_
    rintro e w' ⟨x, rfl, her, b⟩
    rcases her with ⟨_, rfl⟩ | ⟨h, _⟩
    · exact ⟨by rw [hVX, hout_ok hh], b⟩
    · exact absurd hh h)
  have hc6 : hcode64 (h46 p F T hF hT) id = 0 := by rw [back_code hh (by omega) ii, if_neg (by omega)]
  have hq : h64 (h46 p F T hF hT) p.a0 p.a1 p.a2 p.a3 p.b0 p.b1 p.b2 p.b3 id = ⟨p.tos, p.id, p.ttl - 2, p.proto, p.pl, false, false, p.a0, p.a1, p.a2, p.a3, p.b0, p.b1, p.b2, p.b3, ⟨#[]⟩, p.data⟩ := by rw [back_piece hpr (by omega) (by rw [hm, show (p.pl != 0) = true by rw [bne_iff_ne]; exact hl]; rfl), hm]
  obtain ⟨VQ, hVQ⟩ : ∃ V, V = (⟨p.tos, p.id, p.ttl - 2, p.proto, p.pl, false, false, p.a0, p.a1, p.a2, p.a3, p.b0, p.b1, p.b2, p.b3, ⟨#[]⟩, p.data⟩ : P4.Pkt).vals := ⟨_, rfl⟩
  have CG : Hid (∀ W, Calls Try.prog 9 #[.agg VX.toArray, .agg ([.int .u8 p.a0, .int .u8 p.a1, .int .u8 p.a2, .int .u8 p.a3] : List Value).toArray, .agg ([.int .u8 p.b0, .int .u8 p.b1, .int .u8 p.b2, .int .u8 p.b3] : List Value).toArray, .int .i64 id] W fun e w' =>  e = .returned (.tuple #[.agg VQ.toArray, .nilIface]) ∧ Below W.heap.size W w') := Lib.hid (fun W => by
    rw [hVX]
    refine (head64_any (h46 p F T hF hT) (.slice none 0 0) p.a0 p.a1 p.a2 p.a3 p.b0 p.b1 p.b2 p.b3 id W (nil_exs W) (Nat.zero_le _) (show p.data.size ≤ _ by omega)).mono ?_
    rintro e w' ⟨x, rfl, her, b⟩
    rcases her with ⟨_, rfl⟩ | ⟨h, _⟩
    · exact ⟨by rw [hVQ, hout64_ok hc6, hq], b⟩
    · exact absurd hc6 h)
  have HEV_VQ : Hid (∀ W, (binOp .eql 25 (.agg VQ.toArray) (.agg VQ.toArray)).run Try.prog W = .ok (.bool true) W) := Lib.hid (fun W => by rw [hVQ]; exact P4.eqlP (⟨p.tos, p.id, p.ttl - 2, p.proto, p.pl, false, false, p.a0, p.a1, p.a2, p.a3, p.b0, p.b1, p.b2, p.b3, ⟨#[]⟩, p.data⟩) W)
  have HI_VQ : Hid ((Try.prog.info? 25).map (·.size) = some VQ.length) := Lib.hid (by rw [hVQ]; exact P4.Try.infoIp _)
  have HO_VQ : Hid ((VQ).toArray.all (·.oneCell') = true) := Lib.hid (by rw [hVQ]; exact P4.vals_one _)
  have HL_VQ : Hid (VQ.length = 17) := Lib.hid (by rw [hVQ]; rfl)
  obtain ⟨Y1, hY1⟩ : ∃ V, V = ((⟨p.tos, p.id, (p.ttl - 2), p.proto, p.pl, p.df, p.more, p.a0, p.a1, p.a2, p.a3, p.b0, p.b1, p.b2, p.b3, p.opts, p.data⟩ : P4.Pkt).vals) := ⟨_, rfl⟩
  have HI_Y1 : Hid ((Try.prog.info? 25).map (·.size) = some Y1.length) := Lib.hid (by rw [hY1]; exact P4.Try.infoIp _)
  have HO_Y1 : Hid ((Y1).toArray.all (·.oneCell') = true) := Lib.hid (by rw [hY1]; exact P4.vals_one _)
  have HL_Y1 : Hid (Y1.length = 17) := Lib.hid (by rw [hY1]; rfl)
  have HE1 : Hid (p.vals.set 2 (.int .i64 (p.ttl - 2)) = Y1) := Lib.hid (by rw [hY1]; rfl)
  obtain ⟨Y2, hY2⟩ : ∃ V, V = ((⟨p.tos, p.id, (p.ttl - 2), p.proto, p.pl, p.df, p.more, p.a0, p.a1, p.a2, p.a3, p.b0, p.b1, p.b2, p.b3, ⟨#[]⟩, p.data⟩ : P4.Pkt).vals) := ⟨_, rfl⟩
  have HI_Y2 : Hid ((Try.prog.info? 25).map (·.size) = some Y2.length) := Lib.hid (by rw [hY2]; exact P4.Try.infoIp _)
  have HO_Y2 : Hid ((Y2).toArray.all (·.oneCell') = true) := Lib.hid (by rw [hY2]; exact P4.vals_one _)
  have HL_Y2 : Hid (Y2.length = 17) := Lib.hid (by rw [hY2]; rfl)
  have HE2 : Hid (Y1.set 15 (.string ⟨#[]⟩) = Y2) := Lib.hid (by rw [hY1, hY2]; rfl)
  have HE3 : Hid (Y2.set 5 (.bool false) = VQ) := Lib.hid (by rw [hY2, hVQ, ← hm]; rfl)
  clear hVQ hq hc6 hY1 hY2
  have HI_VX : Hid ((Try.prog.info? 35).map (·.size) = some (VX).length) := Lib.hid (by rw [hVX]; exact Try.info6 _ _)
  have HO_VX : Hid ((VX).toArray.all (·.oneCell') = true) := Lib.hid (by rw [hVX]; exact vals_one _ _ rfl)
  have HL_VX : Hid ((VX).length = 42) := Lib.hid (by rw [hVX]; exact vals_len _ _)
  have HRG : Hid (∀ (W : World) (b : Nat), Bk W b 25 p.vals.toArray → W.rangeAt b 7 ([.int .u8 p.a0, .int .u8 p.a1, .int .u8 p.a2, .int .u8 p.a3] : List Value) ∧ W.rangeAt b 11 ([.int .u8 p.b0, .int .u8 p.b1, .int .u8 p.b2, .int .u8 p.b3] : List Value)) := Lib.hid (fun W b h => pkt_ranges p h)
  have HI_VA : Hid ((Try.prog.info? 23).map (·.size) = some (([.int .u8 p.a0, .int .u8 p.a1, .int .u8 p.a2, .int .u8 p.a3] : List Value)).length) := Lib.hid (Try.infoV4c _ _ _ _)
  have HI_VB : Hid ((Try.prog.info? 23).map (·.size) = some (([.int .u8 p.b0, .int .u8 p.b1, .int .u8 p.b2, .int .u8 p.b3] : List Value)).length) := Lib.hid (Try.infoV4c _ _ _ _)
  generalize ([.int .u8 p.a0, .int .u8 p.a1, .int .u8 p.a2, .int .u8 p.a3] : List Value) = VA at *
  generalize ([.int .u8 p.b0, .int .u8 p.b1, .int .u8 p.b2, .int .u8 p.b3] : List Value) = VB at *
  clear hVX hh hpr
  have HM := Lib.hid hm
  clear hm
  have HL := Lib.hid hl
  clear hl
  have HI_VP : Hid ((Try.prog.info? 25).map (·.size) = some (p.vals).length) := Lib.hid (P4.Try.infoIp _)
  have HO_VP : Hid ((p.vals).toArray.all (·.oneCell') = true) := Lib.hid (P4.vals_one _)
  have HL_VP : Hid ((p.vals).length = 17) := Lib.hid rfl
  have HI_VF : Hid ((Try.prog.info? 32).map (·.size) = some (bytV F).length) := Lib.hid (Try.infoV6 _ hF)
  have HO_VF : Hid ((bytV F).toArray.all (·.oneCell') = true) := Lib.hid (by rw [List.all_toArray, List.all_eq_true]; exact bytV_one _)
  have HL_VF : Hid ((bytV F).length = 16) := Lib.hid (by rw [bytV_len]; exact hF)
  have HI_VT : Hid ((Try.prog.info? 32).map (·.size) = some (bytV T).length) := Lib.hid (Try.infoV6 _ hT)
  have HO_VT : Hid ((bytV T).toArray.all (·.oneCell') = true) := Lib.hid (by rw [List.all_toArray, List.all_eq_true]; exact bytV_one _)
  have HL_VT : Hid ((bytV T).length = 16) := Lib.hid (by rw [bytV_len]; exact hT)
  have HC_VP_0 : Hid (p.vals[0]? = some (.int .i64 p.tos)) := Lib.hid rfl
  have HC_VP_1 : Hid (p.vals[1]? = some (.int .i64 p.id)) := Lib.hid rfl
  have HC_VP_2 : Hid (p.vals[2]? = some (.int .i64 p.ttl)) := Lib.hid rfl
  have HC_VP_3 : Hid (p.vals[3]? = some (.int .i64 p.proto)) := Lib.hid rfl
  have HC_VP_4 : Hid (p.vals[4]? = some (.int .i64 p.pl)) := Lib.hid rfl
  have HC_VP_5 : Hid (p.vals[5]? = some (.bool p.df)) := Lib.hid rfl
  have HC_VP_6 : Hid (p.vals[6]? = some (.bool p.more)) := Lib.hid rfl
  have HC_VP_15 : Hid (p.vals[15]? = some (.string p.opts)) := Lib.hid rfl
  have HC_VP_16 : Hid (p.vals[16]? = some (.string p.data)) := Lib.hid rfl
  have HK1 : Hid (Kp w w.heap.size [(w.heap.size + 1 + 1, 32, bytV T), (w.heap.size + 1, 32, bytV F), (w.heap.size, 25, p.vals)] (((w.alloc (.cells p.vals.toArray 25)).alloc (.cells (bytV F).toArray 32)).alloc (.cells (bytV T).toArray 32))) := Lib.hid (by
    have h := ((Kp.start w).new 25 p.vals).new 32 (bytV F)
    have e1 : (w.alloc (.cells p.vals.toArray 25)).heap.size = w.heap.size + 1 := by simp
    have e2 : ((w.alloc (.cells p.vals.toArray 25)).alloc (.cells (bytV F).toArray 32)).heap.size = w.heap.size + 1 + 1 := by simp
    rw [e1] at h
    have h2 := h.new 32 (bytV T)
    rwa [e2] at h2)
  generalize p.vals = VP at *
  generalize bytV F = VF at *
  generalize bytV T = VT at *
  generalize hw1 : ((w.alloc (.cells VP.toArray 25)).alloc (.cells VF.toArray 32)).alloc (.cells VT.toArray 32) = w1 at *
  go_enter Try.func6, Try.ntmps6
  go_upto_region 1 with (fail)
  clear hw1
  go_wp2_with (fail)
  refine (awake64_true _).mono ?_
  rintro e w2 ⟨rfl, bb⟩
  have HK2 := Lib.hid (HK1.out.below bb (Nat.le_refl _))
  clear bb HK1
  have c16 : w2.cell? ⟨w.heap.size, 16, none⟩ = some (.string p.data) := HK2.out.tl.tl.hd.at HC_VP_16.out
  have c15 : w2.cell? ⟨w.heap.size, 15, none⟩ = some (.string p.opts) := HK2.out.tl.tl.hd.at HC_VP_15.out
  have c4 : w2.cell? ⟨w.heap.size, 4, none⟩ = some (.int .i64 p.pl) := HK2.out.tl.tl.hd.at HC_VP_4.out
  have c1 : w2.cell? ⟨w.heap.size, 1, none⟩ = some (.int .i64 p.id) := HK2.out.tl.tl.hd.at HC_VP_1.out
  go_upto_region 5 with (fail)
  clear c16 c15 c4 c1
  have hr0 := HK2.out.tl.tl.hd.range
  have hr1 := HK2.out.tl.hd.range
  have hr2 := HK2.out.hd.range
  go_wp2_with (((with_reducible (change wpList _ _ _ _ _ _)); (first | (refine wpList_load_mid rfl 25 _ rfl (w.heap.size) 0 rfl (VP) _ hr0 Try.underlying25 rfl HI_VP.out ?_) | (refine wpList_load_mid rfl 32 _ rfl (w.heap.size + 1) 0 rfl (VF) _ hr1 Try.underlying32 rfl HI_VF.out ?_) | (refine wpList_load_mid rfl 32 _ rfl (w.heap.size + 1 + 1) 0 rfl (VT) _ hr2 Try.underlying32 rfl HI_VT.out ?_))))
  clear hr0 hr1 hr2
  refine (CH.out _).mono ?_
  rintro e w3 ⟨rfl, bb⟩
  have HK3 := Lib.hid (HK2.out.below bb (Nat.le_refl _))
  clear bb HK2
  have ht := (bk_new w3 35 ([.int .i64 0, .int .i64 0, .int .i64 0, .int .u8 0, .int .u8 0, .int .u8 0, .int .u8 0, .int .u8 0, .int .u8 0, .int .u8 0, .int .u8 0, .int .u8 0, .int .u8 0, .int .u8 0, .int .u8 0, .int .u8 0, .int .u8 0, .int .u8 0, .int .u8 0, .int .u8 0, .int .u8 0, .int .u8 0, .int .u8 0, .int .u8 0, .int .u8 0, .int .u8 0, .int .u8 0, .int .u8 0, .int .u8 0, .int .u8 0, .int .u8 0, .int .u8 0, .int .u8 0, .int .u8 0, .int .u8 0, .slice none 0 0, .bool false, .int .u32 0, .int .i64 0, .bool false, .int .i64 0, .string ⟨#[]⟩] : List Value).toArray).there VX.toArray.size (by have := HL_VX.out; simp; omega)
  go_upto_region 6 with (((with_reducible (change wpList _ _ _ _ _ _)); ((refine wpList_store_mid rfl 35 _ _ rfl (w3.heap.size) 0 VX.toArray rfl rfl ht (by simpa using HI_VX.out) HO_VX.out ?_))))
  have HK4 := Lib.hid (HK3.out.put 35 ([.int .i64 0, .int .i64 0, .int .i64 0, .int .u8 0, .int .u8 0, .int .u8 0, .int .u8 0, .int .u8 0, .int .u8 0, .int .u8 0, .int .u8 0, .int .u8 0, .int .u8 0, .int .u8 0, .int .u8 0, .int .u8 0, .int .u8 0, .int .u8 0, .int .u8 0, .int .u8 0, .int .u8 0, .int .u8 0, .int .u8 0, .int .u8 0, .int .u8 0, .int .u8 0, .int .u8 0, .int .u8 0, .int .u8 0, .int .u8 0, .int .u8 0, .int .u8 0, .int .u8 0, .int .u8 0, .int .u8 0, .slice none 0 0, .bool false, .int .u32 0, .int .i64 0, .bool false, .int .i64 0, .string ⟨#[]⟩] : List Value).toArray VX (by have := HL_VX.out; simp; omega))
  clear ht HK3
  generalize (w3.alloc (.cells ([.int .i64 0, .int .i64 0, .int .i64 0, .int .u8 0, .int .u8 0, .int .u8 0, .int .u8 0, .int .u8 0, .int .u8 0, .int .u8 0, .int .u8 0, .int .u8 0, .int .u8 0, .int .u8 0, .int .u8 0, .int .u8 0, .int .u8 0, .int .u8 0, .int .u8 0, .int .u8 0, .int .u8 0, .int .u8 0, .int .u8 0, .int .u8 0, .int .u8 0, .int .u8 0, .int .u8 0, .int .u8 0, .int .u8 0, .int .u8 0, .int .u8 0, .int .u8 0, .int .u8 0, .int .u8 0, .int .u8 0, .slice none 0 0, .bool false, .int .u32 0, .int .i64 0, .bool false, .int .i64 0, .string ⟨#[]⟩] : List Value).toArray 35)).setCells w3.heap.size 0 VX = w4 at *
  generalize w3.heap.size = g9 at *
  go_upto_region 8 with (fail)
  have hr0 := HK4.out.hd.range
  have rA := (HRG.out _ _ HK4.out.tl.tl.tl.hd).1
  have rB := (HRG.out _ _ HK4.out.tl.tl.tl.hd).2
  have kid : IntKind.i64.wrap id = id := IntWalk.i64_in _ (by omega)
  go_wp2_with (((with_reducible (change wpList _ _ _ _ _ _)); (first | (refine wpList_load_mid rfl 35 _ rfl (g9) 0 rfl (VX) _ hr0 Try.underlying35 rfl HI_VX.out ?_) | (refine wpList_load_mid rfl 23 _ rfl (w.heap.size) 7 rfl (VA) _ rA Try.underlying23 rfl HI_VA.out ?_) | (refine wpList_load_mid rfl 23 _ rfl (w.heap.size) 11 rfl (VB) _ rB Try.underlying23 rfl HI_VB.out ?_))))
  clear hr0 rA rB
  refine (CG.out _).mono ?_
  rintro e w5 ⟨rfl, bb⟩
  have HK5 := Lib.hid (HK4.out.below bb (Nat.le_refl _))
  clear bb HK4
  have ht := (bk_new w5 25 ([.int .i64 0, .int .i64 0, .int .i64 0, .int .i64 0, .int .i64 0, .bool false, .bool false, .int .u8 0, .int .u8 0, .int .u8 0, .int .u8 0, .int .u8 0, .int .u8 0, .int .u8 0, .int .u8 0, .string ⟨#[]⟩, .string ⟨#[]⟩] : List Value).toArray).there VQ.toArray.size (by have := HL_VQ.out; simp; omega)
  go_upto_region 9 with (((with_reducible (change wpList _ _ _ _ _ _)); ((refine wpList_store_mid rfl 25 _ _ rfl (w5.heap.size) 0 VQ.toArray rfl rfl ht (by simpa using HI_VQ.out) HO_VQ.out ?_))))
  have HK6 := Lib.hid (HK5.out.put 25 ([.int .i64 0, .int .i64 0, .int .i64 0, .int .i64 0, .int .i64 0, .bool false, .bool false, .int .u8 0, .int .u8 0, .int .u8 0, .int .u8 0, .int .u8 0, .int .u8 0, .int .u8 0, .int .u8 0, .string ⟨#[]⟩, .string ⟨#[]⟩] : List Value).toArray VQ (by have := HL_VQ.out; simp; omega))
  clear ht HK5
  generalize (w5.alloc (.cells ([.int .i64 0, .int .i64 0, .int .i64 0, .int .i64 0, .int .i64 0, .bool false, .bool false, .int .u8 0, .int .u8 0, .int .u8 0, .int .u8 0, .int .u8 0, .int .u8 0, .int .u8 0, .int .u8 0, .string ⟨#[]⟩, .string ⟨#[]⟩] : List Value).toArray 25)).setCells w5.heap.size 0 VQ = w6 at *
  generalize w5.heap.size = g11 at *
  have c2 : w6.cell? ⟨w.heap.size, 2, none⟩ = some (.int .i64 p.ttl) := HK6.out.tl.tl.tl.tl.hd.at HC_VP_2.out
  go_upto_region 13 with (fail)
  clear c2
  have HG11 : Hid (g11 < w6.heap.size ∧ g9 < w6.heap.size ∧ w.heap.size + 1 + 1 < w6.heap.size) := Lib.hid ⟨HK6.out.hd.lt, HK6.out.tl.hd.lt, HK6.out.tl.tl.hd.lt⟩
  have hr0 := HK6.out.tl.tl.tl.tl.hd.range
  have ht := (bk_new w6 25 ([.int .i64 0, .int .i64 0, .int .i64 0, .int .i64 0, .int .i64 0, .bool false, .bool false, .int .u8 0, .int .u8 0, .int .u8 0, .int .u8 0, .int .u8 0, .int .u8 0, .int .u8 0, .int .u8 0, .string ⟨#[]⟩, .string ⟨#[]⟩] : List Value).toArray).there VP.toArray.size (by have := HL_VP.out; simp; omega)
  go_upto_region 14 with (((with_reducible (change wpList _ _ _ _ _ _)); (first | (refine wpList_load_mid rfl 25 _ rfl (w.heap.size) 0 rfl (VP) _ hr0 Try.underlying25 rfl HI_VP.out ?_) | (refine wpList_store_mid rfl 25 _ _ rfl (w6.heap.size) 0 VP.toArray rfl rfl ht (by simpa using HI_VP.out) HO_VP.out ?_))))
  have HK7 := Lib.hid (HK6.out.put 25 ([.int .i64 0, .int .i64 0, .int .i64 0, .int .i64 0, .int .i64 0, .bool false, .bool false, .int .u8 0, .int .u8 0, .int .u8 0, .int .u8 0, .int .u8 0, .int .u8 0, .int .u8 0, .int .u8 0, .string ⟨#[]⟩, .string ⟨#[]⟩] : List Value).toArray VP (by have := HL_VP.out; simp; omega))
  clear ht HK6
  generalize (w6.alloc (.cells ([.int .i64 0, .int .i64 0, .int .i64 0, .int .i64 0, .int .i64 0, .bool false, .bool false, .int .u8 0, .int .u8 0, .int .u8 0, .int .u8 0, .int .u8 0, .int .u8 0, .int .u8 0, .int .u8 0, .string ⟨#[]⟩, .string ⟨#[]⟩] : List Value).toArray 25)).setCells w6.heap.size 0 VP = w7 at *
  generalize w6.heap.size = g13 at *
  clear hr0
  have hne : ∀ x ∈ ([(g11, 25, VQ), (g9, 35, VX), (w.heap.size + 1 + 1, 32, VT), (w.heap.size + 1, 32, VF), (w.heap.size, 25, VP)] : List (Nat × TypeId × List Value)), x.1 ≠ g13 := by
    have hg := HG11.out
    intro x hx
    simp only [List.mem_cons, List.not_mem_nil, or_false] at hx
    rcases hx with rfl | rfl | rfl | rfl | rfl <;> (show _ ≠ g13; omega)
  have hgB : w.heap.size ≤ g13 := by have := HG11.out; omega
  have HNE := Lib.hid (And.intro hne hgB)
  clear hne hgB
  have c2 : w7.cell? ⟨w.heap.size, 2, none⟩ = some (.int .i64 p.ttl) := HK7.out.tl.tl.tl.tl.tl.hd.at HC_VP_2.out
  have kw : IntKind.i64.wrap (p.ttl - 2) = p.ttl - 2 := IntWalk.i64_in _ (by omega)
  obtain ⟨uu, hu, hz⟩ := HK7.out.some1 2 (by have := HL_VP.out; omega)
  go_upto_region 15 with (fail)
  have hk := HK7.out.set1 HNE.out.1 HNE.out.2 2 (.int .i64 (p.ttl - 2))
  rw [HE1.out] at hk
  have HK8 := Lib.hid hk
  clear hk hu hz HK7 c2 kw
  generalize w7.setCell ⟨g13, 2, none⟩ (.int .i64 (p.ttl - 2)) = w8 at *
  obtain ⟨uu, hu, hz⟩ := HK8.out.some1 15 (by have := HL_Y1.out; omega)
  go_upto_region 16 with (fail)
  have hk := HK8.out.set1 HNE.out.1 HNE.out.2 15 (.string ⟨#[]⟩)
  rw [HE2.out] at hk
  have HK9 := Lib.hid hk
  clear hk hu hz HK8 
  generalize w8.setCell ⟨g13, 15, none⟩ (.string ⟨#[]⟩) = w9 at *
  obtain ⟨uu, hu, hz⟩ := HK9.out.some1 5 (by have := HL_Y2.out; omega)
  go_upto_region 17 with (fail)
  have hk := HK9.out.set1 HNE.out.1 HNE.out.2 5 (.bool false)
  rw [HE3.out] at hk
  have HK10 := Lib.hid hk
  clear hk hu hz HK9 
  generalize w9.setCell ⟨g13, 5, none⟩ (.bool false) = w10 at *
  have c6 : w10.cell? ⟨w.heap.size, 6, none⟩ = some (.bool false) := HK10.out.tl.tl.tl.tl.tl.hd.at (by rw [HC_VP_6.out, HM.out])
  have c4 : w10.cell? ⟨w.heap.size, 4, none⟩ = some (.int .i64 p.pl) := HK10.out.tl.tl.tl.tl.tl.hd.at HC_VP_4.out
  have k4 : (p.pl == 0) = false := by rw [beq_eq_false_iff_ne]; exact HL.out
  go_upto_region 22 with (fail)
  clear c6
  have heq := HEV_VQ.out
  have hr0 := HK10.out.tl.hd.range
  have hr1 := HK10.out.hd.range
  go_wp2_with (((with_reducible (change wpList _ _ _ _ _ _)); (first | (refine wpList_load_mid rfl 25 _ rfl (g11) 0 rfl (VQ) _ hr0 Try.underlying25 rfl HI_VQ.out ?_) | (refine wpList_load_mid rfl 25 _ rfl (g13) 0 rfl (VQ) _ hr1 Try.underlying25 rfl HI_VQ.out ?_))))
  go_ret
  exact ⟨rfl, HK10.out.2.1⟩
set_option maxRecDepth 100000 in
set_option maxHeartbeats 4000000 in
theorem again64_ws (p : P4.Pkt) (F T : List UInt8) (hF : F.length = 16) (hT : T.length = 16) (id : Int) (w : World) (n0 : ¬ ((70000 : Int) < (p.data.size : Int))) (n1 : ¬ ((1000 : Int) < (p.opts.size : Int))) (n2 : ¬ (p.pl < 0)) (n3 : ¬ (p.id < 0)) (n4 : ¬ (65535 < p.id)) (ii : 0 ≤ id ∧ id ≤ 65535) (hh : hcode p = 0) (h3 : ¬ p.ttl < 3) (hz : p.pl ≤ 65515 - (p.data.size : Int)) (hm : p.more = false) (hl : p.pl = 0) (hs : (p.data.size : Int) ≤ 1240) :
    Calls Try.prog 6 #[.agg p.vals.toArray, .agg (bytV F).toArray, .agg (bytV T).toArray, .int .u16 id] w (fun e w' => e = .returned (.bool true) ∧ Below w.heap.size w w') := by
  obtain ⟨t0, t1, s0, s1, hpr, _⟩ := hcode_ok hh
  obtain ⟨VX, hVX⟩ : ∃ V, V = (h46 p F T hF hT).vals (.slice none 0 0) := ⟨_, rfl⟩
  have CH : Hid (∀ W, Calls Try.prog 21 #[.agg p.vals.toArray, .agg (bytV F).toArray, .agg (bytV T).toArray] W fun e w' =>  e = .returned (.tuple #[.agg VX.toArray, .nilIface]) ∧ Below W.heap.size W w') := Lib.hid (fun W => by
    refine (head_any p F T hF hT W).mono ?_
    rintro e w' ⟨x, rfl, her, b⟩
    rcases her with ⟨_, rfl⟩ | ⟨h, _⟩
    · exact ⟨by rw [hVX, hout_ok hh], b⟩
    · exact absurd hh h)
  have hc6 : hcode64 (h46 p F T hF hT) id = 0 := by rw [back_code hh (by omega) ii, if_neg (by omega)]
  have hq : h64 (h46 p F T hF hT) p.a0 p.a1 p.a2 p.a3 p.b0 p.b1 p.b2 p.b3 id = ⟨p.tos, id, p.ttl - 2, p.proto, p.pl, false, false, p.a0, p.a1, p.a2, p.a3, p.b0, p.b1, p.b2, p.b3, ⟨#[]⟩, p.data⟩ := by rw [back_whole hpr hm hl, hm, if_pos (by omega), show decide (1240 < p.data.size) = false by rw [decide_eq_false_iff_not]; omega]
  obtain ⟨VQ, hVQ⟩ : ∃ V, V = (⟨p.tos, id, p.ttl - 2, p.proto, p.pl, false, false, p.a0, p.a1, p.a2, p.a3, p.b0, p.b1, p.b2, p.b3, ⟨#[]⟩, p.data⟩ : P4.Pkt).vals := ⟨_, rfl⟩
  have CG : Hid (∀ W, Calls Try.prog 9 #[.agg VX.toArray, .agg ([.int .u8 p.a0, .int .u8 p.a1, .int .u8 p.a2, .int .u8 p.a3] : List Value).toArray, .agg ([.int .u8 p.b0, .int .u8 p.b1, .int .u8 p.b2, .int .u8 p.b3] : List Value).toArray, .int .i64 id] W fun e w' =>  e = .returned (.tuple #[.agg VQ.toArray, .nilIface]) ∧ Below W.heap.size W w') := Lib.hid (fun W => by
    rw [hVX]
    refine (head64_any (h46 p F T hF hT) (.slice none 0 0) p.a0 p.a1 p.a2 p.a3 p.b0 p.b1 p.b2 p.b3 id W (nil_exs W) (Nat.zero_le _) (show p.data.size ≤ _ by omega)).mono ?_
    rintro e w' ⟨x, rfl, her, b⟩
    rcases her with ⟨_, rfl⟩ | ⟨h, _⟩
    · exact ⟨by rw [hVQ, hout64_ok hc6, hq], b⟩
    · exact absurd hc6 h)
  have HEV_VQ : Hid (∀ W, (binOp .eql 25 (.agg VQ.toArray) (.agg VQ.toArray)).run Try.prog W = .ok (.bool true) W) := Lib.hid (fun W => by rw [hVQ]; exact P4.eqlP (⟨p.tos, id, p.ttl - 2, p.proto, p.pl, false, false, p.a0, p.a1, p.a2, p.a3, p.b0, p.b1, p.b2, p.b3, ⟨#[]⟩, p.data⟩) W)
  have HI_VQ : Hid ((Try.prog.info? 25).map (·.size) = some VQ.length) := Lib.hid (by rw [hVQ]; exact P4.Try.infoIp _)
  have HO_VQ : Hid ((VQ).toArray.all (·.oneCell') = true) := Lib.hid (by rw [hVQ]; exact P4.vals_one _)
  have HL_VQ : Hid (VQ.length = 17) := Lib.hid (by rw [hVQ]; rfl)
  obtain ⟨Y1, hY1⟩ : ∃ V, V = ((⟨p.tos, p.id, (p.ttl - 2), p.proto, p.pl, p.df, p.more, p.a0, p.a1, p.a2, p.a3, p.b0, p.b1, p.b2, p.b3, p.opts, p.data⟩ : P4.Pkt).vals) := ⟨_, rfl⟩
  have HI_Y1 : Hid ((Try.prog.info? 25).map (·.size) = some Y1.length) := Lib.hid (by rw [hY1]; exact P4.Try.infoIp _)
  have HO_Y1 : Hid ((Y1).toArray.all (·.oneCell') = true) := Lib.hid (by rw [hY1]; exact P4.vals_one _)
  have HL_Y1 : Hid (Y1.length = 17) := Lib.hid (by rw [hY1]; rfl)
  have HE1 : Hid (p.vals.set 2 (.int .i64 (p.ttl - 2)) = Y1) := Lib.hid (by rw [hY1]; rfl)
  obtain ⟨Y2, hY2⟩ : ∃ V, V = ((⟨p.tos, p.id, (p.ttl - 2), p.proto, p.pl, p.df, p.more, p.a0, p.a1, p.a2, p.a3, p.b0, p.b1, p.b2, p.b3, ⟨#[]⟩, p.data⟩ : P4.Pkt).vals) := ⟨_, rfl⟩
  have HI_Y2 : Hid ((Try.prog.info? 25).map (·.size) = some Y2.length) := Lib.hid (by rw [hY2]; exact P4.Try.infoIp _)
  have HO_Y2 : Hid ((Y2).toArray.all (·.oneCell') = true) := Lib.hid (by rw [hY2]; exact P4.vals_one _)
  have HL_Y2 : Hid (Y2.length = 17) := Lib.hid (by rw [hY2]; rfl)
  have HE2 : Hid (Y1.set 15 (.string ⟨#[]⟩) = Y2) := Lib.hid (by rw [hY1, hY2]; rfl)
  obtain ⟨Y3, hY3⟩ : ∃ V, V = ((⟨p.tos, p.id, (p.ttl - 2), p.proto, p.pl, false, p.more, p.a0, p.a1, p.a2, p.a3, p.b0, p.b1, p.b2, p.b3, ⟨#[]⟩, p.data⟩ : P4.Pkt).vals) := ⟨_, rfl⟩
  have HI_Y3 : Hid ((Try.prog.info? 25).map (·.size) = some Y3.length) := Lib.hid (by rw [hY3]; exact P4.Try.infoIp _)
  have HO_Y3 : Hid ((Y3).toArray.all (·.oneCell') = true) := Lib.hid (by rw [hY3]; exact P4.vals_one _)
  have HL_Y3 : Hid (Y3.length = 17) := Lib.hid (by rw [hY3]; rfl)
  have HE3 : Hid (Y2.set 5 (.bool false) = Y3) := Lib.hid (by rw [hY2, hY3]; rfl)
  obtain ⟨Y4, hY4⟩ : ∃ V, V = ((⟨p.tos, p.id, (p.ttl - 2), p.proto, p.pl, false, p.more, p.a0, p.a1, p.a2, p.a3, p.b0, p.b1, p.b2, p.b3, ⟨#[]⟩, p.data⟩ : P4.Pkt).vals) := ⟨_, rfl⟩
  have HI_Y4 : Hid ((Try.prog.info? 25).map (·.size) = some Y4.length) := Lib.hid (by rw [hY4]; exact P4.Try.infoIp _)
  have HO_Y4 : Hid ((Y4).toArray.all (·.oneCell') = true) := Lib.hid (by rw [hY4]; exact P4.vals_one _)
  have HL_Y4 : Hid (Y4.length = 17) := Lib.hid (by rw [hY4]; rfl)
  have HE4 : Hid (Y3.set 5 (.bool false) = Y4) := Lib.hid (by rw [hY3, hY4]; rfl)
  have HE5 : Hid (Y4.set 1 (.int .i64 id) = VQ) := Lib.hid (by rw [hY4, hVQ, ← hm]; rfl)
  have HC_VQ_5 : Hid (VQ[5]? = some (.bool false)) := Lib.hid (by rw [hVQ]; rfl)
  clear hVQ hq hc6 hY1 hY2 hY3 hY4
  have HI_VX : Hid ((Try.prog.info? 35).map (·.size) = some (VX).length) := Lib.hid (by rw [hVX]; exact Try.info6 _ _)
  have HO_VX : Hid ((VX).toArray.all (·.oneCell') = true) := Lib.hid (by rw [hVX]; exact vals_one _ _ rfl)
  have HL_VX : Hid ((VX).length = 42) := Lib.hid (by rw [hVX]; exact vals_len _ _)
  have HRG : Hid (∀ (W : World) (b : Nat), Bk W b 25 p.vals.toArray → W.rangeAt b 7 ([.int .u8 p.a0, .int .u8 p.a1, .int .u8 p.a2, .int .u8 p.a3] : List Value) ∧ W.rangeAt b 11 ([.int .u8 p.b0, .int .u8 p.b1, .int .u8 p.b2, .int .u8 p.b3] : List Value)) := Lib.hid (fun W b h => pkt_ranges p h)
  have HI_VA : Hid ((Try.prog.info? 23).map (·.size) = some (([.int .u8 p.a0, .int .u8 p.a1, .int .u8 p.a2, .int .u8 p.a3] : List Value)).length) := Lib.hid (Try.infoV4c _ _ _ _)
  have HI_VB : Hid ((Try.prog.info? 23).map (·.size) = some (([.int .u8 p.b0, .int .u8 p.b1, .int .u8 p.b2, .int .u8 p.b3] : List Value)).length) := Lib.hid (Try.infoV4c _ _ _ _)
  generalize ([.int .u8 p.a0, .int .u8 p.a1, .int .u8 p.a2, .int .u8 p.a3] : List Value) = VA at *
  generalize ([.int .u8 p.b0, .int .u8 p.b1, .int .u8 p.b2, .int .u8 p.b3] : List Value) = VB at *
  clear hVX hh hpr
  have HM := Lib.hid hm
  clear hm
  have HL := Lib.hid hl
  clear hl
  have HI_VP : Hid ((Try.prog.info? 25).map (·.size) = some (p.vals).length) := Lib.hid (P4.Try.infoIp _)
  have HO_VP : Hid ((p.vals).toArray.all (·.oneCell') = true) := Lib.hid (P4.vals_one _)
  have HL_VP : Hid ((p.vals).length = 17) := Lib.hid rfl
  have HI_VF : Hid ((Try.prog.info? 32).map (·.size) = some (bytV F).length) := Lib.hid (Try.infoV6 _ hF)
  have HO_VF : Hid ((bytV F).toArray.all (·.oneCell') = true) := Lib.hid (by rw [List.all_toArray, List.all_eq_true]; exact bytV_one _)
  have HL_VF : Hid ((bytV F).length = 16) := Lib.hid (by rw [bytV_len]; exact hF)
  have HI_VT : Hid ((Try.prog.info? 32).map (·.size) = some (bytV T).length) := Lib.hid (Try.infoV6 _ hT)
  have HO_VT : Hid ((bytV T).toArray.all (·.oneCell') = true) := Lib.hid (by rw [List.all_toArray, List.all_eq_true]; exact bytV_one _)
  have HL_VT : Hid ((bytV T).length = 16) := Lib.hid (by rw [bytV_len]; exact hT)
  have HC_VP_0 : Hid (p.vals[0]? = some (.int .i64 p.tos)) := Lib.hid rfl
  have HC_VP_1 : Hid (p.vals[1]? = some (.int .i64 p.id)) := Lib.hid rfl
  have HC_VP_2 : Hid (p.vals[2]? = some (.int .i64 p.ttl)) := Lib.hid rfl
  have HC_VP_3 : Hid (p.vals[3]? = some (.int .i64 p.proto)) := Lib.hid rfl
  have HC_VP_4 : Hid (p.vals[4]? = some (.int .i64 p.pl)) := Lib.hid rfl
  have HC_VP_5 : Hid (p.vals[5]? = some (.bool p.df)) := Lib.hid rfl
  have HC_VP_6 : Hid (p.vals[6]? = some (.bool p.more)) := Lib.hid rfl
  have HC_VP_15 : Hid (p.vals[15]? = some (.string p.opts)) := Lib.hid rfl
  have HC_VP_16 : Hid (p.vals[16]? = some (.string p.data)) := Lib.hid rfl
  have HK1 : Hid (Kp w w.heap.size [(w.heap.size + 1 + 1, 32, bytV T), (w.heap.size + 1, 32, bytV F), (w.heap.size, 25, p.vals)] (((w.alloc (.cells p.vals.toArray 25)).alloc (.cells (bytV F).toArray 32)).alloc (.cells (bytV T).toArray 32))) := Lib.hid (by
    have h := ((Kp.start w).new 25 p.vals).new 32 (bytV F)
    have e1 : (w.alloc (.cells p.vals.toArray 25)).heap.size = w.heap.size + 1 := by simp
    have e2 : ((w.alloc (.cells p.vals.toArray 25)).alloc (.cells (bytV F).toArray 32)).heap.size = w.heap.size + 1 + 1 := by simp
    rw [e1] at h
    have h2 := h.new 32 (bytV T)
    rwa [e2] at h2)
  generalize p.vals = VP at *
  generalize bytV F = VF at *
  generalize bytV T = VT at *
  generalize hw1 : ((w.alloc (.cells VP.toArray 25)).alloc (.cells VF.toArray 32)).alloc (.cells VT.toArray 32) = w1 at *
  go_enter Try.func6, Try.ntmps6
  go_upto_region 1 with (fail)
  clear hw1
  go_wp2_with (fail)
  refine (awake64_true _).mono ?_
  rintro e w2 ⟨rfl, bb⟩
  have HK2 := Lib.hid (HK1.out.below bb (Nat.le_refl _))
  clear bb HK1
  have c16 : w2.cell? ⟨w.heap.size, 16, none⟩ = some (.string p.data) := HK2.out.tl.tl.hd.at HC_VP_16.out
  have c15 : w2.cell? ⟨w.heap.size, 15, none⟩ = some (.string p.opts) := HK2.out.tl.tl.hd.at HC_VP_15.out
  have c4 : w2.cell? ⟨w.heap.size, 4, none⟩ = some (.int .i64 p.pl) := HK2.out.tl.tl.hd.at HC_VP_4.out
  have c1 : w2.cell? ⟨w.heap.size, 1, none⟩ = some (.int .i64 p.id) := HK2.out.tl.tl.hd.at HC_VP_1.out
  go_upto_region 5 with (fail)
  clear c16 c15 c4 c1
  have hr0 := HK2.out.tl.tl.hd.range
  have hr1 := HK2.out.tl.hd.range
  have hr2 := HK2.out.hd.range
  go_wp2_with (((with_reducible (change wpList _ _ _ _ _ _)); (first | (refine wpList_load_mid rfl 25 _ rfl (w.heap.size) 0 rfl (VP) _ hr0 Try.underlying25 rfl HI_VP.out ?_) | (refine wpList_load_mid rfl 32 _ rfl (w.heap.size + 1) 0 rfl (VF) _ hr1 Try.underlying32 rfl HI_VF.out ?_) | (refine wpList_load_mid rfl 32 _ rfl (w.heap.size + 1 + 1) 0 rfl (VT) _ hr2 Try.underlying32 rfl HI_VT.out ?_))))
  clear hr0 hr1 hr2
  refine (CH.out _).mono ?_
  rintro e w3 ⟨rfl, bb⟩
  have HK3 := Lib.hid (HK2.out.below bb (Nat.le_refl _))
  clear bb HK2
  have ht := (bk_new w3 35 ([.int .i64 0, .int .i64 0, .int .i64 0, .int .u8 0, .int .u8 0, .int .u8 0, .int .u8 0, .int .u8 0, .int .u8 0, .int .u8 0, .int .u8 0, .int .u8 0, .int .u8 0, .int .u8 0, .int .u8 0, .int .u8 0, .int .u8 0, .int .u8 0, .int .u8 0, .int .u8 0, .int .u8 0, .int .u8 0, .int .u8 0, .int .u8 0, .int .u8 0, .int .u8 0, .int .u8 0, .int .u8 0, .int .u8 0, .int .u8 0, .int .u8 0, .int .u8 0, .int .u8 0, .int .u8 0, .int .u8 0, .slice none 0 0, .bool false, .int .u32 0, .int .i64 0, .bool false, .int .i64 0, .string ⟨#[]⟩] : List Value).toArray).there VX.toArray.size (by have := HL_VX.out; simp; omega)
  go_upto_region 6 with (((with_reducible (change wpList _ _ _ _ _ _)); ((refine wpList_store_mid rfl 35 _ _ rfl (w3.heap.size) 0 VX.toArray rfl rfl ht (by simpa using HI_VX.out) HO_VX.out ?_))))
  have HK4 := Lib.hid (HK3.out.put 35 ([.int .i64 0, .int .i64 0, .int .i64 0, .int .u8 0, .int .u8 0, .int .u8 0, .int .u8 0, .int .u8 0, .int .u8 0, .int .u8 0, .int .u8 0, .int .u8 0, .int .u8 0, .int .u8 0, .int .u8 0, .int .u8 0, .int .u8 0, .int .u8 0, .int .u8 0, .int .u8 0, .int .u8 0, .int .u8 0, .int .u8 0, .int .u8 0, .int .u8 0, .int .u8 0, .int .u8 0, .int .u8 0, .int .u8 0, .int .u8 0, .int .u8 0, .int .u8 0, .int .u8 0, .int .u8 0, .int .u8 0, .slice none 0 0, .bool false, .int .u32 0, .int .i64 0, .bool false, .int .i64 0, .string ⟨#[]⟩] : List Value).toArray VX (by have := HL_VX.out; simp; omega))
  clear ht HK3
  generalize (w3.alloc (.cells ([.int .i64 0, .int .i64 0, .int .i64 0, .int .u8 0, .int .u8 0, .int .u8 0, .int .u8 0, .int .u8 0, .int .u8 0, .int .u8 0, .int .u8 0, .int .u8 0, .int .u8 0, .int .u8 0, .int .u8 0, .int .u8 0, .int .u8 0, .int .u8 0, .int .u8 0, .int .u8 0, .int .u8 0, .int .u8 0, .int .u8 0, .int .u8 0, .int .u8 0, .int .u8 0, .int .u8 0, .int .u8 0, .int .u8 0, .int .u8 0, .int .u8 0, .int .u8 0, .int .u8 0, .int .u8 0, .int .u8 0, .slice none 0 0, .bool false, .int .u32 0, .int .i64 0, .bool false, .int .i64 0, .string ⟨#[]⟩] : List Value).toArray 35)).setCells w3.heap.size 0 VX = w4 at *
  generalize w3.heap.size = g9 at *
  go_upto_region 8 with (fail)
  have hr0 := HK4.out.hd.range
  have rA := (HRG.out _ _ HK4.out.tl.tl.tl.hd).1
  have rB := (HRG.out _ _ HK4.out.tl.tl.tl.hd).2
  have kid : IntKind.i64.wrap id = id := IntWalk.i64_in _ (by omega)
  go_wp2_with (((with_reducible (change wpList _ _ _ _ _ _)); (first | (refine wpList_load_mid rfl 35 _ rfl (g9) 0 rfl (VX) _ hr0 Try.underlying35 rfl HI_VX.out ?_) | (refine wpList_load_mid rfl 23 _ rfl (w.heap.size) 7 rfl (VA) _ rA Try.underlying23 rfl HI_VA.out ?_) | (refine wpList_load_mid rfl 23 _ rfl (w.heap.size) 11 rfl (VB) _ rB Try.underlying23 rfl HI_VB.out ?_))))
  clear hr0 rA rB
  refine (CG.out _).mono ?_
  rintro e w5 ⟨rfl, bb⟩
  have HK5 := Lib.hid (HK4.out.below bb (Nat.le_refl _))
  clear bb HK4
  have ht := (bk_new w5 25 ([.int .i64 0, .int .i64 0, .int .i64 0, .int .i64 0, .int .i64 0, .bool false, .bool false, .int .u8 0, .int .u8 0, .int .u8 0, .int .u8 0, .int .u8 0, .int .u8 0, .int .u8 0, .int .u8 0, .string ⟨#[]⟩, .string ⟨#[]⟩] : List Value).toArray).there VQ.toArray.size (by have := HL_VQ.out; simp; omega)
  go_upto_region 9 with (((with_reducible (change wpList _ _ _ _ _ _)); ((refine wpList_store_mid rfl 25 _ _ rfl (w5.heap.size) 0 VQ.toArray rfl rfl ht (by simpa using HI_VQ.out) HO_VQ.out ?_))))
  have HK6 := Lib.hid (HK5.out.put 25 ([.int .i64 0, .int .i64 0, .int .i64 0, .int .i64 0, .int .i64 0, .bool false, .bool false, .int .u8 0, .int .u8 0, .int .u8 0, .int .u8 0, .int .u8 0, .int .u8 0, .int .u8 0, .int .u8 0, .string ⟨#[]⟩, .string ⟨#[]⟩] : List Value).toArray VQ (by have := HL_VQ.out; simp; omega))
  clear ht HK5
  generalize (w5.alloc (.cells ([.int .i64 0, .int .i64 0, .int .i64 0, .int .i64 0, .int .i64 0, .bool false, .bool false, .int .u8 0, .int .u8 0, .int .u8 0, .int .u8 0, .int .u8 0, .int .u8 0, .int .u8 0, .int .u8 0, .string ⟨#[]⟩, .string ⟨#[]⟩] : List Value).toArray 25)).setCells w5.heap.size 0 VQ = w6 at *
  generalize w5.heap.size = g11 at *
  have c2 : w6.cell? ⟨w.heap.size, 2, none⟩ = some (.int .i64 p.ttl) := HK6.out.tl.tl.tl.tl.hd.at HC_VP_2.out
  go_upto_region 13 with (fail)
  clear c2
  have HG11 : Hid (g11 < w6.heap.size ∧ g9 < w6.heap.size ∧ w.heap.size + 1 + 1 < w6.heap.size) := Lib.hid ⟨HK6.out.hd.lt, HK6.out.tl.hd.lt, HK6.out.tl.tl.hd.lt⟩
  have hr0 := HK6.out.tl.tl.tl.tl.hd.range
  have ht := (bk_new w6 25 ([.int .i64 0, .int .i64 0, .int .i64 0, .int .i64 0, .int .i64 0, .bool false, .bool false, .int .u8 0, .int .u8 0, .int .u8 0, .int .u8 0, .int .u8 0, .int .u8 0, .int .u8 0, .int .u8 0, .string ⟨#[]⟩, .string ⟨#[]⟩] : List Value).toArray).there VP.toArray.size (by have := HL_VP.out; simp; omega)
  go_upto_region 14 with (((with_reducible (change wpList _ _ _ _ _ _)); (first | (refine wpList_load_mid rfl 25 _ rfl (w.heap.size) 0 rfl (VP) _ hr0 Try.underlying25 rfl HI_VP.out ?_) | (refine wpList_store_mid rfl 25 _ _ rfl (w6.heap.size) 0 VP.toArray rfl rfl ht (by simpa using HI_VP.out) HO_VP.out ?_))))
  have HK7 := Lib.hid (HK6.out.put 25 ([.int .i64 0, .int .i64 0, .int .i64 0, .int .i64 0, .int .i64 0, .bool false, .bool false, .int .u8 0, .int .u8 0, .int .u8 0, .int .u8 0, .int .u8 0, .int .u8 0, .int .u8 0, .int .u8 0, .string ⟨#[]⟩, .string ⟨#[]⟩] : List Value).toArray VP (by have := HL_VP.out; simp; omega))
  clear ht HK6
  generalize (w6.alloc (.cells ([.int .i64 0, .int .i64 0, .int .i64 0, .int .i64 0, .int .i64 0, .bool false, .bool false, .int .u8 0, .int .u8 0, .int .u8 0, .int .u8 0, .int .u8 0, .int .u8 0, .int .u8 0, .int .u8 0, .string ⟨#[]⟩, .string ⟨#[]⟩] : List Value).toArray 25)).setCells w6.heap.size 0 VP = w7 at *
  generalize w6.heap.size = g13 at *
  clear hr0
  have hne : ∀ x ∈ ([(g11, 25, VQ), (g9, 35, VX), (w.heap.size + 1 + 1, 32, VT), (w.heap.size + 1, 32, VF), (w.heap.size, 25, VP)] : List (Nat × TypeId × List Value)), x.1 ≠ g13 := by
    have hg := HG11.out
    intro x hx
    simp only [List.mem_cons, List.not_mem_nil, or_false] at hx
    rcases hx with rfl | rfl | rfl | rfl | rfl <;> (show _ ≠ g13; omega)
  have hgB : w.heap.size ≤ g13 := by have := HG11.out; omega
  have HNE := Lib.hid (And.intro hne hgB)
  clear hne hgB
  have c2 : w7.cell? ⟨w.heap.size, 2, none⟩ = some (.int .i64 p.ttl) := HK7.out.tl.tl.tl.tl.tl.hd.at HC_VP_2.out
  have kw : IntKind.i64.wrap (p.ttl - 2) = p.ttl - 2 := IntWalk.i64_in _ (by omega)
  obtain ⟨uu, hu, hz⟩ := HK7.out.some1 2 (by have := HL_VP.out; omega)
  go_upto_region 15 with (fail)
  have hk := HK7.out.set1 HNE.out.1 HNE.out.2 2 (.int .i64 (p.ttl - 2))
  rw [HE1.out] at hk
  have HK8 := Lib.hid hk
  clear hk hu hz HK7 c2 kw
  generalize w7.setCell ⟨g13, 2, none⟩ (.int .i64 (p.ttl - 2)) = w8 at *
  obtain ⟨uu, hu, hz⟩ := HK8.out.some1 15 (by have := HL_Y1.out; omega)
  go_upto_region 16 with (fail)
  have hk := HK8.out.set1 HNE.out.1 HNE.out.2 15 (.string ⟨#[]⟩)
  rw [HE2.out] at hk
  have HK9 := Lib.hid hk
  clear hk hu hz HK8 
  generalize w8.setCell ⟨g13, 15, none⟩ (.string ⟨#[]⟩) = w9 at *
  obtain ⟨uu, hu, hz⟩ := HK9.out.some1 5 (by have := HL_Y2.out; omega)
  go_upto_region 17 with (fail)
  have hk := HK9.out.set1 HNE.out.1 HNE.out.2 5 (.bool false)
  rw [HE3.out] at hk
  have HK10 := Lib.hid hk
  clear hk hu hz HK9 
  generalize w9.setCell ⟨g13, 5, none⟩ (.bool false) = w10 at *
  have c16 : w10.cell? ⟨w.heap.size, 16, none⟩ = some (.string p.data) := HK10.out.tl.tl.tl.tl.tl.hd.at HC_VP_16.out
  have c6 : w10.cell? ⟨w.heap.size, 6, none⟩ = some (.bool false) := HK10.out.tl.tl.tl.tl.tl.hd.at (by rw [HC_VP_6.out, HM.out])
  have c4 : w10.cell? ⟨w.heap.size, 4, none⟩ = some (.int .i64 0) := HK10.out.tl.tl.tl.tl.tl.hd.at (by rw [HC_VP_4.out, HL.out])
  have hs2 : ¬ (1240 : Int) < (p.data.size : Int) := by omega
  go_upto_region 18 with (fail)
  clear c6 c4
  obtain ⟨uu, hu, hz⟩ := HK10.out.some1 5 (by have := HL_Y3.out; omega)
  go_upto_region 19 with (fail)
  have hk := HK10.out.set1 HNE.out.1 HNE.out.2 5 (.bool false)
  rw [HE4.out] at hk
  have HK11 := Lib.hid hk
  clear hk hu hz HK10 c16
  generalize w10.setCell ⟨g13, 5, none⟩ (.bool false) = w11 at *
  obtain ⟨uu, hu, hz⟩ := HK11.out.some1 1 (by have := HL_Y4.out; omega)
  go_upto_region 20 with (fail)
  have hk := HK11.out.set1 HNE.out.1 HNE.out.2 1 (.int .i64 id)
  rw [HE5.out] at hk
  have HK12 := Lib.hid hk
  clear hk hu hz HK11 
  generalize w11.setCell ⟨g13, 1, none⟩ (.int .i64 id) = w12 at *
  have d5 : w12.cell? ⟨g13, 5, none⟩ = some (.bool false) := HK12.out.hd.at HC_VQ_5.out
  go_upto_region 22 with (fail)
  have heq := HEV_VQ.out
  have hr0 := HK12.out.tl.hd.range
  have hr1 := HK12.out.hd.range
  go_wp2_with (((with_reducible (change wpList _ _ _ _ _ _)); (first | (refine wpList_load_mid rfl 25 _ rfl (g11) 0 rfl (VQ) _ hr0 Try.underlying25 rfl HI_VQ.out ?_) | (refine wpList_load_mid rfl 25 _ rfl (g13) 0 rfl (VQ) _ hr1 Try.underlying25 rfl HI_VQ.out ?_))))
  go_ret
  exact ⟨rfl, HK12.out.2.1⟩
set_option maxRecDepth 100000 in
set_option maxHeartbeats 4000000 in
theorem again64_wb (p : P4.Pkt) (F T : List UInt8) (hF : F.length = 16) (hT : T.length = 16) (id : Int) (w : World) (n0 : ¬ ((70000 : Int) < (p.data.size : Int))) (n1 : ¬ ((1000 : Int) < (p.opts.size : Int))) (n2 : ¬ (p.pl < 0)) (n3 : ¬ (p.id < 0)) (n4 : ¬ (65535 < p.id)) (ii : 0 ≤ id ∧ id ≤ 65535) (hh : hcode p = 0) (h3 : ¬ p.ttl < 3) (hz : p.pl ≤ 65515 - (p.data.size : Int)) (hm : p.more = false) (hl : p.pl = 0) (hs : ¬ (p.data.size : Int) ≤ 1240) :
    Calls Try.prog 6 #[.agg p.vals.toArray, .agg (bytV F).toArray, .agg (bytV T).toArray, .int .u16 id] w (fun e w' => e = .returned (.bool true) ∧ Below w.heap.size w w') := by
  obtain ⟨t0, t1, s0, s1, hpr, _⟩ := hcode_ok hh
  obtain ⟨VX, hVX⟩ : ∃ V, V = (h46 p F T hF hT).vals (.slice none 0 0) := ⟨_, rfl⟩
  have CH : Hid (∀ W, Calls Try.prog 21 #[.agg p.vals.toArray, .agg (bytV F).toArray, .agg (bytV T).toArray] W fun e w' =>  e = .returned (.tuple #[.agg VX.toArray, .nilIface]) ∧ Below W.heap.size W w') := Lib.hid (fun W => by
    refine (head_any p F T hF hT W).mono ?_
    rintro e w' ⟨x, rfl, her, b⟩
    rcases her with ⟨_, rfl⟩ | ⟨h, _⟩
    · exact ⟨by rw [hVX, hout_ok hh], b⟩
    · exact absurd hh h)
  have hc6 : hcode64 (h46 p F T hF hT) id = 0 := by rw [back_code hh (by omega) ii, if_neg (by omega)]
  have hq : h64 (h46 p F T hF hT) p.a0 p.a1 p.a2 p.a3 p.b0 p.b1 p.b2 p.b3 id = ⟨p.tos, 0, p.ttl - 2, p.proto, p.pl, true, false, p.a0, p.a1, p.a2, p.a3, p.b0, p.b1, p.b2, p.b3, ⟨#[]⟩, p.data⟩ := by rw [back_whole hpr hm hl, hm, if_neg (by omega), show decide (1240 < p.data.size) = true by rw [decide_eq_true_iff]; omega]
  obtain ⟨VQ, hVQ⟩ : ∃ V, V = (⟨p.tos, 0, p.ttl - 2, p.proto, p.pl, true, false, p.a0, p.a1, p.a2, p.a3, p.b0, p.b1, p.b2, p.b3, ⟨#[]⟩, p.data⟩ : P4.Pkt).vals := ⟨_, rfl⟩
  have CG : Hid (∀ W, Calls Try.prog 9 #[.agg VX.toArray, .agg ([.int .u8 p.a0, .int .u8 p.a1, .int .u8 p.a2, .int .u8 p.a3] : List Value).toArray, .agg ([.int .u8 p.b0, .int .u8 p.b1, .int .u8 p.b2, .int .u8 p.b3] : List Value).toArray, .int .i64 id] W fun e w' =>  e = .returned (.tuple #[.agg VQ.toArray, .nilIface]) ∧ Below W.heap.size W w') := Lib.hid (fun W => by
    rw [hVX]
    refine (head64_any (h46 p F T hF hT) (.slice none 0 0) p.a0 p.a1 p.a2 p.a3 p.b0 p.b1 p.b2 p.b3 id W (nil_exs W) (Nat.zero_le _) (show p.data.size ≤ _ by omega)).mono ?_
    rintro e w' ⟨x, rfl, her, b⟩
    rcases her with ⟨_, rfl⟩ | ⟨h, _⟩
    · exact ⟨by rw [hVQ, hout64_ok hc6, hq], b⟩
    · exact absurd hc6 h)
  have HEV_VQ : Hid (∀ W, (binOp .eql 25 (.agg VQ.toArray) (.agg VQ.toArray)).run Try.prog W = .ok (.bool true) W) := Lib.hid (fun W => by rw [hVQ]; exact P4.eqlP (⟨p.tos, 0, p.ttl - 2, p.proto, p.pl, true, false, p.a0, p.a1, p.a2, p.a3, p.b0, p.b1, p.b2, p.b3, ⟨#[]⟩, p.data⟩) W)
  have HI_VQ : Hid ((Try.prog.info? 25).map (·.size) = some VQ.length) := Lib.hid (by rw [hVQ]; exact P4.Try.infoIp _)
  have HO_VQ : Hid ((VQ).toArray.all (·.oneCell') = true) := Lib.hid (by rw [hVQ]; exact P4.vals_one _)
  have HL_VQ : Hid (VQ.length = 17) := Lib.hid (by rw [hVQ]; rfl)
  obtain ⟨Y1, hY1⟩ : ∃ V, V = ((⟨p.tos, p.id, (p.ttl - 2), p.proto, p.pl, p.df, p.more, p.a0, p.a1, p.a2, p.a3, p.b0, p.b1, p.b2, p.b3, p.opts, p.data⟩ : P4.Pkt).vals) := ⟨_, rfl⟩
  have HI_Y1 : Hid ((Try.prog.info? 25).map (·.size) = some Y1.length) := Lib.hid (by rw [hY1]; exact P4.Try.infoIp _)
  have HO_Y1 : Hid ((Y1).toArray.all (·.oneCell') = true) := Lib.hid (by rw [hY1]; exact P4.vals_one _)
  have HL_Y1 : Hid (Y1.length = 17) := Lib.hid (by rw [hY1]; rfl)
  have HE1 : Hid (p.vals.set 2 (.int .i64 (p.ttl - 2)) = Y1) := Lib.hid (by rw [hY1]; rfl)
  obtain ⟨Y2, hY2⟩ : ∃ V, V = ((⟨p.tos, p.id, (p.ttl - 2), p.proto, p.pl, p.df, p.more, p.a0, p.a1, p.a2, p.a3, p.b0, p.b1, p.b2, p.b3, ⟨#[]⟩, p.data⟩ : P4.Pkt).vals) := ⟨_, rfl⟩
  have HI_Y2 : Hid ((Try.prog.info? 25).map (·.size) = some Y2.length) := Lib.hid (by rw [hY2]; exact P4.Try.infoIp _)
  have HO_Y2 : Hid ((Y2).toArray.all (·.oneCell') = true) := Lib.hid (by rw [hY2]; exact P4.vals_one _)
  have HL_Y2 : Hid (Y2.length = 17) := Lib.hid (by rw [hY2]; rfl)
  have HE2 : Hid (Y1.set 15 (.string ⟨#[]⟩) = Y2) := Lib.hid (by rw [hY1, hY2]; rfl)
  obtain ⟨Y3, hY3⟩ : ∃ V, V = ((⟨p.tos, p.id, (p.ttl - 2), p.proto, p.pl, false, p.more, p.a0, p.a1, p.a2, p.a3, p.b0, p.b1, p.b2, p.b3, ⟨#[]⟩, p.data⟩ : P4.Pkt).vals) := ⟨_, rfl⟩
  have HI_Y3 : Hid ((Try.prog.info? 25).map (·.size) = some Y3.length) := Lib.hid (by rw [hY3]; exact P4.Try.infoIp _)
  have HO_Y3 : Hid ((Y3).toArray.all (·.oneCell') = true) := Lib.hid (by rw [hY3]; exact P4.vals_one _)
  have HL_Y3 : Hid (Y3.length = 17) := Lib.hid (by rw [hY3]; rfl)
  have HE3 : Hid (Y2.set 5 (.bool false) = Y3) := Lib.hid (by rw [hY2, hY3]; rfl)
  obtain ⟨Y4, hY4⟩ : ∃ V, V = ((⟨p.tos, p.id, (p.ttl - 2), p.proto, p.pl, true, p.more, p.a0, p.a1, p.a2, p.a3, p.b0, p.b1, p.b2, p.b3, ⟨#[]⟩, p.data⟩ : P4.Pkt).vals) := ⟨_, rfl⟩
  have HI_Y4 : Hid ((Try.prog.info? 25).map (·.size) = some Y4.length) := Lib.hid (by rw [hY4]; exact P4.Try.infoIp _)
  have HO_Y4 : Hid ((Y4).toArray.all (·.oneCell') = true) := Lib.hid (by rw [hY4]; exact P4.vals_one _)
  have HL_Y4 : Hid (Y4.length = 17) := Lib.hid (by rw [hY4]; rfl)
  have HE4 : Hid (Y3.set 5 (.bool true) = Y4) := Lib.hid (by rw [hY3, hY4]; rfl)
  obtain ⟨Y5, hY5⟩ : ∃ V, V = ((⟨p.tos, id, (p.ttl - 2), p.proto, p.pl, true, p.more, p.a0, p.a1, p.a2, p.a3, p.b0, p.b1, p.b2, p.b3, ⟨#[]⟩, p.data⟩ : P4.Pkt).vals) := ⟨_, rfl⟩
  have HI_Y5 : Hid ((Try.prog.info? 25).map (·.size) = some Y5.length) := Lib.hid (by rw [hY5]; exact P4.Try.infoIp _)
  have HO_Y5 : Hid ((Y5).toArray.all (·.oneCell') = true) := Lib.hid (by rw [hY5]; exact P4.vals_one _)
  have HL_Y5 : Hid (Y5.length = 17) := Lib.hid (by rw [hY5]; rfl)
  have HE5 : Hid (Y4.set 1 (.int .i64 id) = Y5) := Lib.hid (by rw [hY4, hY5]; rfl)
  have HE6 : Hid (Y5.set 1 (.int .i64 0) = VQ) := Lib.hid (by rw [hY5, hVQ, ← hm]; rfl)
  have HC_Y5_5 : Hid (Y5[5]? = some (.bool true)) := Lib.hid (by rw [hY5]; rfl)
  clear hVQ hq hc6 hY1 hY2 hY3 hY4 hY5
  have HI_VX : Hid ((Try.prog.info? 35).map (·.size) = some (VX).length) := Lib.hid (by rw [hVX]; exact Try.info6 _ _)
  have HO_VX : Hid ((VX).toArray.all (·.oneCell') = true) := Lib.hid (by rw [hVX]; exact vals_one _ _ rfl)
  have HL_VX : Hid ((VX).length = 42) := Lib.hid (by rw [hVX]; exact vals_len _ _)
  have HRG : Hid (∀ (W : World) (b : Nat), Bk W b 25 p.vals.toArray → W.rangeAt b 7 ([.int .u8 p.a0, .int .u8 p.a1, .int .u8 p.a2, .int .u8 p.a3] : List Value) ∧ W.rangeAt b 11 ([.int .u8 p.b0, .int .u8 p.b1, .int .u8 p.b2, .int .u8 p.b3] : List Value)) := Lib.hid (fun W b h => pkt_ranges p h)
  have HI_VA : Hid ((Try.prog.info? 23).map (·.size) = some (([.int .u8 p.a0, .int .u8 p.a1, .int .u8 p.a2, .int .u8 p.a3] : List Value)).length) := Lib.hid (Try.infoV4c _ _ _ _)
  have HI_VB : Hid ((Try.prog.info? 23).map (·.size) = some (([.int .u8 p.b0, .int .u8 p.b1, .int .u8 p.b2, .int .u8 p.b3] : List Value)).length) := Lib.hid (Try.infoV4c _ _ _ _)
  generalize ([.int .u8 p.a0, .int .u8 p.a1, .int .u8 p.a2, .int .u8 p.a3] : List Value) = VA at *
  generalize ([.int .u8 p.b0, .int .u8 p.b1, .int .u8 p.b2, .int .u8 p.b3] : List Value) = VB at *
  clear hVX hh hpr
  have HM := Lib.hid hm
  clear hm
  have HL := Lib.hid hl
  clear hl
  have HI_VP : Hid ((Try.prog.info? 25).map (·.size) = some (p.vals).length) := Lib.hid (P4.Try.infoIp _)
  have HO_VP : Hid ((p.vals).toArray.all (·.oneCell') = true) := Lib.hid (P4.vals_one _)
  have HL_VP : Hid ((p.vals).length = 17) := Lib.hid rfl
  have HI_VF : Hid ((Try.prog.info? 32).map (·.size) = some (bytV F).length) := Lib.hid (Try.infoV6 _ hF)
  have HO_VF : Hid ((bytV F).toArray.all (·.oneCell') = true) := Lib.hid (by rw [List.all_toArray, List.all_eq_true]; exact bytV_one _)
  have HL_VF : Hid ((bytV F).length = 16) := Lib.hid (by rw [bytV_len]; exact hF)
  have HI_VT : Hid ((Try.prog.info? 32).map (·.size) = some (bytV T).length) := Lib.hid (Try.infoV6 _ hT)
  have HO_VT : Hid ((bytV T).toArray.all (·.oneCell') = true) := Lib.hid (by rw [List.all_toArray, List.all_eq_true]; exact bytV_one _)
  have HL_VT : Hid ((bytV T).length = 16) := Lib.hid (by rw [bytV_len]; exact hT)
  have HC_VP_0 : Hid (p.vals[0]? = some (.int .i64 p.tos)) := Lib.hid rfl
  have HC_VP_1 : Hid (p.vals[1]? = some (.int .i64 p.id)) := Lib.hid rfl
  have HC_VP_2 : Hid (p.vals[2]? = some (.int .i64 p.ttl)) := Lib.hid rfl
  have HC_VP_3 : Hid (p.vals[3]? = some (.int .i64 p.proto)) := Lib.hid rfl
  have HC_VP_4 : Hid (p.vals[4]? = some (.int .i64 p.pl)) := Lib.hid rfl
  have HC_VP_5 : Hid (p.vals[5]? = some (.bool p.df)) := Lib.hid rfl
  have HC_VP_6 : Hid (p.vals[6]? = some (.bool p.more)) := Lib.hid rfl
  have HC_VP_15 : Hid (p.vals[15]? = some (.string p.opts)) := Lib.hid rfl
  have HC_VP_16 : Hid (p.vals[16]? = some (.string p.data)) := Lib.hid rfl
  have HK1 : Hid (Kp w w.heap.size [(w.heap.size + 1 + 1, 32, bytV T), (w.heap.size + 1, 32, bytV F), (w.heap.size, 25, p.vals)] (((w.alloc (.cells p.vals.toArray 25)).alloc (.cells (bytV F).toArray 32)).alloc (.cells (bytV T).toArray 32))) := Lib.hid (by
    have h := ((Kp.start w).new 25 p.vals).new 32 (bytV F)
    have e1 : (w.alloc (.cells p.vals.toArray 25)).heap.size = w.heap.size + 1 := by simp
    have e2 : ((w.alloc (.cells p.vals.toArray 25)).alloc (.cells (bytV F).toArray 32)).heap.size = w.heap.size + 1 + 1 := by simp
    rw [e1] at h
    have h2 := h.new 32 (bytV T)
    rwa [e2] at h2)
  generalize p.vals = VP at *
  generalize bytV F = VF at *
  generalize bytV T = VT at *
  generalize hw1 : ((w.alloc (.cells VP.toArray 25)).alloc (.cells VF.toArray 32)).alloc (.cells VT.toArray 32) = w1 at *
  go_enter Try.func6, Try.ntmps6
  go_upto_region 1 with (fail)
  clear hw1
  go_wp2_with (fail)
  refine (awake64_true _).mono ?_
  rintro e w2 ⟨rfl, bb⟩
  have HK2 := Lib.hid (HK1.out.below bb (Nat.le_refl _))
  clear bb HK1
  have c16 : w2.cell? ⟨w.heap.size, 16, none⟩ = some (.string p.data) := HK2.out.tl.tl.hd.at HC_VP_16.out
  have c15 : w2.cell? ⟨w.heap.size, 15, none⟩ = some (.string p.opts) := HK2.out.tl.tl.hd.at HC_VP_15.out
  have c4 : w2.cell? ⟨w.heap.size, 4, none⟩ = some (.int .i64 p.pl) := HK2.out.tl.tl.hd.at HC_VP_4.out
  have c1 : w2.cell? ⟨w.heap.size, 1, none⟩ = some (.int .i64 p.id) := HK2.out.tl.tl.hd.at HC_VP_1.out
  go_upto_region 5 with (fail)
  clear c16 c15 c4 c1
  have hr0 := HK2.out.tl.tl.hd.range
  have hr1 := HK2.out.tl.hd.range
  have hr2 := HK2.out.hd.range
  go_wp2_with (((with_reducible (change wpList _ _ _ _ _ _)); (first | (refine wpList_load_mid rfl 25 _ rfl (w.heap.size) 0 rfl (VP) _ hr0 Try.underlying25 rfl HI_VP.out ?_) | (refine wpList_load_mid rfl 32 _ rfl (w.heap.size + 1) 0 rfl (VF) _ hr1 Try.underlying32 rfl HI_VF.out ?_) | (refine wpList_load_mid rfl 32 _ rfl (w.heap.size + 1 + 1) 0 rfl (VT) _ hr2 Try.underlying32 rfl HI_VT.out ?_))))
  clear hr0 hr1 hr2
  refine (CH.out _).mono ?_
  rintro e w3 ⟨rfl, bb⟩
  have HK3 := Lib.hid (HK2.out.below bb (Nat.le_refl _))
  clear bb HK2
  have ht := (bk_new w3 35 ([.int .i64 0, .int .i64 0, .int .i64 0, .int .u8 0, .int .u8 0, .int .u8 0, .int .u8 0, .int .u8 0, .int .u8 0, .int .u8 0, .int .u8 0, .int .u8 0, .int .u8 0, .int .u8 0, .int .u8 0, .int .u8 0, .int .u8 0, .int .u8 0, .int .u8 0, .int .u8 0, .int .u8 0, .int .u8 0, .int .u8 0, .int .u8 0, .int .u8 0, .int .u8 0, .int .u8 0, .int .u8 0, .int .u8 0, .int .u8 0, .int .u8 0, .int .u8 0, .int .u8 0, .int .u8 0, .int .u8 0, .slice none 0 0, .bool false, .int .u32 0, .int .i64 0, .bool false, .int .i64 0, .string ⟨#[]⟩] : List Value).toArray).there VX.toArray.size (by have := HL_VX.out; simp; omega)
  go_upto_region 6 with (((with_reducible (change wpList _ _ _ _ _ _)); ((refine wpList_store_mid rfl 35 _ _ rfl (w3.heap.size) 0 VX.toArray rfl rfl ht (by simpa using HI_VX.out) HO_VX.out ?_))))
  have HK4 := Lib.hid (HK3.out.put 35 ([.int .i64 0, .int .i64 0, .int .i64 0, .int .u8 0, .int .u8 0, .int .u8 0, .int .u8 0, .int .u8 0, .int .u8 0, .int .u8 0, .int .u8 0, .int .u8 0, .int .u8 0, .int .u8 0, .int .u8 0, .int .u8 0, .int .u8 0, .int .u8 0, .int .u8 0, .int .u8 0, .int .u8 0, .int .u8 0, .int .u8 0, .int .u8 0, .int .u8 0, .int .u8 0, .int .u8 0, .int .u8 0, .int .u8 0, .int .u8 0, .int .u8 0, .int .u8 0, .int .u8 0, .int .u8 0, .int .u8 0, .slice none 0 0, .bool false, .int .u32 0, .int .i64 0, .bool false, .int .i64 0, .string ⟨#[]⟩] : List Value).toArray VX (by have := HL_VX.out; simp; omega))
  clear ht HK3
  generalize (w3.alloc (.cells ([.int .i64 0, .int .i64 0, .int .i64 0, .int .u8 0, .int .u8 0, .int .u8 0, .int .u8 0, .int .u8 0, .int .u8 0, .int .u8 0, .int .u8 0, .int .u8 0, .int .u8 0, .int .u8 0, .int .u8 0, .int .u8 0, .int .u8 0, .int .u8 0, .int .u8 0, .int .u8 0, .int .u8 0, .int .u8 0, .int .u8 0, .int .u8 0, .int .u8 0, .int .u8 0, .int .u8 0, .int .u8 0, .int .u8 0, .int .u8 0, .int .u8 0, .int .u8 0, .int .u8 0, .int .u8 0, .int .u8 0, .slice none 0 0, .bool false, .int .u32 0, .int .i64 0, .bool false, .int .i64 0, .string ⟨#[]⟩] : List Value).toArray 35)).setCells w3.heap.size 0 VX = w4 at *
  generalize w3.heap.size = g9 at *
  go_upto_region 8 with (fail)
  have hr0 := HK4.out.hd.range
  have rA := (HRG.out _ _ HK4.out.tl.tl.tl.hd).1
  have rB := (HRG.out _ _ HK4.out.tl.tl.tl.hd).2
  have kid : IntKind.i64.wrap id = id := IntWalk.i64_in _ (by omega)
  go_wp2_with (((with_reducible (change wpList _ _ _ _ _ _)); (first | (refine wpList_load_mid rfl 35 _ rfl (g9) 0 rfl (VX) _ hr0 Try.underlying35 rfl HI_VX.out ?_) | (refine wpList_load_mid rfl 23 _ rfl (w.heap.size) 7 rfl (VA) _ rA Try.underlying23 rfl HI_VA.out ?_) | (refine wpList_load_mid rfl 23 _ rfl (w.heap.size) 11 rfl (VB) _ rB Try.underlying23 rfl HI_VB.out ?_))))
  clear hr0 rA rB
  refine (CG.out _).mono ?_
  rintro e w5 ⟨rfl, bb⟩
  have HK5 := Lib.hid (HK4.out.below bb (Nat.le_refl _))
  clear bb HK4
  have ht := (bk_new w5 25 ([.int .i64 0, .int .i64 0, .int .i64 0, .int .i64 0, .int .i64 0, .bool false, .bool false, .int .u8 0, .int .u8 0, .int .u8 0, .int .u8 0, .int .u8 0, .int .u8 0, .int .u8 0, .int .u8 0, .string ⟨#[]⟩, .string ⟨#[]⟩] : List Value).toArray).there VQ.toArray.size (by have := HL_VQ.out; simp; omega)
  go_upto_region 9 with (((with_reducible (change wpList _ _ _ _ _ _)); ((refine wpList_store_mid rfl 25 _ _ rfl (w5.heap.size) 0 VQ.toArray rfl rfl ht (by simpa using HI_VQ.out) HO_VQ.out ?_))))
  have HK6 := Lib.hid (HK5.out.put 25 ([.int .i64 0, .int .i64 0, .int .i64 0, .int .i64 0, .int .i64 0, .bool false, .bool false, .int .u8 0, .int .u8 0, .int .u8 0, .int .u8 0, .int .u8 0, .int .u8 0, .int .u8 0, .int .u8 0, .string ⟨#[]⟩, .string ⟨#[]⟩] : List Value).toArray VQ (by have := HL_VQ.out; simp; omega))
  clear ht HK5
  generalize (w5.alloc (.cells ([.int .i64 0, .int .i64 0, .int .i64 0, .int .i64 0, .int .i64 0, .bool false, .bool false, .int .u8 0, .int .u8 0, .int .u8 0, .int .u8 0, .int .u8 0, .int .u8 0, .int .u8 0, .int .u8 0, .string ⟨#[]⟩, .string ⟨#[]⟩] : List Value).toArray 25)).setCells w5.heap.size 0 VQ = w6 at *
  generalize w5.heap.size = g11 at *
  have c2 : w6.cell? ⟨w.heap.size, 2, none⟩ = some (.int .i64 p.ttl) := HK6.out.tl.tl.tl.tl.hd.at HC_VP_2.out
  go_upto_region 13 with (fail)
  clear c2
  have HG11 : Hid (g11 < w6.heap.size ∧ g9 < w6.heap.size ∧ w.heap.size + 1 + 1 < w6.heap.size) := Lib.hid ⟨HK6.out.hd.lt, HK6.out.tl.hd.lt, HK6.out.tl.tl.hd.lt⟩
  have hr0 := HK6.out.tl.tl.tl.tl.hd.range
  have ht := (bk_new w6 25 ([.int .i64 0, .int .i64 0, .int .i64 0, .int .i64 0, .int .i64 0, .bool false, .bool false, .int .u8 0, .int .u8 0, .int .u8 0, .int .u8 0, .int .u8 0, .int .u8 0, .int .u8 0, .int .u8 0, .string ⟨#[]⟩, .string ⟨#[]⟩] : List Value).toArray).there VP.toArray.size (by have := HL_VP.out; simp; omega)
  go_upto_region 14 with (((with_reducible (change wpList _ _ _ _ _ _)); (first | (refine wpList_load_mid rfl 25 _ rfl (w.heap.size) 0 rfl (VP) _ hr0 Try.underlying25 rfl HI_VP.out ?_) | (refine wpList_store_mid rfl 25 _ _ rfl (w6.heap.size) 0 VP.toArray rfl rfl ht (by simpa using HI_VP.out) HO_VP.out ?_))))
  have HK7 := Lib.hid (HK6.out.put 25 ([.int .i64 0, .int .i64 0, .int .i64 0, .int .i64 0, .int .i64 0, .bool false, .bool false, .int .u8 0, .int .u8 0, .int .u8 0, .int .u8 0, .int .u8 0, .int .u8 0, .int .u8 0, .int .u8 0, .string ⟨#[]⟩, .string ⟨#[]⟩] : List Value).toArray VP (by have := HL_VP.out; simp; omega))
  clear ht HK6
  generalize (w6.alloc (.cells ([.int .i64 0, .int .i64 0, .int .i64 0, .int .i64 0, .int .i64 0, .bool false, .bool false, .int .u8 0, .int .u8 0, .int .u8 0, .int .u8 0, .int .u8 0, .int .u8 0, .int .u8 0, .int .u8 0, .string ⟨#[]⟩, .string ⟨#[]⟩] : List Value).toArray 25)).setCells w6.heap.size 0 VP = w7 at *
  generalize w6.heap.size = g13 at *
  clear hr0
  have hne : ∀ x ∈ ([(g11, 25, VQ), (g9, 35, VX), (w.heap.size + 1 + 1, 32, VT), (w.heap.size + 1, 32, VF), (w.heap.size, 25, VP)] : List (Nat × TypeId × List Value)), x.1 ≠ g13 := by
    have hg := HG11.out
    intro x hx
    simp only [List.mem_cons, List.not_mem_nil, or_false] at hx
    rcases hx with rfl | rfl | rfl | rfl | rfl <;> (show _ ≠ g13; omega)
  have hgB : w.heap.size ≤ g13 := by have := HG11.out; omega
  have HNE := Lib.hid (And.intro hne hgB)
  clear hne hgB
  have c2 : w7.cell? ⟨w.heap.size, 2, none⟩ = some (.int .i64 p.ttl) := HK7.out.tl.tl.tl.tl.tl.hd.at HC_VP_2.out
  have kw : IntKind.i64.wrap (p.ttl - 2) = p.ttl - 2 := IntWalk.i64_in _ (by omega)
  obtain ⟨uu, hu, hz⟩ := HK7.out.some1 2 (by have := HL_VP.out; omega)
  go_upto_region 15 with (fail)
  have hk := HK7.out.set1 HNE.out.1 HNE.out.2 2 (.int .i64 (p.ttl - 2))
  rw [HE1.out] at hk
  have HK8 := Lib.hid hk
  clear hk hu hz HK7 c2 kw
  generalize w7.setCell ⟨g13, 2, none⟩ (.int .i64 (p.ttl - 2)) = w8 at *
  obtain ⟨uu, hu, hz⟩ := HK8.out.some1 15 (by have := HL_Y1.out; omega)
  go_upto_region 16 with (fail)
  have hk := HK8.out.set1 HNE.out.1 HNE.out.2 15 (.string ⟨#[]⟩)
  rw [HE2.out] at hk
  have HK9 := Lib.hid hk
  clear hk hu hz HK8 
  generalize w8.setCell ⟨g13, 15, none⟩ (.string ⟨#[]⟩) = w9 at *
  obtain ⟨uu, hu, hz⟩ := HK9.out.some1 5 (by have := HL_Y2.out; omega)
  go_upto_region 17 with (fail)
  have hk := HK9.out.set1 HNE.out.1 HNE.out.2 5 (.bool false)
  rw [HE3.out] at hk
  have HK10 := Lib.hid hk
  clear hk hu hz HK9 
  generalize w9.setCell ⟨g13, 5, none⟩ (.bool false) = w10 at *
  have c16 : w10.cell? ⟨w.heap.size, 16, none⟩ = some (.string p.data) := HK10.out.tl.tl.tl.tl.tl.hd.at HC_VP_16.out
  have c6 : w10.cell? ⟨w.heap.size, 6, none⟩ = some (.bool false) := HK10.out.tl.tl.tl.tl.tl.hd.at (by rw [HC_VP_6.out, HM.out])
  have c4 : w10.cell? ⟨w.heap.size, 4, none⟩ = some (.int .i64 0) := HK10.out.tl.tl.tl.tl.tl.hd.at (by rw [HC_VP_4.out, HL.out])
  have hs2 : (1240 : Int) < (p.data.size : Int) := by omega
  go_upto_region 18 with (fail)
  clear c6 c4
  obtain ⟨uu, hu, hz⟩ := HK10.out.some1 5 (by have := HL_Y3.out; omega)
  go_upto_region 19 with (fail)
  have hk := HK10.out.set1 HNE.out.1 HNE.out.2 5 (.bool true)
  rw [HE4.out] at hk
  have HK11 := Lib.hid hk
  clear hk hu hz HK10 c16
  generalize w10.setCell ⟨g13, 5, none⟩ (.bool true) = w11 at *
  obtain ⟨uu, hu, hz⟩ := HK11.out.some1 1 (by have := HL_Y4.out; omega)
  go_upto_region 20 with (fail)
  have hk := HK11.out.set1 HNE.out.1 HNE.out.2 1 (.int .i64 id)
  rw [HE5.out] at hk
  have HK12 := Lib.hid hk
  clear hk hu hz HK11 
  generalize w11.setCell ⟨g13, 1, none⟩ (.int .i64 id) = w12 at *
  have d5 : w12.cell? ⟨g13, 5, none⟩ = some (.bool true) := HK12.out.hd.at HC_Y5_5.out
  go_upto_region 21 with (fail)
  obtain ⟨uu, hu, hz⟩ := HK12.out.some1 1 (by have := HL_Y5.out; omega)
  go_upto_region 22 with (fail)
  have hk := HK12.out.set1 HNE.out.1 HNE.out.2 1 (.int .i64 0)
  rw [HE6.out] at hk
  have HK13 := Lib.hid hk
  clear hk hu hz HK12  d5
  generalize w12.setCell ⟨g13, 1, none⟩ (.int .i64 0) = w13 at *
  have heq := HEV_VQ.out
  have hr0 := HK13.out.tl.hd.range
  have hr1 := HK13.out.hd.range
  go_wp2_with (((with_reducible (change wpList _ _ _ _ _ _)); (first | (refine wpList_load_mid rfl 25 _ rfl (g11) 0 rfl (VQ) _ hr0 Try.underlying25 rfl HI_VQ.out ?_) | (refine wpList_load_mid rfl 25 _ rfl (g13) 0 rfl (VQ) _ hr1 Try.underlying25 rfl HI_VQ.out ?_))))
  go_ret
  exact ⟨rfl, HK13.out.2.1⟩
theorem head64Again_any (p : P4.Pkt) (F T : List UInt8) (id : Int) (w : World) (hF : F.length = 16) (hT : T.length = 16) (ii : (Lit.int .u16 id).wf = true) :
    Calls Try.prog 6 #[.agg p.vals.toArray, .agg (bytV F).toArray, .agg (bytV T).toArray, .int .u16 id] w (fun e w' => e = .returned (.bool true) ∧ Below w.heap.size w w') := by
  have ii : 0 ≤ id ∧ id ≤ 65535 := by simpa [Lit.wf, IntKind.min, IntKind.max, IntKind.signed, IntKind.bits] using ii
  by_cases n0 : (70000 : Int) < (p.data.size : Int)
  · exact again64_out0 p F T hF hT id w n0
  by_cases n1 : (1000 : Int) < (p.opts.size : Int)
  · exact again64_out1 p F T hF hT id w n0 n1
  by_cases n2 : p.pl < 0
  · exact again64_out2 p F T hF hT id w n0 n1 n2
  by_cases n3 : p.id < 0
  · exact again64_out3 p F T hF hT id w n0 n1 n2 n3
  by_cases n4 : 65535 < p.id
  · exact again64_out4 p F T hF hT id w n0 n1 n2 n3 n4
  by_cases hh : hcode p = 0
  · by_cases h3 : p.ttl < 3
    · exact again64_low p F T hF hT id w n0 n1 n2 n3 n4 ii hh h3
    · by_cases hz : p.pl ≤ 65515 - (p.data.size : Int)
      · cases hm : p.more
        · by_cases hl : p.pl = 0
          · by_cases hs : (p.data.size : Int) ≤ 1240
            · exact again64_ws p F T hF hT id w n0 n1 n2 n3 n4 ii hh h3 hz hm hl hs
            · exact again64_wb p F T hF hT id w n0 n1 n2 n3 n4 ii hh h3 hz hm hl hs
          · exact again64_pa p F T hF hT id w n0 n1 n2 n3 n4 ii hh h3 hz hm hl
        · exact again64_pm p F T hF hT id w n0 n1 n2 n3 n4 ii hh h3 hz hm
      · exact again64_far p F T hF hT id w n0 n1 n2 n3 n4 ii hh h3 hz
  · exact again64_none p F T hF hT id w n0 n1 n2 n3 n4 hh
end Go.Proofs.Ytkihhmnlefekoaa
