/-
  Proved here: the law Head46Goes answers true of a head that goes over, a whole packet; the law in one.
  Conditions: none.
-/
import Derived.Test.YtdljjcnihajchaaLGoesa
import Derived.Test.YtdljjcnihajchaaLGoesb
namespace Go.Proofs.Ytdljjcnihajchaa
open Go.RowKit

set_option maxRecDepth 100000 in
set_option maxHeartbeats 4000000 in
theorem goes_whole (s : ByteArray) (F T : List UInt8) (hF : F.length = 16) (hT : T.length = 16) (w : World) (hs : ¬ (70000 : Int) < (s.size : Int)) (hc : P4.pcode s = 0) (hh : hcode (P4.ppkt s) = 0) (hm : (P4.ppkt s).more = false) (hl : (P4.ppkt s).pl = 0) :
    Calls Try.prog 5 #[.string s, .agg (bytV F).toArray, .agg (bytV T).toArray] w fun e w' => e = .returned (.bool true) ∧ Below w.heap.size w w' := by
  have CP := Lib.hid (fun W => P4.parse_ok s W (by omega) hc)
  have hw := pkt_why hc
  clear hc
  generalize P4.ppkt s = p at *
  have hwq := h46_why (F := F) (T := T) (hF := hF) (hT := hT) hw hh
  have hiq := h46_id (p := p) (F := F) (T := T) (hF := hF) (hT := hT)
  obtain ⟨hb, _, _, _, hsz⟩ := P4.why_ok hw
  obtain ⟨_, _, _, _, _, _, i0, i1, p0, p1, p8⟩ := P4.bnd_pl hb
  obtain ⟨t0, t1, _, _, _, _⟩ := hcode_ok hh
  have hid : IntKind.u32.wrap p.id = p.id := by rw [IntKind.wrap_u32]; omega
  have hsm := h46_sm (p := p) (F := F) (T := T) (hF := hF) (hT := hT) (by omega)
  have hq : h46 p F T hF hT = (⟨p.tos, 0, p.ttl - 1, F, T, [], false, 0, 0, false, pr46 p.proto, p.data, hF, hT⟩ : Pk6) := by rw [h46_whole hm hl]
  rw [hq] at hwq hiq hsm
  obtain ⟨VQ, hVQ⟩ : ∃ V, V = (⟨p.tos, 0, p.ttl - 1, F, T, [], false, 0, 0, false, pr46 p.proto, p.data, hF, hT⟩ : Pk6).vals (.slice none 0 0) := ⟨_, rfl⟩
  have CH : Hid (∀ W, Calls Try.prog 7 #[.agg p.vals.toArray, .agg (bytV F).toArray, .agg (bytV T).toArray] W fun e w' => e = .returned (.tuple #[.agg VQ.toArray, .nilIface]) ∧ Below W.heap.size W w') := Lib.hid (fun W => by
    refine (head_any p F T hF hT W).mono ?_
    rintro e w' ⟨x, rfl, her, b⟩
    rcases her with ⟨_, rfl⟩ | ⟨h, _⟩
    · exact ⟨by rw [hVQ, hout_ok hh, hq], b⟩
    · exact absurd hh h)
  obtain ⟨qb, hqb⟩ : ∃ b, b = (⟨p.tos, 0, p.ttl - 1, F, T, [], false, 0, 0, false, pr46 p.proto, p.data, hF, hT⟩ : Pk6).bytes := ⟨_, rfl⟩
  have CB : Hid (∀ W, Calls Try.prog 15 #[.agg VQ.toArray] W fun e w' => e = .returned (.tuple #[.string qb, .nilIface]) ∧ Below W.heap.size W w') := Lib.hid (fun W => by rw [hVQ, hqb]; exact bytes_ok _ _ W (exs_nil W) hsm hwq hiq)
  have HC_VQ_2 : Hid (VQ[2]? = some (.int .i64 (p.ttl - 1))) := Lib.hid (by rw [hVQ]; exact rfl)
  have HC_VQ_35 : Hid (VQ[35]? = some (.slice none 0 0)) := Lib.hid (by rw [hVQ]; exact vals_tail _ _ 0)
  have HC_VQ_36 : Hid (VQ[36]? = some (.bool false)) := Lib.hid (by rw [hVQ]; exact vals_tail _ _ 1)
  have HC_VQ_37 : Hid (VQ[37]? = some (.int .u32 0)) := Lib.hid (by rw [hVQ]; exact vals_tail _ _ 2)
  have HC_VQ_38 : Hid (VQ[38]? = some (.int .i64 0)) := Lib.hid (by rw [hVQ]; exact vals_tail _ _ 3)
  have HC_VQ_39 : Hid (VQ[39]? = some (.bool false)) := Lib.hid (by rw [hVQ]; exact vals_tail _ _ 4)
  have HC_VQ_41 : Hid (VQ[41]? = some (.string p.data)) := Lib.hid (by rw [hVQ]; exact vals_tail _ _ 6)
  have HR : Hid (∀ (W : World) (b : Nat) (TT : TypeId), Bk W b TT VQ.toArray → W.rangeAt b 3 (bytV F) ∧ W.rangeAt b 19 (bytV T)) := Lib.hid (fun W b TT h => by rw [hVQ] at h; exact ⟨(cs6 h).fr, (cs6 h).dst⟩)
  have HEF : Hid (∀ W, (binOp .eql 23 (.agg (bytV F).toArray) (.agg (bytV F).toArray)).run Try.prog W = .ok (.bool true) W) := Lib.hid (fun W => eqV6 _ hF W)
  have HET : Hid (∀ W, (binOp .eql 23 (.agg (bytV T).toArray) (.agg (bytV T).toArray)).run Try.prog W = .ok (.bool true) W) := Lib.hid (fun W => eqV6 _ hT W)
  have HI_VQ : Hid ((Try.prog.info? 27).map (·.size) = some (VQ).length) := Lib.hid (by rw [hVQ]; exact Try.info6 _ _)
  have HO_VQ : Hid ((VQ).toArray.all (·.oneCell') = true) := Lib.hid (by rw [hVQ]; exact vals_one _ _ rfl)
  have HL_VQ : Hid ((VQ).length = 42) := Lib.hid (by rw [hVQ]; exact vals_len _ _)
  clear hVQ hqb hwq hiq hsm hq hid hb hw hh
  have HI_VP : Hid ((Try.prog.info? 35).map (·.size) = some (p.vals).length) := Lib.hid (P4.Try.infoIp _)
  have HO_VP : Hid ((p.vals).toArray.all (·.oneCell') = true) := Lib.hid (P4.vals_one _)
  have HL_VP : Hid ((p.vals).length = 17) := Lib.hid rfl
  have HC_VP_1 : Hid (p.vals[1]? = some (.int .i64 p.id)) := Lib.hid (by exact rfl)
  have HC_VP_2 : Hid (p.vals[2]? = some (.int .i64 p.ttl)) := Lib.hid (by exact rfl)
  have HC_VP_4 : Hid (p.vals[4]? = some (.int .i64 0)) := Lib.hid (by rw [← hl]; exact rfl)
  have HC_VP_6 : Hid (p.vals[6]? = some (.bool false)) := Lib.hid (by rw [← hm]; exact rfl)
  have HC_VP_16 : Hid (p.vals[16]? = some (.string p.data)) := Lib.hid (by exact rfl)
  have HM := Lib.hid hm
  clear hm
  clear hl
  have kw : IntKind.i64.wrap (p.ttl - 1) = p.ttl - 1 := IntWalk.i64_in _ (by omega)
  have kid : IntKind.i64.wrap p.id = p.id := IntWalk.i64_in _ (by omega)
  have hg : (0 : Int) < p.ttl - 1 := by omega
  have hg2 : (1 : Int) < p.ttl := by omega
  have HNUM := Lib.hid (And.intro kw (And.intro kid (And.intro hg hg2)))
  clear kw kid hg hg2
  clear i0 i1 p0 p1 p8 t0 t1 hsz
  generalize p.vals = VP at *
  have HI_VF : Hid ((Try.prog.info? 23).map (·.size) = some (bytV F).length) := Lib.hid (Try.infoV6 _ hF)
  have HO_VF : Hid ((bytV F).toArray.all (·.oneCell') = true) := Lib.hid (by rw [List.all_toArray, List.all_eq_true]; exact bytV_one _)
  have HL_VF : Hid ((bytV F).length = 16) := Lib.hid (by rw [bytV_len]; exact hF)
  have HI_VT : Hid ((Try.prog.info? 23).map (·.size) = some (bytV T).length) := Lib.hid (Try.infoV6 _ hT)
  have HO_VT : Hid ((bytV T).toArray.all (·.oneCell') = true) := Lib.hid (by rw [List.all_toArray, List.all_eq_true]; exact bytV_one _)
  have HL_VT : Hid ((bytV T).length = 16) := Lib.hid (by rw [bytV_len]; exact hT)
  have HK1 : Hid (Kp w w.heap.size [(w.heap.size + 1, 23, bytV T), (w.heap.size, 23, bytV F)] ((w.alloc (.cells (bytV F).toArray 23)).alloc (.cells (bytV T).toArray 23))) := Lib.hid (by
    have h := (Kp.start w).new 23 (bytV F)
    have e1 : (w.alloc (.cells (bytV F).toArray 23)).heap.size = w.heap.size + 1 := by simp
    have h2 := h.new 23 (bytV T)
    rwa [e1] at h2)
  generalize bytV F = VF at *
  generalize bytV T = VT at *
  generalize hw1 : (w.alloc (.cells VF.toArray 23)).alloc (.cells VT.toArray 23) = w1 at *
  go_enter Try.func5, Try.ntmps5
  go_upto_region 1 with (fail)
  clear hw1
  go_wp2_with (fail)
  refine (awake_true _).mono ?_
  rintro e w2 ⟨rfl, bb⟩
  have HK2 := Lib.hid (HK1.out.below bb (Nat.le_refl _))
  clear bb HK1
  go_wp2_with (fail)
  refine (CP.out _).mono ?_
  rintro e w3 ⟨rfl, bb⟩
  have HK3 := Lib.hid (HK2.out.below bb (Nat.le_refl _))
  clear bb HK2
  have ht := (bk_new w3 35 ([.int .i64 0, .int .i64 0, .int .i64 0, .int .i64 0, .int .i64 0, .bool false, .bool false, .int .u8 0, .int .u8 0, .int .u8 0, .int .u8 0, .int .u8 0, .int .u8 0, .int .u8 0, .int .u8 0, .string ⟨#[]⟩, .string ⟨#[]⟩] : List Value).toArray).there VP.toArray.size (by have := HL_VP.out; simp; omega)
  go_upto_region 6 with (((with_reducible (change wpList _ _ _ _ _ _)); ((refine wpList_store_mid rfl 35 _ _ rfl (w3.heap.size) 0 VP.toArray rfl rfl ht (by simpa using HI_VP.out) HO_VP.out ?_))))
  have HK4 := Lib.hid (HK3.out.put 35 ([.int .i64 0, .int .i64 0, .int .i64 0, .int .i64 0, .int .i64 0, .bool false, .bool false, .int .u8 0, .int .u8 0, .int .u8 0, .int .u8 0, .int .u8 0, .int .u8 0, .int .u8 0, .int .u8 0, .string ⟨#[]⟩, .string ⟨#[]⟩] : List Value).toArray VP (by have := HL_VP.out; simp; omega))
  clear ht HK3
  generalize (w3.alloc (.cells ([.int .i64 0, .int .i64 0, .int .i64 0, .int .i64 0, .int .i64 0, .bool false, .bool false, .int .u8 0, .int .u8 0, .int .u8 0, .int .u8 0, .int .u8 0, .int .u8 0, .int .u8 0, .int .u8 0, .string ⟨#[]⟩, .string ⟨#[]⟩] : List Value).toArray 35)).setCells w3.heap.size 0 VP = w4 at *
  generalize w3.heap.size = g7 at *
  have hr0 := HK4.out.hd.range
  have hr1 := HK4.out.tl.tl.hd.range
  have hr2 := HK4.out.tl.hd.range
  go_wp2_with (((with_reducible (change wpList _ _ _ _ _ _)); (first | (refine wpList_load_mid rfl 35 _ rfl (g7) 0 rfl (VP) _ hr0 Try.underlying35 rfl HI_VP.out ?_) | (refine wpList_load_mid rfl 23 _ rfl (w.heap.size) 0 rfl (VF) _ hr1 Try.underlying23 rfl HI_VF.out ?_) | (refine wpList_load_mid rfl 23 _ rfl (w.heap.size + 1) 0 rfl (VT) _ hr2 Try.underlying23 rfl HI_VT.out ?_))))
  clear hr0 hr1 hr2
  refine (CH.out _).mono ?_
  rintro e w5 ⟨rfl, bb⟩
  have HK5 := Lib.hid (HK4.out.below bb (Nat.le_refl _))
  clear bb HK4
  have ht := (bk_new w5 27 ([.int .i64 0, .int .i64 0, .int .i64 0, .int .u8 0, .int .u8 0, .int .u8 0, .int .u8 0, .int .u8 0, .int .u8 0, .int .u8 0, .int .u8 0, .int .u8 0, .int .u8 0, .int .u8 0, .int .u8 0, .int .u8 0, .int .u8 0, .int .u8 0, .int .u8 0, .int .u8 0, .int .u8 0, .int .u8 0, .int .u8 0, .int .u8 0, .int .u8 0, .int .u8 0, .int .u8 0, .int .u8 0, .int .u8 0, .int .u8 0, .int .u8 0, .int .u8 0, .int .u8 0, .int .u8 0, .int .u8 0, .slice none 0 0, .bool false, .int .u32 0, .int .i64 0, .bool false, .int .i64 0, .string ⟨#[]⟩] : List Value).toArray).there VQ.toArray.size (by have := HL_VQ.out; simp; omega)
  go_upto_region 9 with (((with_reducible (change wpList _ _ _ _ _ _)); ((refine wpList_store_mid rfl 27 _ _ rfl (w5.heap.size) 0 VQ.toArray rfl rfl ht (by simpa using HI_VQ.out) HO_VQ.out ?_))))
  have HK6 := Lib.hid (HK5.out.put 27 ([.int .i64 0, .int .i64 0, .int .i64 0, .int .u8 0, .int .u8 0, .int .u8 0, .int .u8 0, .int .u8 0, .int .u8 0, .int .u8 0, .int .u8 0, .int .u8 0, .int .u8 0, .int .u8 0, .int .u8 0, .int .u8 0, .int .u8 0, .int .u8 0, .int .u8 0, .int .u8 0, .int .u8 0, .int .u8 0, .int .u8 0, .int .u8 0, .int .u8 0, .int .u8 0, .int .u8 0, .int .u8 0, .int .u8 0, .int .u8 0, .int .u8 0, .int .u8 0, .int .u8 0, .int .u8 0, .int .u8 0, .slice none 0 0, .bool false, .int .u32 0, .int .i64 0, .bool false, .int .i64 0, .string ⟨#[]⟩] : List Value).toArray VQ (by have := HL_VQ.out; simp; omega))
  clear ht HK5
  generalize (w5.alloc (.cells ([.int .i64 0, .int .i64 0, .int .i64 0, .int .u8 0, .int .u8 0, .int .u8 0, .int .u8 0, .int .u8 0, .int .u8 0, .int .u8 0, .int .u8 0, .int .u8 0, .int .u8 0, .int .u8 0, .int .u8 0, .int .u8 0, .int .u8 0, .int .u8 0, .int .u8 0, .int .u8 0, .int .u8 0, .int .u8 0, .int .u8 0, .int .u8 0, .int .u8 0, .int .u8 0, .int .u8 0, .int .u8 0, .int .u8 0, .int .u8 0, .int .u8 0, .int .u8 0, .int .u8 0, .int .u8 0, .int .u8 0, .slice none 0 0, .bool false, .int .u32 0, .int .i64 0, .bool false, .int .i64 0, .string ⟨#[]⟩] : List Value).toArray 27)).setCells w5.heap.size 0 VQ = w6 at *
  generalize w5.heap.size = g9 at *
  have hr0 := HK6.out.hd.range
  go_wp2_with (((with_reducible (change wpList _ _ _ _ _ _)); ((refine wpList_load_mid rfl 27 _ rfl (g9) 0 rfl (VQ) _ hr0 Try.underlying27 rfl HI_VQ.out ?_))))
  clear hr0
  refine (CB.out _).mono ?_
  rintro e w7 ⟨rfl, bb⟩
  have HK7 := Lib.hid (HK6.out.below bb (Nat.le_refl _))
  clear bb HK6
  go_upto_region 12 with (fail)
  have d2 : w7.cell? ⟨g9, 2, none⟩ = some (.int .i64 (p.ttl - 1)) := HK7.out.hd.at HC_VQ_2.out
  have d35 : w7.cell? ⟨g9, 35, none⟩ = some (.slice none 0 0) := HK7.out.hd.at HC_VQ_35.out
  have d36 : w7.cell? ⟨g9, 36, none⟩ = some (.bool false) := HK7.out.hd.at HC_VQ_36.out
  have d37 : w7.cell? ⟨g9, 37, none⟩ = some (.int .u32 0) := HK7.out.hd.at HC_VQ_37.out
  have d38 : w7.cell? ⟨g9, 38, none⟩ = some (.int .i64 0) := HK7.out.hd.at HC_VQ_38.out
  have d39 : w7.cell? ⟨g9, 39, none⟩ = some (.bool false) := HK7.out.hd.at HC_VQ_39.out
  have d41 : w7.cell? ⟨g9, 41, none⟩ = some (.string p.data) := HK7.out.hd.at HC_VQ_41.out
  have c1 : w7.cell? ⟨g7, 1, none⟩ = some (.int .i64 p.id) := HK7.out.tl.hd.at HC_VP_1.out
  have c2 : w7.cell? ⟨g7, 2, none⟩ = some (.int .i64 p.ttl) := HK7.out.tl.hd.at HC_VP_2.out
  have c4 : w7.cell? ⟨g7, 4, none⟩ = some (.int .i64 0) := HK7.out.tl.hd.at HC_VP_4.out
  have c6 : w7.cell? ⟨g7, 6, none⟩ = some (.bool false) := HK7.out.tl.hd.at HC_VP_6.out
  have c16 : w7.cell? ⟨g7, 16, none⟩ = some (.string p.data) := HK7.out.tl.hd.at HC_VP_16.out
  have r1 := (HR.out _ _ _ HK7.out.hd).1
  have r2 := (HR.out _ _ _ HK7.out.hd).2
  have rF := HK7.out.tl.tl.tl.hd.range
  have rT := HK7.out.tl.tl.hd.range
  have hef := HEF.out
  have het := HET.out
  have hgu := Try.guardV6
  obtain ⟨kw, kid, hg, hg2⟩ := HNUM.out
  refine wp_region_list ?_
  refine wpList_exec_if (op := { dst := some 52, op := Op.move (Operand.tmp 12), type := 29, pos := "outright.go:27", after := #[], guard := none }) (by kernel_rfl) ?_ ?_ ?_
  rotate_left
  · (go_simp; try with_reducible rfl)
  (try simp only [Act.put, List.setIfInBounds_toArray, List.set_cons_zero, List.set_cons_succ])
  refine wpList_exec_if (op := { dst := some 53, op := Op.binOp BinOp.eql 29 (Operand.tmp 52) (Operand.const Value.nilIface) 29, type := 4, pos := "outright.go:27", after := #[{ on := 0, ground := Ground.data }], guard := none }) (by kernel_rfl) ?_ ?_ ?_
  rotate_left
  · (go_simp; try with_reducible rfl)
  (try simp only [Act.put, List.setIfInBounds_toArray, List.set_cons_zero, List.set_cons_succ])
  refine wpList_exec_if (op := { dst := some 54, op := Op.move (Operand.tmp 53), type := 4, pos := "outright.go:27", after := #[{ on := 1, ground := Ground.data }], guard := none }) (by kernel_rfl) ?_ ?_ ?_
  rotate_left
  · (go_simp; try with_reducible rfl)
  (try simp only [Act.put, List.setIfInBounds_toArray, List.set_cons_zero, List.set_cons_succ])
  refine wpList_exec_if (op := { dst := some 55, op := Op.fieldAddr 27 (Operand.tmp 9) 11, type := 0, pos := "outright.go:27", after := #[{ on := 2, ground := Ground.guard }], guard := some (2, true) }) (by kernel_rfl) ?_ ?_ ?_
  rotate_left
  · (go_simp; try with_reducible rfl)
  (try simp only [Act.put, List.setIfInBounds_toArray, List.set_cons_zero, List.set_cons_succ])
  refine wpList_exec_if (op := { dst := some 56, op := Op.load 9 (Operand.tmp 55), type := 9, pos := "outright.go:27", after := #[{ on := 3, ground := Ground.data }, { on := 2, ground := Ground.guard }], guard := some (2, true) }) (by kernel_rfl) ?_ ?_ ?_
  rotate_left
  · (go_simp; try with_reducible rfl)
  (try simp only [Act.put, List.setIfInBounds_toArray, List.set_cons_zero, List.set_cons_succ])
  refine wpList_exec_if (op := { dst := some 57, op := Op.fieldAddr 35 (Operand.tmp 7) 10, type := 0, pos := "outright.go:27", after := #[{ on := 2, ground := Ground.guard }], guard := some (2, true) }) (by kernel_rfl) ?_ ?_ ?_
  rotate_left
  · (go_simp; try with_reducible rfl)
  (try simp only [Act.put, List.setIfInBounds_toArray, List.set_cons_zero, List.set_cons_succ])
  refine wpList_exec_if (op := { dst := some 58, op := Op.load 9 (Operand.tmp 57), type := 9, pos := "outright.go:27", after := #[{ on := 5, ground := Ground.data }, { on := 2, ground := Ground.guard }], guard := some (2, true) }) (by kernel_rfl) ?_ ?_ ?_
  rotate_left
  · (go_simp; try with_reducible rfl)
  (try simp only [Act.put, List.setIfInBounds_toArray, List.set_cons_zero, List.set_cons_succ])
  refine wpList_exec_if (op := { dst := some 59, op := Op.binOp BinOp.eql 9 (Operand.tmp 56) (Operand.tmp 58) 9, type := 4, pos := "outright.go:27", after := #[{ on := 4, ground := Ground.data }, { on := 6, ground := Ground.data }, { on := 2, ground := Ground.guard }], guard := some (2, true) }) (by kernel_rfl) ?_ ?_ ?_
  rotate_left
  · (go_simp; try with_reducible rfl)
  (try simp only [Act.put, List.setIfInBounds_toArray, List.set_cons_zero, List.set_cons_succ])
  refine wpList_exec_if (op := { dst := some 60, op := Op.pick (Operand.tmp 54) (Operand.tmp 59) (Operand.const (Value.bool false)), type := 4, pos := "outright.go:27", after := #[{ on := 2, ground := Ground.data }, { on := 7, ground := Ground.data }], guard := none }) (by kernel_rfl) ?_ ?_ ?_
  rotate_left
  · (go_simp; try with_reducible rfl)
  (try simp only [Act.put, List.setIfInBounds_toArray, List.set_cons_zero, List.set_cons_succ])
  refine wpList_exec_if (op := { dst := some 61, op := Op.move (Operand.tmp 60), type := 4, pos := "outright.go:27", after := #[{ on := 8, ground := Ground.data }, { on := 2, ground := Ground.chain }], guard := none }) (by kernel_rfl) ?_ ?_ ?_
  rotate_left
  · (go_simp; try with_reducible rfl)
  (try simp only [Act.put, List.setIfInBounds_toArray, List.set_cons_zero, List.set_cons_succ])
  refine wpList_exec_if (op := { dst := some 62, op := Op.fieldAddr 27 (Operand.tmp 9) 2, type := 0, pos := "outright.go:27", after := #[{ on := 9, ground := Ground.guard }], guard := some (9, true) }) (by kernel_rfl) ?_ ?_ ?_
  rotate_left
  · (go_simp; try with_reducible rfl)
  (try simp only [Act.put, List.setIfInBounds_toArray, List.set_cons_zero, List.set_cons_succ])
  refine wpList_exec_if (op := { dst := some 63, op := Op.load 3 (Operand.tmp 62), type := 3, pos := "outright.go:27", after := #[{ on := 10, ground := Ground.data }, { on := 9, ground := Ground.guard }], guard := some (9, true) }) (by kernel_rfl) ?_ ?_ ?_
  rotate_left
  · (go_simp; try with_reducible rfl)
  (try simp only [Act.put, List.setIfInBounds_toArray, List.set_cons_zero, List.set_cons_succ])
  refine wpList_exec_if (op := { dst := some 64, op := Op.fieldAddr 35 (Operand.tmp 7) 2, type := 0, pos := "outright.go:27", after := #[{ on := 9, ground := Ground.guard }], guard := some (9, true) }) (by kernel_rfl) ?_ ?_ ?_
  rotate_left
  · (go_simp; try with_reducible rfl)
  (try simp only [Act.put, List.setIfInBounds_toArray, List.set_cons_zero, List.set_cons_succ])
  refine wpList_exec_if (op := { dst := some 65, op := Op.load 3 (Operand.tmp 64), type := 3, pos := "outright.go:27", after := #[{ on := 12, ground := Ground.data }, { on := 9, ground := Ground.guard }], guard := some (9, true) }) (by kernel_rfl) ?_ ?_ ?_
  rotate_left
  · (go_simp; try with_reducible rfl)
  (try simp only [Act.put, List.setIfInBounds_toArray, List.set_cons_zero, List.set_cons_succ])
  refine wpList_exec_if (op := { dst := some 66, op := Op.binOp BinOp.sub 3 (Operand.tmp 65) (Operand.const (Value.int IntKind.i64 1)) 3, type := 3, pos := "outright.go:27", after := #[{ on := 13, ground := Ground.data }, { on := 9, ground := Ground.guard }], guard := some (9, true) }) (by kernel_rfl) ?_ ?_ ?_
  rotate_left
  · (go_simp; try with_reducible rfl)
  (try simp only [Act.put, List.setIfInBounds_toArray, List.set_cons_zero, List.set_cons_succ])
  refine wpList_exec_if (op := { dst := some 67, op := Op.binOp BinOp.eql 3 (Operand.tmp 63) (Operand.tmp 66) 3, type := 4, pos := "outright.go:27", after := #[{ on := 11, ground := Ground.data }, { on := 14, ground := Ground.data }, { on := 9, ground := Ground.guard }], guard := some (9, true) }) (by kernel_rfl) ?_ ?_ ?_
  rotate_left
  · (go_simp; try with_reducible rfl)
  (try simp only [Act.put, List.setIfInBounds_toArray, List.set_cons_zero, List.set_cons_succ])
  refine wpList_exec_if (op := { dst := some 68, op := Op.pick (Operand.tmp 61) (Operand.tmp 67) (Operand.const (Value.bool false)), type := 4, pos := "outright.go:27", after := #[{ on := 9, ground := Ground.data }, { on := 15, ground := Ground.data }], guard := none }) (by kernel_rfl) ?_ ?_ ?_
  rotate_left
  · (go_simp; try with_reducible rfl)
  (try simp only [Act.put, List.setIfInBounds_toArray, List.set_cons_zero, List.set_cons_succ])
  refine wpList_exec_if (op := { dst := some 69, op := Op.move (Operand.tmp 68), type := 4, pos := "outright.go:27", after := #[{ on := 16, ground := Ground.data }, { on := 9, ground := Ground.chain }], guard := none }) (by kernel_rfl) ?_ ?_ ?_
  rotate_left
  · (go_simp; try with_reducible rfl)
  (try simp only [Act.put, List.setIfInBounds_toArray, List.set_cons_zero, List.set_cons_succ])
  refine wpList_exec_if (op := { dst := some 70, op := Op.fieldAddr 27 (Operand.tmp 9) 2, type := 0, pos := "outright.go:27", after := #[{ on := 17, ground := Ground.guard }], guard := some (17, true) }) (by kernel_rfl) ?_ ?_ ?_
  rotate_left
  · (go_simp; try with_reducible rfl)
  (try simp only [Act.put, List.setIfInBounds_toArray, List.set_cons_zero, List.set_cons_succ])
  refine wpList_exec_if (op := { dst := some 71, op := Op.load 3 (Operand.tmp 70), type := 3, pos := "outright.go:27", after := #[{ on := 18, ground := Ground.data }, { on := 17, ground := Ground.guard }], guard := some (17, true) }) (by kernel_rfl) ?_ ?_ ?_
  rotate_left
  · (go_simp; try with_reducible rfl)
  (try simp only [Act.put, List.setIfInBounds_toArray, List.set_cons_zero, List.set_cons_succ])
  refine wpList_exec_if (op := { dst := some 72, op := Op.binOp BinOp.gtr 3 (Operand.tmp 71) (Operand.const (Value.int IntKind.i64 0)) 3, type := 4, pos := "outright.go:27", after := #[{ on := 19, ground := Ground.data }, { on := 17, ground := Ground.guard }], guard := some (17, true) }) (by kernel_rfl) ?_ ?_ ?_
  rotate_left
  · (go_simp; try with_reducible rfl)
  (try simp only [Act.put, List.setIfInBounds_toArray, List.set_cons_zero, List.set_cons_succ])
  refine wpList_exec_if (op := { dst := some 73, op := Op.pick (Operand.tmp 69) (Operand.tmp 72) (Operand.const (Value.bool false)), type := 4, pos := "outright.go:27", after := #[{ on := 17, ground := Ground.data }, { on := 20, ground := Ground.data }], guard := none }) (by kernel_rfl) ?_ ?_ ?_
  rotate_left
  · (go_simp; try with_reducible rfl)
  (try simp only [Act.put, List.setIfInBounds_toArray, List.set_cons_zero, List.set_cons_succ])
  refine wpList_exec_if (op := { dst := some 74, op := Op.move (Operand.tmp 73), type := 4, pos := "outright.go:27", after := #[{ on := 21, ground := Ground.data }, { on := 17, ground := Ground.chain }], guard := none }) (by kernel_rfl) ?_ ?_ ?_
  rotate_left
  · (go_simp; try with_reducible rfl)
  (try simp only [Act.put, List.setIfInBounds_toArray, List.set_cons_zero, List.set_cons_succ])
  refine wpList_exec_if (op := { dst := some 75, op := Op.fieldAddr 27 (Operand.tmp 9) 5, type := 0, pos := "outright.go:27", after := #[{ on := 22, ground := Ground.guard }], guard := some (22, true) }) (by kernel_rfl) ?_ ?_ ?_
  rotate_left
  · (go_simp; try with_reducible rfl)
  (try simp only [Act.put, List.setIfInBounds_toArray, List.set_cons_zero, List.set_cons_succ])
  refine wpList_exec_if (op := { dst := some 76, op := Op.load 24 (Operand.tmp 75), type := 24, pos := "outright.go:27", after := #[{ on := 23, ground := Ground.data }, { on := 22, ground := Ground.guard }], guard := some (22, true) }) (by kernel_rfl) ?_ ?_ ?_
  rotate_left
  · (go_simp; try with_reducible rfl)
  (try simp only [Act.put, List.setIfInBounds_toArray, List.set_cons_zero, List.set_cons_succ])
  refine wpList_exec_if (op := { dst := some 77, op := Op.call { callee := Callee.builtin Builtin.len, args := #[Operand.tmp 76], argTypes := #[24] }, type := 3, pos := "outright.go:27", after := #[{ on := 24, ground := Ground.data }, { on := 22, ground := Ground.guard }], guard := some (22, true) }) (by kernel_rfl) ?_ ?_ ?_
  rotate_left
  · (go_simp; try with_reducible rfl)
  (try simp only [Act.put, List.setIfInBounds_toArray, List.set_cons_zero, List.set_cons_succ])
  refine wpList_exec_if (op := { dst := some 78, op := Op.binOp BinOp.eql 3 (Operand.tmp 77) (Operand.const (Value.int IntKind.i64 0)) 3, type := 4, pos := "outright.go:27", after := #[{ on := 25, ground := Ground.data }, { on := 22, ground := Ground.guard }], guard := some (22, true) }) (by kernel_rfl) ?_ ?_ ?_
  rotate_left
  · (go_simp; try with_reducible rfl)
  (try simp only [Act.put, List.setIfInBounds_toArray, List.set_cons_zero, List.set_cons_succ])
  refine wpList_exec_if (op := { dst := some 79, op := Op.pick (Operand.tmp 74) (Operand.tmp 78) (Operand.const (Value.bool false)), type := 4, pos := "outright.go:27", after := #[{ on := 22, ground := Ground.data }, { on := 26, ground := Ground.data }], guard := none }) (by kernel_rfl) ?_ ?_ ?_
  rotate_left
  · (go_simp; try with_reducible rfl)
  (try simp only [Act.put, List.setIfInBounds_toArray, List.set_cons_zero, List.set_cons_succ])
  refine wpList_exec_if (op := { dst := some 80, op := Op.move (Operand.tmp 79), type := 4, pos := "outright.go:27", after := #[{ on := 27, ground := Ground.data }, { on := 22, ground := Ground.chain }], guard := none }) (by kernel_rfl) ?_ ?_ ?_
  rotate_left
  · (go_simp; try with_reducible rfl)
  (try simp only [Act.put, List.setIfInBounds_toArray, List.set_cons_zero, List.set_cons_succ])
  refine wpList_exec_if (op := { dst := some 81, op := Op.fieldAddr 27 (Operand.tmp 9) 3, type := 0, pos := "outright.go:27", after := #[{ on := 28, ground := Ground.guard }], guard := some (28, true) }) (by kernel_rfl) ?_ ?_ ?_
  rotate_left
  · (go_simp; try with_reducible rfl)
  (try simp only [Act.put, List.setIfInBounds_toArray, List.set_cons_zero, List.set_cons_succ])
  refine wpList_load_if (op := { dst := some 82, op := Op.load 23 (Operand.tmp 81), type := 23, pos := "outright.go:27", after := #[{ on := 29, ground := Ground.data }, { on := 28, ground := Ground.guard }], guard := some (28, true) }) (by kernel_rfl) 23 _ rfl (g9) 3 rfl VF _ r1 Try.underlying23 rfl HI_VF.out ?_
  (try simp only [Act.put, List.setIfInBounds_toArray, List.set_cons_zero, List.set_cons_succ])
  refine wpList_load_if (op := { dst := some 83, op := Op.load 23 (Operand.tmp 4), type := 23, pos := "outright.go:27", after := #[{ on := 28, ground := Ground.guard }], guard := some (28, true) }) (by kernel_rfl) 23 _ rfl (w.heap.size) 0 rfl VF _ rF Try.underlying23 rfl HI_VF.out ?_
  (try simp only [Act.put, List.setIfInBounds_toArray, List.set_cons_zero, List.set_cons_succ])
  refine wpList_exec_if (op := { dst := some 84, op := Op.binOp BinOp.eql 23 (Operand.tmp 82) (Operand.tmp 83) 23, type := 4, pos := "outright.go:27", after := #[{ on := 30, ground := Ground.data }, { on := 31, ground := Ground.data }, { on := 28, ground := Ground.guard }], guard := some (28, true) }) (by kernel_rfl) ?_ ?_ ?_
  rotate_left
  · (go_simp; try with_reducible rfl)
  (try simp only [Act.put, List.setIfInBounds_toArray, List.set_cons_zero, List.set_cons_succ])
  refine wpList_exec_if (op := { dst := some 85, op := Op.pick (Operand.tmp 80) (Operand.tmp 84) (Operand.const (Value.bool false)), type := 4, pos := "outright.go:27", after := #[{ on := 28, ground := Ground.data }, { on := 32, ground := Ground.data }], guard := none }) (by kernel_rfl) ?_ ?_ ?_
  rotate_left
  · (go_simp; try with_reducible rfl)
  (try simp only [Act.put, List.setIfInBounds_toArray, List.set_cons_zero, List.set_cons_succ])
  refine wpList_exec_if (op := { dst := some 86, op := Op.move (Operand.tmp 85), type := 4, pos := "outright.go:27", after := #[{ on := 33, ground := Ground.data }, { on := 28, ground := Ground.chain }], guard := none }) (by kernel_rfl) ?_ ?_ ?_
  rotate_left
  · (go_simp; try with_reducible rfl)
  (try simp only [Act.put, List.setIfInBounds_toArray, List.set_cons_zero, List.set_cons_succ])
  refine wpList_exec_if (op := { dst := some 87, op := Op.fieldAddr 27 (Operand.tmp 9) 4, type := 0, pos := "outright.go:27", after := #[{ on := 34, ground := Ground.guard }], guard := some (34, true) }) (by kernel_rfl) ?_ ?_ ?_
  rotate_left
  · (go_simp; try with_reducible rfl)
  (try simp only [Act.put, List.setIfInBounds_toArray, List.set_cons_zero, List.set_cons_succ])
  refine wpList_load_if (op := { dst := some 88, op := Op.load 23 (Operand.tmp 87), type := 23, pos := "outright.go:27", after := #[{ on := 35, ground := Ground.data }, { on := 34, ground := Ground.guard }], guard := some (34, true) }) (by kernel_rfl) 23 _ rfl (g9) 19 rfl VT _ r2 Try.underlying23 rfl HI_VT.out ?_
  (try simp only [Act.put, List.setIfInBounds_toArray, List.set_cons_zero, List.set_cons_succ])
  refine wpList_load_if (op := { dst := some 89, op := Op.load 23 (Operand.tmp 5), type := 23, pos := "outright.go:27", after := #[{ on := 34, ground := Ground.guard }], guard := some (34, true) }) (by kernel_rfl) 23 _ rfl (w.heap.size + 1) 0 rfl VT _ rT Try.underlying23 rfl HI_VT.out ?_
  (try simp only [Act.put, List.setIfInBounds_toArray, List.set_cons_zero, List.set_cons_succ])
  refine wpList_exec_if (op := { dst := some 90, op := Op.binOp BinOp.eql 23 (Operand.tmp 88) (Operand.tmp 89) 23, type := 4, pos := "outright.go:27", after := #[{ on := 36, ground := Ground.data }, { on := 37, ground := Ground.data }, { on := 34, ground := Ground.guard }], guard := some (34, true) }) (by kernel_rfl) ?_ ?_ ?_
  rotate_left
  · (go_simp; try with_reducible rfl)
  (try simp only [Act.put, List.setIfInBounds_toArray, List.set_cons_zero, List.set_cons_succ])
  refine wpList_exec_if (op := { dst := some 91, op := Op.pick (Operand.tmp 86) (Operand.tmp 90) (Operand.const (Value.bool false)), type := 4, pos := "outright.go:27", after := #[{ on := 34, ground := Ground.data }, { on := 38, ground := Ground.data }], guard := none }) (by kernel_rfl) ?_ ?_ ?_
  rotate_left
  · (go_simp; try with_reducible rfl)
  (try simp only [Act.put, List.setIfInBounds_toArray, List.set_cons_zero, List.set_cons_succ])
  refine wpList_exec_if (op := { dst := some 92, op := Op.move (Operand.tmp 91), type := 4, pos := "outright.go:27", after := #[{ on := 39, ground := Ground.data }, { on := 34, ground := Ground.chain }], guard := none }) (by kernel_rfl) ?_ ?_ ?_
  rotate_left
  · (go_simp; try with_reducible rfl)
  (try simp only [Act.put, List.setIfInBounds_toArray, List.set_cons_zero, List.set_cons_succ])
  refine wpList_exec_if (op := { dst := some 93, op := Op.fieldAddr 27 (Operand.tmp 9) 6, type := 0, pos := "outright.go:27", after := #[{ on := 40, ground := Ground.guard }], guard := some (40, true) }) (by kernel_rfl) ?_ ?_ ?_
  rotate_left
  · (go_simp; try with_reducible rfl)
  (try simp only [Act.put, List.setIfInBounds_toArray, List.set_cons_zero, List.set_cons_succ])
  refine wpList_exec_if (op := { dst := some 94, op := Op.load 4 (Operand.tmp 93), type := 4, pos := "outright.go:27", after := #[{ on := 41, ground := Ground.data }, { on := 40, ground := Ground.guard }], guard := some (40, true) }) (by kernel_rfl) ?_ ?_ ?_
  rotate_left
  · (go_simp; try with_reducible rfl)
  (try simp only [Act.put, List.setIfInBounds_toArray, List.set_cons_zero, List.set_cons_succ])
  refine wpList_exec_if (op := { dst := some 95, op := Op.fieldAddr 35 (Operand.tmp 7) 6, type := 0, pos := "outright.go:27", after := #[{ on := 40, ground := Ground.guard }], guard := some (40, true) }) (by kernel_rfl) ?_ ?_ ?_
  rotate_left
  · (go_simp; try with_reducible rfl)
  (try simp only [Act.put, List.setIfInBounds_toArray, List.set_cons_zero, List.set_cons_succ])
  refine wpList_exec_if (op := { dst := some 96, op := Op.load 4 (Operand.tmp 95), type := 4, pos := "outright.go:27", after := #[{ on := 43, ground := Ground.data }, { on := 40, ground := Ground.guard }], guard := some (40, true) }) (by kernel_rfl) ?_ ?_ ?_
  rotate_left
  · (go_simp; try with_reducible rfl)
  (try simp only [Act.put, List.setIfInBounds_toArray, List.set_cons_zero, List.set_cons_succ])
  refine wpList_exec_if (op := { dst := some 97, op := Op.move (Operand.tmp 96), type := 4, pos := "outright.go:27", after := #[{ on := 44, ground := Ground.data }, { on := 40, ground := Ground.chain }, { on := 40, ground := Ground.guard }], guard := some (40, true) }) (by kernel_rfl) ?_ ?_ ?_
  rotate_left
  · (go_simp; try with_reducible rfl)
  (try simp only [Act.put, List.setIfInBounds_toArray, List.set_cons_zero, List.set_cons_succ])
  refine wpList_exec_if (op := { dst := some 98, op := Op.fieldAddr 35 (Operand.tmp 7) 4, type := 0, pos := "outright.go:27", after := #[{ on := 45, ground := Ground.guard }], guard := some (45, false) }) (by kernel_rfl) ?_ ?_ ?_
  rotate_left
  · (go_simp; try with_reducible rfl)
  (try simp only [Act.put, List.setIfInBounds_toArray, List.set_cons_zero, List.set_cons_succ])
  refine wpList_exec_if (op := { dst := some 99, op := Op.load 3 (Operand.tmp 98), type := 3, pos := "outright.go:27", after := #[{ on := 46, ground := Ground.data }, { on := 45, ground := Ground.guard }], guard := some (45, false) }) (by kernel_rfl) ?_ ?_ ?_
  rotate_left
  · (go_simp; try with_reducible rfl)
  (try simp only [Act.put, List.setIfInBounds_toArray, List.set_cons_zero, List.set_cons_succ])
  refine wpList_exec_if (op := { dst := some 100, op := Op.binOp BinOp.gtr 3 (Operand.tmp 99) (Operand.const (Value.int IntKind.i64 0)) 3, type := 4, pos := "outright.go:27", after := #[{ on := 47, ground := Ground.data }, { on := 45, ground := Ground.guard }], guard := some (45, false) }) (by kernel_rfl) ?_ ?_ ?_
  rotate_left
  · (go_simp; try with_reducible rfl)
  (try simp only [Act.put, List.setIfInBounds_toArray, List.set_cons_zero, List.set_cons_succ])
  refine wpList_exec_if (op := { dst := some 101, op := Op.pick (Operand.tmp 97) (Operand.const (Value.bool true)) (Operand.tmp 100), type := 4, pos := "outright.go:27", after := #[{ on := 45, ground := Ground.data }, { on := 48, ground := Ground.data }, { on := 40, ground := Ground.guard }], guard := some (40, true) }) (by kernel_rfl) ?_ ?_ ?_
  rotate_left
  · (go_simp; try with_reducible rfl)
  (try simp only [Act.put, List.setIfInBounds_toArray, List.set_cons_zero, List.set_cons_succ])
  refine wpList_exec_if (op := { dst := some 102, op := Op.binOp BinOp.eql 4 (Operand.tmp 94) (Operand.tmp 101) 4, type := 4, pos := "outright.go:27", after := #[{ on := 42, ground := Ground.data }, { on := 49, ground := Ground.data }, { on := 40, ground := Ground.guard }], guard := some (40, true) }) (by kernel_rfl) ?_ ?_ ?_
  rotate_left
  · (go_simp; try with_reducible rfl)
  (try simp only [Act.put, List.setIfInBounds_toArray, List.set_cons_zero, List.set_cons_succ])
  refine wpList_exec_if (op := { dst := some 103, op := Op.pick (Operand.tmp 92) (Operand.tmp 102) (Operand.const (Value.bool false)), type := 4, pos := "outright.go:27", after := #[{ on := 40, ground := Ground.data }, { on := 50, ground := Ground.data }], guard := none }) (by kernel_rfl) ?_ ?_ ?_
  rotate_left
  · (go_simp; try with_reducible rfl)
  (try simp only [Act.put, List.setIfInBounds_toArray, List.set_cons_zero, List.set_cons_succ])
  refine wpList_exec_if (op := { dst := some 104, op := Op.move (Operand.tmp 103), type := 4, pos := "outright.go:27", after := #[{ on := 51, ground := Ground.data }, { on := 45, ground := Ground.chain }], guard := none }) (by kernel_rfl) ?_ ?_ ?_
  rotate_left
  · (go_simp; try with_reducible rfl)
  (try simp only [Act.put, List.setIfInBounds_toArray, List.set_cons_zero, List.set_cons_succ])
  refine wpList_exec_if (op := { dst := some 105, op := Op.fieldAddr 27 (Operand.tmp 9) 6, type := 0, pos := "outright.go:27", after := #[{ on := 52, ground := Ground.guard }], guard := some (52, true) }) (by kernel_rfl) ?_ ?_ ?_
  rotate_left
  · (go_simp; try with_reducible rfl)
  (try simp only [Act.put, List.setIfInBounds_toArray, List.set_cons_zero, List.set_cons_succ])
  refine wpList_exec_if (op := { dst := some 106, op := Op.load 4 (Operand.tmp 105), type := 4, pos := "outright.go:27", after := #[{ on := 53, ground := Ground.data }, { on := 52, ground := Ground.guard }], guard := some (52, true) }) (by kernel_rfl) ?_ ?_ ?_
  rotate_left
  · (go_simp; try with_reducible rfl)
  (try simp only [Act.put, List.setIfInBounds_toArray, List.set_cons_zero, List.set_cons_succ])
  refine wpList_exec_if (op := { dst := some 107, op := Op.unOp UnOp.not 4 (Operand.tmp 106), type := 4, pos := "outright.go:27", after := #[{ on := 54, ground := Ground.data }, { on := 52, ground := Ground.guard }], guard := some (52, true) }) (by kernel_rfl) ?_ ?_ ?_
  rotate_left
  · (go_simp; try with_reducible rfl)
  (try simp only [Act.put, List.setIfInBounds_toArray, List.set_cons_zero, List.set_cons_succ])
  go_wp2_with (fail)
  all_goals (go_ret; refine ⟨?_, HK7.out.2.1⟩; first | rfl | simp)
theorem head46Goes_any (s : ByteArray) (F T : List UInt8) (w : World) (hF : F.length = 16) (hT : T.length = 16) :
    Calls Try.prog 5 #[.string s, .agg (bytV F).toArray, .agg (bytV T).toArray] w fun e w' => e = .returned (.bool true) ∧ Below w.heap.size w w' := by
  by_cases hs : (70000 : Int) < (s.size : Int)
  · exact goes_long s F T hF hT w hs
  by_cases hc : P4.pcode s = 0
  · by_cases hh : hcode (P4.ppkt s) = 0
    · cases hm : (P4.ppkt s).more
      · by_cases hl : (P4.ppkt s).pl = 0
        · exact goes_whole s F T hF hT w hs hc hh hm hl
        · exact goes_a s F T hF hT w hs hc hh hm (by rw [bne_iff_ne]; exact hl)
      · exact goes_m s F T hF hT w hs hc hh hm
    · exact goes_bad s F T hF hT w hs hc hh
  · exact goes_none s F T hF hT w hs hc
end Go.Proofs.Ytdljjcnihajchaa
