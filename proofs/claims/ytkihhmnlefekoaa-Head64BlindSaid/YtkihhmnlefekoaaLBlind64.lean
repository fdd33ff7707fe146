/-
  Proved here: the law Head64Blind answers true.
  Conditions: none.
-/
import Derived.Test.YtkihhmnlefekoaaBln
namespace Go.Proofs.Ytkihhmnlefekoaa
open Go.RowKit

set_option maxRecDepth 100000 in
set_option maxHeartbeats 4000000 in
theorem blind64_bad (p : Pk6) (v : Value) (f0 f1 f2 f3 t0 t1 t2 t3 : Int) (x y flow : Int) (w : World) (hx : Exs w v p.exts) (hq : Rch p) (hg : p.great = false) (ix : 0 ≤ x ∧ x ≤ 65535) (iy : 0 ≤ y ∧ y ≤ 65535) (hh : hcode64 p x ≠ 0) :
    Calls Try.prog 7 #[.agg (p.vals v).toArray, .agg ([.int .u8 f0, .int .u8 f1, .int .u8 f2, .int .u8 f3] : List Value).toArray, .agg ([.int .u8 t0, .int .u8 t1, .int .u8 t2, .int .u8 t3] : List Value).toArray, .int .u16 x, .int .u16 y, .int .i64 flow] w (fun e w' => e = .returned (.bool true) ∧ Below w.heap.size w w') := by
  have hn := great_no hg
  have HG : Hid (∀ W, Below w.heap.size w W → Calls Try.prog 14 #[.agg (p.vals v).toArray] W fun e w' => e = .returned (.bool false) ∧ Below W.heap.size W w') := Lib.hid (fun W hW => by rw [← hg]; exact great_any p v W (hx.below hW (Nat.le_refl _)) hq.len hq.data hq.body)
  have hy : hcode64 p y ≠ 0 := by rw [hcode64_id iy ix]; exact hh
  obtain ⟨VA, hVA⟩ : ∃ V, V = P4.pkt0.vals := ⟨_, rfl⟩
  have CH : Hid (∀ W, Below w.heap.size w W → Calls Try.prog 9 #[.agg (p.vals v).toArray, .agg ([.int .u8 f0, .int .u8 f1, .int .u8 f2, .int .u8 f3] : List Value).toArray, .agg ([.int .u8 t0, .int .u8 t1, .int .u8 t2, .int .u8 t3] : List Value).toArray, .int .i64 x] W fun e w' => ∃ f : Nat, e = .returned (.tuple #[.agg VA.toArray, .iface 75 (.pointer (some ⟨f, 0, none⟩))]) ∧ Below W.heap.size W w') := Lib.hid (fun W hW => by
    refine (head64_any p v f0 f1 f2 f3 t0 t1 t2 t3 x W (hx.below hW (Nat.le_refl _)) (show p.exts.length ≤ _ by omega) (show p.data.size ≤ _ by omega)).mono ?_
    rintro e w' ⟨q, rfl, her, b⟩
    rcases her with ⟨h, _⟩ | ⟨_, f, rfl, _, _⟩
    · exact absurd h hh
    · exact ⟨f, by rw [hVA, hout64_bad hh], b⟩)
  have CG : Hid (∀ W, Below w.heap.size w W → Calls Try.prog 9 #[.agg ((bl3 p flow).vals v).toArray, .agg ([.int .u8 f0, .int .u8 f1, .int .u8 f2, .int .u8 f3] : List Value).toArray, .agg ([.int .u8 t0, .int .u8 t1, .int .u8 t2, .int .u8 t3] : List Value).toArray, .int .i64 y] W fun e w' => ∃ f : Nat, e = .returned (.tuple #[.agg VA.toArray, .iface 75 (.pointer (some ⟨f, 0, none⟩))]) ∧ Below W.heap.size W w') := Lib.hid (fun W hW => by
    refine (head64_any (bl3 p flow) v f0 f1 f2 f3 t0 t1 t2 t3 y W (hx.below hW (Nat.le_refl _)) (show p.exts.length ≤ _ by omega) (show p.data.size ≤ _ by omega)).mono ?_
    rintro e w' ⟨q, rfl, her, b⟩
    rcases her with ⟨h, _⟩ | ⟨_, f, rfl, _, _⟩
    · exact absurd h (show hcode64 (bl3 p flow) y ≠ 0 from hy)
    · exact ⟨f, by rw [hVA, hout64_bad (show hcode64 (bl3 p flow) y ≠ 0 from hy)], b⟩)
  have HI_VA : Hid ((Try.prog.info? 25).map (·.size) = some VA.length) := Lib.hid (by rw [hVA]; exact P4.Try.infoIp _)
  have HO_VA : Hid ((VA).toArray.all (·.oneCell') = true) := Lib.hid (by rw [hVA]; exact P4.vals_one _)
  have HL_VA : Hid (VA.length = 17) := Lib.hid (by rw [hVA]; rfl)
  have HEV_VA : Hid (∀ W, (binOp .eql 25 (.agg VA.toArray) (.agg VA.toArray)).run Try.prog W = .ok (.bool true) W) := Lib.hid (fun W => by rw [hVA]; exact P4.eqlP (P4.pkt0) W)
  have HBZ : Hid (∀ W, (Instr.build 25 #[]).run Try.prog W = .ok (.agg VA.toArray) W) := Lib.hid (fun W => by rw [hVA]; exact build4Z W)
  have HI_X1 : Hid ((Try.prog.info? 35).map (·.size) = some ((bl1 p flow).vals v).length) := Lib.hid (Try.info6 _ _)
  have HL_X1 : Hid (((bl1 p flow).vals v).length = 42) := Lib.hid (vals_len _ _)
  have HI_X2 : Hid ((Try.prog.info? 35).map (·.size) = some ((bl2 p flow).vals v).length) := Lib.hid (Try.info6 _ _)
  have HL_X2 : Hid (((bl2 p flow).vals v).length = 42) := Lib.hid (vals_len _ _)
  have HI_X3 : Hid ((Try.prog.info? 35).map (·.size) = some ((bl3 p flow).vals v).length) := Lib.hid (Try.info6 _ _)
  have HL_X3 : Hid (((bl3 p flow).vals v).length = 42) := Lib.hid (vals_len _ _)
  have HE1 := Lib.hid (bl_vals1 p v flow)
  have HE2 := Lib.hid (bl_vals2 p v flow)
  have HE3 := Lib.hid (bl_vals3 p v flow)
  have HRG : Hid (∀ (W : World) (b : Nat), Bk W b 35 (p.vals v).toArray → W.rangeAt b 3 (bytV p.fr) ∧ W.rangeAt b 19 (bytV p.dst)) := Lib.hid (fun W b h => ⟨(cs6 h).fr, (cs6 h).dst⟩)
  have HI_VS : Hid ((Try.prog.info? 32).map (·.size) = some (bytV p.fr).length) := Lib.hid (Try.infoV6 _ p.hfr)
  have HO_VS : Hid ((bytV p.fr).toArray.all (·.oneCell') = true) := Lib.hid (by rw [List.all_toArray, List.all_eq_true]; exact bytV_one _)
  have HL_VS : Hid ((bytV p.fr).length = 16) := Lib.hid (by rw [bytV_len]; exact p.hfr)
  have HI_VD : Hid ((Try.prog.info? 32).map (·.size) = some (bytV p.dst).length) := Lib.hid (Try.infoV6 _ p.hdst)
  have HO_VD : Hid ((bytV p.dst).toArray.all (·.oneCell') = true) := Lib.hid (by rw [List.all_toArray, List.all_eq_true]; exact bytV_one _)
  have HL_VD : Hid ((bytV p.dst).length = 16) := Lib.hid (by rw [bytV_len]; exact p.hdst)
  clear hy hh hg hn hVA
  generalize bytV p.fr = VS at *
  generalize bytV p.dst = VD at *
  generalize (bl1 p flow).vals v = X1 at *
  generalize (bl2 p flow).vals v = X2 at *
  generalize (bl3 p flow).vals v = X3 at *
  have kx : IntKind.i64.wrap x = x := IntWalk.i64_in _ (by omega)
  have ky : IntKind.i64.wrap y = y := IntWalk.i64_in _ (by omega)
  have HI_VP : Hid ((Try.prog.info? 35).map (·.size) = some (p.vals v).length) := Lib.hid (Try.info6 _ _)
  have HO_VP : Hid ((p.vals v).toArray.all (·.oneCell') = true) := Lib.hid (vals_one _ _ (exs_cell hx))
  have HL_VP : Hid ((p.vals v).length = 42) := Lib.hid (vals_len _ _)
  have HC_VP_0 : Hid ((p.vals v)[0]? = some (.int .i64 p.cls)) := Lib.hid (rfl)
  have HC_VP_2 : Hid ((p.vals v)[2]? = some (.int .i64 p.hop)) := Lib.hid (rfl)
  have HC_VP_35 : Hid ((p.vals v)[35]? = some (v)) := Lib.hid (vals_tail p v 0)
  have HC_VP_36 : Hid ((p.vals v)[36]? = some (.bool p.frag)) := Lib.hid (vals_tail p v 1)
  have HC_VP_37 : Hid ((p.vals v)[37]? = some (.int .u32 p.id)) := Lib.hid (vals_tail p v 2)
  have HC_VP_38 : Hid ((p.vals v)[38]? = some (.int .i64 p.pl)) := Lib.hid (vals_tail p v 3)
  have HC_VP_39 : Hid ((p.vals v)[39]? = some (.bool p.more)) := Lib.hid (vals_tail p v 4)
  have HC_VP_40 : Hid ((p.vals v)[40]? = some (.int .i64 p.proto)) := Lib.hid (vals_tail p v 5)
  have HC_VP_41 : Hid ((p.vals v)[41]? = some (.string p.data)) := Lib.hid (vals_tail p v 6)
  have HI_VF : Hid ((Try.prog.info? 23).map (·.size) = some (([.int .u8 f0, .int .u8 f1, .int .u8 f2, .int .u8 f3] : List Value)).length) := Lib.hid (Try.infoV4c _ _ _ _)
  have HI_VT : Hid ((Try.prog.info? 23).map (·.size) = some (([.int .u8 t0, .int .u8 t1, .int .u8 t2, .int .u8 t3] : List Value)).length) := Lib.hid (Try.infoV4c _ _ _ _)
  have HX := Lib.hid hx
  clear hx
  have HK1 : Hid (Kp w w.heap.size [(w.heap.size + 1 + 1, 23, ([.int .u8 t0, .int .u8 t1, .int .u8 t2, .int .u8 t3] : List Value)), (w.heap.size + 1, 23, ([.int .u8 f0, .int .u8 f1, .int .u8 f2, .int .u8 f3] : List Value)), (w.heap.size, 35, p.vals v)] (((w.alloc (.cells (p.vals v).toArray 35)).alloc (.cells ([.int .u8 f0, .int .u8 f1, .int .u8 f2, .int .u8 f3] : List Value).toArray 23)).alloc (.cells ([.int .u8 t0, .int .u8 t1, .int .u8 t2, .int .u8 t3] : List Value).toArray 23))) := Lib.hid (by
    have h := ((Kp.start w).new 35 (p.vals v)).new 23 ([.int .u8 f0, .int .u8 f1, .int .u8 f2, .int .u8 f3] : List Value)
    have e1 : (w.alloc (.cells (p.vals v).toArray 35)).heap.size = w.heap.size + 1 := by simp
    have e2 : ((w.alloc (.cells (p.vals v).toArray 35)).alloc (.cells ([.int .u8 f0, .int .u8 f1, .int .u8 f2, .int .u8 f3] : List Value).toArray 23)).heap.size = w.heap.size + 1 + 1 := by simp
    rw [e1] at h
    have h2 := h.new 23 ([.int .u8 t0, .int .u8 t1, .int .u8 t2, .int .u8 t3] : List Value)
    rwa [e2] at h2)
  generalize p.vals v = VP at *
  generalize ([.int .u8 f0, .int .u8 f1, .int .u8 f2, .int .u8 f3] : List Value) = VF at *
  generalize ([.int .u8 t0, .int .u8 t1, .int .u8 t2, .int .u8 t3] : List Value) = VT at *
  generalize hw1 : ((w.alloc (.cells VP.toArray 35)).alloc (.cells VF.toArray 23)).alloc (.cells VT.toArray 23) = w1 at *
  go_enter Try.func7, Try.ntmps7
  go_upto_region 1 with (fail)
  clear hw1
  go_wp2_with (fail)
  refine (awake64_true _).mono ?_
  rintro e w2 ⟨rfl, bb⟩
  have HK2 := Lib.hid (HK1.out.below bb (Nat.le_refl _))
  clear bb HK1
  have hr0 := HK2.out.tl.tl.hd.range
  go_wp2_with (((with_reducible (change wpList _ _ _ _ _ _)); ((refine wpList_load_mid rfl 35 _ rfl (w.heap.size) 0 rfl (VP) _ hr0 Try.underlying35 rfl HI_VP.out ?_))))
  clear hr0
  refine (HG.out _ HK2.out.2.1).mono ?_
  rintro e w3 ⟨rfl, bb⟩
  have HK3 := Lib.hid (HK2.out.below bb (Nat.le_refl _))
  clear bb HK2
  go_upto_region 5 with (fail)
  have hr0 := HK3.out.tl.tl.hd.range
  have hr1 := HK3.out.tl.hd.range
  have hr2 := HK3.out.hd.range
  go_wp2_with (((with_reducible (change wpList _ _ _ _ _ _)); (first | (refine wpList_load_mid rfl 35 _ rfl (w.heap.size) 0 rfl (VP) _ hr0 Try.underlying35 rfl HI_VP.out ?_) | (refine wpList_load_mid rfl 23 _ rfl (w.heap.size + 1) 0 rfl (VF) _ hr1 Try.underlying23 rfl HI_VF.out ?_) | (refine wpList_load_mid rfl 23 _ rfl (w.heap.size + 1 + 1) 0 rfl (VT) _ hr2 Try.underlying23 rfl HI_VT.out ?_))))
  clear hr0 hr1 hr2
  refine (CH.out _ HK3.out.2.1).mono ?_
  rintro e w4 ⟨f1, rfl, bb⟩
  have HK4 := Lib.hid (HK3.out.below bb (Nat.le_refl _))
  clear bb HK3
  have ht := (bk_new w4 25 ([.int .i64 0, .int .i64 0, .int .i64 0, .int .i64 0, .int .i64 0, .bool false, .bool false, .int .u8 0, .int .u8 0, .int .u8 0, .int .u8 0, .int .u8 0, .int .u8 0, .int .u8 0, .int .u8 0, .string ⟨#[]⟩, .string ⟨#[]⟩] : List Value).toArray).there VA.toArray.size (by have := HL_VA.out; simp; omega)
  go_upto_region 6 with (((with_reducible (change wpList _ _ _ _ _ _)); ((refine wpList_store_mid rfl 25 _ _ rfl (w4.heap.size) 0 VA.toArray rfl rfl ht (by simpa using HI_VA.out) HO_VA.out ?_))))
  have HK5 := Lib.hid (HK4.out.put 25 ([.int .i64 0, .int .i64 0, .int .i64 0, .int .i64 0, .int .i64 0, .bool false, .bool false, .int .u8 0, .int .u8 0, .int .u8 0, .int .u8 0, .int .u8 0, .int .u8 0, .int .u8 0, .int .u8 0, .string ⟨#[]⟩, .string ⟨#[]⟩] : List Value).toArray VA (by have := HL_VA.out; simp; omega))
  clear ht HK4
  generalize (w4.alloc (.cells ([.int .i64 0, .int .i64 0, .int .i64 0, .int .i64 0, .int .i64 0, .bool false, .bool false, .int .u8 0, .int .u8 0, .int .u8 0, .int .u8 0, .int .u8 0, .int .u8 0, .int .u8 0, .int .u8 0, .string ⟨#[]⟩, .string ⟨#[]⟩] : List Value).toArray 25)).setCells w4.heap.size 0 VA = w5 at *
  generalize w4.heap.size = g7 at *
  have HG7 : Hid (g7 < w5.heap.size ∧ w.heap.size + 1 + 1 < w5.heap.size) := Lib.hid ⟨HK5.out.hd.lt, HK5.out.tl.hd.lt⟩
  have hr0 := HK5.out.tl.tl.tl.hd.range
  have ht := (bk_new w5 35 ([.int .i64 0, .int .i64 0, .int .i64 0, .int .u8 0, .int .u8 0, .int .u8 0, .int .u8 0, .int .u8 0, .int .u8 0, .int .u8 0, .int .u8 0, .int .u8 0, .int .u8 0, .int .u8 0, .int .u8 0, .int .u8 0, .int .u8 0, .int .u8 0, .int .u8 0, .int .u8 0, .int .u8 0, .int .u8 0, .int .u8 0, .int .u8 0, .int .u8 0, .int .u8 0, .int .u8 0, .int .u8 0, .int .u8 0, .int .u8 0, .int .u8 0, .int .u8 0, .int .u8 0, .int .u8 0, .int .u8 0, .slice none 0 0, .bool false, .int .u32 0, .int .i64 0, .bool false, .int .i64 0, .string ⟨#[]⟩] : List Value).toArray).there VP.toArray.size (by have := HL_VP.out; simp; omega)
  go_upto_region 7 with (((with_reducible (change wpList _ _ _ _ _ _)); (first | (refine wpList_load_mid rfl 35 _ rfl (w.heap.size) 0 rfl (VP) _ hr0 Try.underlying35 rfl HI_VP.out ?_) | (refine wpList_store_mid rfl 35 _ _ rfl (w5.heap.size) 0 VP.toArray rfl rfl ht (by simpa using HI_VP.out) HO_VP.out ?_))))
  have HK6 := Lib.hid (HK5.out.put 35 ([.int .i64 0, .int .i64 0, .int .i64 0, .int .u8 0, .int .u8 0, .int .u8 0, .int .u8 0, .int .u8 0, .int .u8 0, .int .u8 0, .int .u8 0, .int .u8 0, .int .u8 0, .int .u8 0, .int .u8 0, .int .u8 0, .int .u8 0, .int .u8 0, .int .u8 0, .int .u8 0, .int .u8 0, .int .u8 0, .int .u8 0, .int .u8 0, .int .u8 0, .int .u8 0, .int .u8 0, .int .u8 0, .int .u8 0, .int .u8 0, .int .u8 0, .int .u8 0, .int .u8 0, .int .u8 0, .int .u8 0, .slice none 0 0, .bool false, .int .u32 0, .int .i64 0, .bool false, .int .i64 0, .string ⟨#[]⟩] : List Value).toArray VP (by have := HL_VP.out; simp; omega))
  clear ht HK5
  generalize (w5.alloc (.cells ([.int .i64 0, .int .i64 0, .int .i64 0, .int .u8 0, .int .u8 0, .int .u8 0, .int .u8 0, .int .u8 0, .int .u8 0, .int .u8 0, .int .u8 0, .int .u8 0, .int .u8 0, .int .u8 0, .int .u8 0, .int .u8 0, .int .u8 0, .int .u8 0, .int .u8 0, .int .u8 0, .int .u8 0, .int .u8 0, .int .u8 0, .int .u8 0, .int .u8 0, .int .u8 0, .int .u8 0, .int .u8 0, .int .u8 0, .int .u8 0, .int .u8 0, .int .u8 0, .int .u8 0, .int .u8 0, .int .u8 0, .slice none 0 0, .bool false, .int .u32 0, .int .i64 0, .bool false, .int .i64 0, .string ⟨#[]⟩] : List Value).toArray 35)).setCells w5.heap.size 0 VP = w6 at *
  generalize w5.heap.size = g9 at *
  clear hr0
  have hne : ∀ x ∈ ([(g7, 25, VA), (w.heap.size + 1 + 1, 23, VT), (w.heap.size + 1, 23, VF), (w.heap.size, 35, VP)] : List (Nat × TypeId × List Value)), x.1 ≠ g9 := by
    have hg := HG7.out
    intro x hx
    simp only [List.mem_cons, List.not_mem_nil, or_false] at hx
    rcases hx with rfl | rfl | rfl | rfl <;> (show _ ≠ g9; omega)
  have hgB : w.heap.size ≤ g9 := by have := HG7.out; omega
  have HNE := Lib.hid (And.intro hne hgB)
  clear hne hgB
  obtain ⟨uu, hu, hz⟩ := HK6.out.some1 1 (by have := HL_VP.out; omega)
  go_upto_region 8 with (fail)
  have hk := HK6.out.set1 HNE.out.1 HNE.out.2 1 (.int .i64 flow)
  rw [HE1.out] at hk
  have HK7 := Lib.hid hk
  clear hk hu hz HK6
  generalize w6.setCell ⟨g9, 1, none⟩ (.int .i64 flow) = w7 at *
  have HKR : Hid (∀ W : World, Pst w w.heap.size [(g7, 25, VA), (w.heap.size + 1 + 1, 23, VT), (w.heap.size + 1, 23, VF), (w.heap.size, 35, VP)] g9 35 42 W → (fun w' => Pst w w.heap.size [(g7, 25, VA), (w.heap.size + 1 + 1, 23, VT), (w.heap.size + 1, 23, VF), (w.heap.size, 35, VP)] g9 35 42 w' ∧ w'.rangeAt (w.heap.size) 3 VS ∧ w'.rangeAt (w.heap.size) 19 VD) W) := Lib.hid (fun W k => ⟨k, HRG.out _ _ k.1.tl.tl.tl.hd⟩)
  refine wp_region_noPanic ?_
  refine wp_region_held_drew (S := fun w' => Pst w w.heap.size [(g7, 25, VA), (w.heap.size + 1 + 1, 23, VT), (w.heap.size + 1, 23, VF), (w.heap.size, 35, VP)] g9 35 42 w' ∧ w'.rangeAt (w.heap.size) 3 VS ∧ w'.rangeAt (w.heap.size) 19 VD) (by kernel_rfl) (HKR.out _ (Pst.of HK7.out.drew HL_X1.out)) (fun hHeld => ?_)
  refine wpAnyH_take (i := 0) (oi := { dst := some 36, op := Op.fieldAddr 35 (Operand.tmp 6) 4, type := 0, pos := "more.go:21", after := #[], guard := none }) (v := ?_) rfl (by kernel_rfl) (by kernel_rfl) (by kernel_rfl) (fun _ _ _ h => h) (Or.inl ⟨by rfl, ?_⟩) (by assumption) ?_
  rotate_left
  · (intro ww hSw; (try dsimp only at hSw); go_simp; try with_reducible rfl)
  (try simp only [Act.put, List.setIfInBounds_toArray, List.set_cons_zero, List.set_cons_succ])
  refine wpAnyH_take (i := 1) (oi := { dst := some 37, op := Op.load 32 (Operand.tmp 36), type := 32, pos := "more.go:21", after := #[{ on := 0, ground := Ground.data }], guard := none }) (v := .agg (VD).toArray) rfl (by kernel_rfl) (by kernel_rfl) (by kernel_rfl) (fun _ _ _ h => h) (yieldsIf_load_mid (by rfl) _ _ rfl (w.heap.size) 19 rfl (VD) _ (fun ww hSw => hSw.2.2) Try.underlying32 rfl HI_VD.out) (by assumption) ?_
  (try simp only [Act.put, List.setIfInBounds_toArray, List.set_cons_zero, List.set_cons_succ])
  refine wpAnyH_take (i := 2) (oi := { dst := some 38, op := Op.fieldAddr 35 (Operand.tmp 6) 3, type := 0, pos := "more.go:21", after := #[{ on := 5, ground := Ground.gcOnly Departure.lateStores }], guard := none }) (v := ?_) rfl (by kernel_rfl) (by kernel_rfl) (by kernel_rfl) (fun _ _ _ h => h) (Or.inl ⟨by rfl, ?_⟩) (by assumption) ?_
  rotate_left
  · (intro ww hSw; (try dsimp only at hSw); go_simp; try with_reducible rfl)
  (try simp only [Act.put, List.setIfInBounds_toArray, List.set_cons_zero, List.set_cons_succ])
  refine wpAnyH_take (i := 3) (oi := { dst := some 39, op := Op.load 32 (Operand.tmp 38), type := 32, pos := "more.go:21", after := #[{ on := 2, ground := Ground.data }, { on := 5, ground := Ground.gcOnly Departure.lateStores }], guard := none }) (v := .agg (VS).toArray) rfl (by kernel_rfl) (by kernel_rfl) (by kernel_rfl) (fun _ _ _ h => h) (yieldsIf_load_mid (by rfl) _ _ rfl (w.heap.size) 3 rfl (VS) _ (fun ww hSw => hSw.2.1) Try.underlying32 rfl HI_VS.out) (by assumption) ?_
  (try simp only [Act.put, List.setIfInBounds_toArray, List.set_cons_zero, List.set_cons_succ])
  refine wpAnyH_take (i := 4) (oi := { dst := some 40, op := Op.fieldAddr 35 (Operand.tmp 15) 3, type := 0, pos := "more.go:21", after := #[{ on := 0, ground := Ground.phase }, { on := 1, ground := Ground.phase }, { on := 2, ground := Ground.textOnly Departure.lateStores }, { on := 3, ground := Ground.textOnly Departure.lateStores }], guard := none }) (v := ?_) rfl (by kernel_rfl) (by kernel_rfl) (by kernel_rfl) (fun _ _ _ h => h) (Or.inl ⟨by rfl, ?_⟩) (by assumption) ?_
  rotate_left
  · (intro ww hSw; (try dsimp only at hSw); go_simp; try with_reducible rfl)
  (try simp only [Act.put, List.setIfInBounds_toArray, List.set_cons_zero, List.set_cons_succ])
  refine wpAnyH_ready (rs := [5]) (by kernel_rfl) (by simp) ?_
  refine AllReadyH.cons (o := { dst := none, op := Op.store 32 (Operand.tmp 40) (Operand.tmp 37), type := 0, pos := "more.go:21", after := #[{ on := 4, ground := Ground.data }, { on := 1, ground := Ground.data }, { on := 0, ground := Ground.phase }, { on := 1, ground := Ground.phase }, { on := 2, ground := Ground.textOnly Departure.lateStores }, { on := 3, ground := Ground.textOnly Departure.lateStores }], guard := none }) rfl (fun K hK => ?_) AllReadyH.nil
  rw [if_pos (by rfl)]
  refine wp_store_mid 32 _ _ rfl g9 3 VD.toArray rfl rfl ((And.left hHeld).thereN 3 _ (by have := HL_VD.out; simp; omega)) (by simpa using HI_VD.out) HO_VD.out ?_
  refine hK.out _ _ (HKR.out _ ((And.left hHeld).sets HNE.out.1 HNE.out.2 3 VD)) (fun hHeld => ?_)
  clear hK K
  (try simp only [Act.put])
  refine wpAnyH_take (i := 6) (oi := { dst := some 41, op := Op.fieldAddr 35 (Operand.tmp 15) 4, type := 0, pos := "more.go:21", after := #[{ on := 0, ground := Ground.phase }, { on := 1, ground := Ground.phase }, { on := 2, ground := Ground.phase }, { on := 3, ground := Ground.phase }, { on := 4, ground := Ground.phase }, { on := 5, ground := Ground.phase }], guard := none }) (v := ?_) rfl (by kernel_rfl) (by kernel_rfl) (by kernel_rfl) (fun _ _ _ h => h) (Or.inl ⟨by rfl, ?_⟩) (by assumption) ?_
  rotate_left
  · (intro ww hSw; (try dsimp only at hSw); go_simp; try with_reducible rfl)
  (try simp only [Act.put, List.setIfInBounds_toArray, List.set_cons_zero, List.set_cons_succ])
  refine wpAnyH_ready (rs := [7]) (by kernel_rfl) (by simp) ?_
  refine AllReadyH.cons (o := { dst := none, op := Op.store 32 (Operand.tmp 41) (Operand.tmp 39), type := 0, pos := "more.go:21", after := #[{ on := 6, ground := Ground.data }, { on := 3, ground := Ground.data }, { on := 5, ground := Ground.chain }, { on := 0, ground := Ground.phase }, { on := 1, ground := Ground.phase }, { on := 2, ground := Ground.phase }, { on := 3, ground := Ground.phase }, { on := 4, ground := Ground.phase }, { on := 5, ground := Ground.phase }], guard := none }) rfl (fun K hK => ?_) AllReadyH.nil
  rw [if_pos (by rfl)]
  refine wp_store_mid 32 _ _ rfl g9 19 VS.toArray rfl rfl ((And.left hHeld).thereN 19 _ (by have := HL_VS.out; simp; omega)) (by simpa using HI_VS.out) HO_VS.out ?_
  refine hK.out _ _ (HKR.out _ ((And.left hHeld).sets HNE.out.1 HNE.out.2 19 VS)) (fun hHeld => ?_)
  clear hK K
  (try simp only [Act.put])
  refine wpAnyH_done (by kernel_rfl) ?_ _
  refine NoPanic.normal ?_
  have hkf := (HK7.out.drew.sets1 HNE.out.1 HNE.out.2 3 VD HE2.out).sets1 HNE.out.1 HNE.out.2 19 VS HE3.out
  have HK8 : Hid (Kp w w.heap.size [(g9, 35, X3), (g7, 25, VA), (w.heap.size + 1 + 1, 23, VT), (w.heap.size + 1, 23, VF), (w.heap.size, 35, VP)] ((w7.drew.setCells g9 3 VD).setCells g9 19 VS)) := Lib.hid hkf
  clear hkf hHeld HK7 HKR
  generalize (w7.drew.setCells g9 3 VD).setCells g9 19 VS = w8 at *
  have hr0 := HK8.out.hd.range
  have hr1 := HK8.out.tl.tl.tl.hd.range
  have hr2 := HK8.out.tl.tl.hd.range
  go_wp2_with (((with_reducible (change wpList _ _ _ _ _ _)); (first | (refine wpList_load_mid rfl 35 _ rfl (g9) 0 rfl (X3) _ hr0 Try.underlying35 rfl HI_X3.out ?_) | (refine wpList_load_mid rfl 23 _ rfl (w.heap.size + 1) 0 rfl (VF) _ hr1 Try.underlying23 rfl HI_VF.out ?_) | (refine wpList_load_mid rfl 23 _ rfl (w.heap.size + 1 + 1) 0 rfl (VT) _ hr2 Try.underlying23 rfl HI_VT.out ?_))))
  clear hr0 hr1 hr2
  refine (CG.out _ HK8.out.2.1).mono ?_
  rintro e w9 ⟨f2, rfl, bb⟩
  have HK9 := Lib.hid (HK8.out.below bb (Nat.le_refl _))
  clear bb HK8
  have HG9 : Hid (g9 < w9.heap.size ∧ g7 < w9.heap.size) := Lib.hid ⟨HK9.out.hd.lt, HK9.out.tl.hd.lt⟩
  have ht := (bk_new w9 25 ([.int .i64 0, .int .i64 0, .int .i64 0, .int .i64 0, .int .i64 0, .bool false, .bool false, .int .u8 0, .int .u8 0, .int .u8 0, .int .u8 0, .int .u8 0, .int .u8 0, .int .u8 0, .int .u8 0, .string ⟨#[]⟩, .string ⟨#[]⟩] : List Value).toArray).there VA.toArray.size (by have := HL_VA.out; simp; omega)
  go_upto_region 10 with (((with_reducible (change wpList _ _ _ _ _ _)); ((refine wpList_store_mid rfl 25 _ _ rfl (w9.heap.size) 0 VA.toArray rfl rfl ht (by simpa using HI_VA.out) HO_VA.out ?_))))
  have HK10 := Lib.hid (HK9.out.put 25 ([.int .i64 0, .int .i64 0, .int .i64 0, .int .i64 0, .int .i64 0, .bool false, .bool false, .int .u8 0, .int .u8 0, .int .u8 0, .int .u8 0, .int .u8 0, .int .u8 0, .int .u8 0, .int .u8 0, .string ⟨#[]⟩, .string ⟨#[]⟩] : List Value).toArray VA (by have := HL_VA.out; simp; omega))
  clear ht HK9
  generalize (w9.alloc (.cells ([.int .i64 0, .int .i64 0, .int .i64 0, .int .i64 0, .int .i64 0, .bool false, .bool false, .int .u8 0, .int .u8 0, .int .u8 0, .int .u8 0, .int .u8 0, .int .u8 0, .int .u8 0, .int .u8 0, .string ⟨#[]⟩, .string ⟨#[]⟩] : List Value).toArray 25)).setCells w9.heap.size 0 VA = w10 at *
  generalize w9.heap.size = g10 at *
  refine wp_region_noPanic ?_
  refine wp_region_held_drew (S := fun w' => Kp w w.heap.size [(g10, 25, VA), (g9, 35, X3), (g7, 25, VA), (w.heap.size + 1 + 1, 23, VT), (w.heap.size + 1, 23, VF), (w.heap.size, 35, VP)] w') (by kernel_rfl) (HK10.out.drew) (fun hHeld => ?_)
  refine wpAnyH_take (i := 0) (oi := { dst := some 51, op := Op.move (Operand.tmp 14), type := 27, pos := "more.go:23", after := #[], guard := none }) (v := ?_) rfl (by kernel_rfl) (by kernel_rfl) (by kernel_rfl) (fun _ _ _ h => h) (Or.inl ⟨by rfl, ?_⟩) (by assumption) ?_
  rotate_left
  · (intro ww hSw; (try dsimp only at hSw); go_simp; try with_reducible rfl)
  (try simp only [Act.put, List.setIfInBounds_toArray, List.set_cons_zero, List.set_cons_succ])
  refine wpAnyH_take (i := 1) (oi := { dst := some 52, op := Op.binOp BinOp.eql 27 (Operand.tmp 51) (Operand.const Value.nilIface) 27, type := 4, pos := "more.go:23", after := #[{ on := 0, ground := Ground.data }], guard := none }) (v := ?_) rfl (by kernel_rfl) (by kernel_rfl) (by kernel_rfl) (fun _ _ _ h => h) (Or.inl ⟨by rfl, ?_⟩) (by assumption) ?_
  rotate_left
  · (intro ww hSw; (try dsimp only at hSw); go_simp; try with_reducible rfl)
  (try simp only [Act.put, List.setIfInBounds_toArray, List.set_cons_zero, List.set_cons_succ])
  refine wpAnyH_take (i := 2) (oi := { dst := some 53, op := Op.move (Operand.tmp 17), type := 27, pos := "more.go:23", after := #[], guard := none }) (v := ?_) rfl (by kernel_rfl) (by kernel_rfl) (by kernel_rfl) (fun _ _ _ h => h) (Or.inl ⟨by rfl, ?_⟩) (by assumption) ?_
  rotate_left
  · (intro ww hSw; (try dsimp only at hSw); go_simp; try with_reducible rfl)
  (try simp only [Act.put, List.setIfInBounds_toArray, List.set_cons_zero, List.set_cons_succ])
  refine wpAnyH_take (i := 3) (oi := { dst := some 54, op := Op.binOp BinOp.eql 27 (Operand.tmp 53) (Operand.const Value.nilIface) 27, type := 4, pos := "more.go:23", after := #[{ on := 2, ground := Ground.data }], guard := none }) (v := ?_) rfl (by kernel_rfl) (by kernel_rfl) (by kernel_rfl) (fun _ _ _ h => h) (Or.inl ⟨by rfl, ?_⟩) (by assumption) ?_
  rotate_left
  · (intro ww hSw; (try dsimp only at hSw); go_simp; try with_reducible rfl)
  (try simp only [Act.put, List.setIfInBounds_toArray, List.set_cons_zero, List.set_cons_succ])
  refine wpAnyH_take (i := 4) (oi := { dst := some 55, op := Op.binOp BinOp.neq 4 (Operand.tmp 52) (Operand.tmp 54) 4, type := 4, pos := "more.go:23", after := #[{ on := 1, ground := Ground.data }, { on := 3, ground := Ground.data }], guard := none }) (v := ?_) rfl (by kernel_rfl) (by kernel_rfl) (by kernel_rfl) (fun _ _ _ h => h) (Or.inl ⟨by rfl, ?_⟩) (by assumption) ?_
  rotate_left
  · (intro ww hSw; (try dsimp only at hSw); go_simp; try with_reducible rfl)
  (try simp only [Act.put, List.setIfInBounds_toArray, List.set_cons_zero, List.set_cons_succ])
  refine wpAnyH_done (by kernel_rfl) ?_ _
  refine NoPanic.normal ?_
  have HK11 : Hid (Kp w w.heap.size [(g10, 25, VA), (g9, 35, X3), (g7, 25, VA), (w.heap.size + 1 + 1, 23, VT), (w.heap.size + 1, 23, VF), (w.heap.size, 35, VP)] w10.drew) := Lib.hid hHeld
  clear hHeld HK10
  generalize w10.drew = w11 at *
  go_upto_region 13 with (fail)
  have hr0 := HK11.out.tl.tl.hd.range
  have hr1 := HK11.out.hd.range
  have heq := HEV_VA.out
  refine wp_region_list ?_
  refine wpList_load_if (op := { dst := some 58, op := Op.load 25 (Operand.tmp 13), type := 25, pos := "more.go:27", after := #[], guard := none }) (by kernel_rfl) 25 _ rfl g7 0 rfl VA _ hr0 Try.underlying25 rfl HI_VA.out ?_
  (try simp only [Act.put, List.setIfInBounds_toArray, List.set_cons_zero, List.set_cons_succ])
  refine wpList_load_if (op := { dst := some 59, op := Op.load 25 (Operand.tmp 16), type := 25, pos := "more.go:27", after := #[], guard := none }) (by kernel_rfl) 25 _ rfl g10 0 rfl VA _ hr1 Try.underlying25 rfl HI_VA.out ?_
  (try simp only [Act.put, List.setIfInBounds_toArray, List.set_cons_zero, List.set_cons_succ])
  refine wpList_exec_if (op := { dst := some 60, op := Op.binOp BinOp.eql 25 (Operand.tmp 58) (Operand.tmp 59) 25, type := 4, pos := "more.go:27", after := #[{ on := 0, ground := Ground.data }, { on := 1, ground := Ground.data }], guard := none }) (by kernel_rfl) (.bool true) ?_ ?_
  · (go_simp; try with_reducible rfl)
  (try simp only [Act.put, List.setIfInBounds_toArray, List.set_cons_zero, List.set_cons_succ])
  refine wpList_exec_if (op := { dst := some 61, op := Op.move (Operand.tmp 60), type := 4, pos := "more.go:27", after := #[{ on := 2, ground := Ground.data }], guard := none }) (by kernel_rfl) ?_ ?_ ?_
  rotate_left
  · (go_simp; try with_reducible rfl)
  (try simp only [Act.put, List.setIfInBounds_toArray, List.set_cons_zero, List.set_cons_succ])
  refine wpList_load_if (op := { dst := some 62, op := Op.load 25 (Operand.tmp 13), type := 25, pos := "more.go:27", after := #[{ on := 3, ground := Ground.guard }], guard := some (3, true) }) (by kernel_rfl) 25 _ rfl g7 0 rfl VA _ hr0 Try.underlying25 rfl HI_VA.out ?_
  (try simp only [Act.put, List.setIfInBounds_toArray, List.set_cons_zero, List.set_cons_succ])
  refine wpList_exec_if (op := { dst := some 63, op := Op.build 25 #[], type := 25, pos := "more.go:27", after := #[{ on := 3, ground := Ground.guard }], guard := some (3, true) }) (by kernel_rfl) (.agg VA.toArray) ?_ ?_
  · (exact run_execN (T := 25) (l := #[]) (m := #[]) rfl (by simp) (HBZ.out _))
  (try simp only [Act.put, List.setIfInBounds_toArray, List.set_cons_zero, List.set_cons_succ])
  clear hr0 hr1
  go_wp2_with (fail)
  go_ret
  exact ⟨rfl, HK11.out.2.1⟩
set_option maxRecDepth 100000 in
set_option maxHeartbeats 4000000 in
theorem blind64_small (p : Pk6) (v : Value) (f0 f1 f2 f3 t0 t1 t2 t3 : Int) (x y flow : Int) (w : World) (hx : Exs w v p.exts) (hq : Rch p) (hg : p.great = false) (ix : 0 ≤ x ∧ x ≤ 65535) (iy : 0 ≤ y ∧ y ≤ 65535) (hh : hcode64 p x = 0) (hm : p.small = true) :
    Calls Try.prog 7 #[.agg (p.vals v).toArray, .agg ([.int .u8 f0, .int .u8 f1, .int .u8 f2, .int .u8 f3] : List Value).toArray, .agg ([.int .u8 t0, .int .u8 t1, .int .u8 t2, .int .u8 t3] : List Value).toArray, .int .u16 x, .int .u16 y, .int .i64 flow] w (fun e w' => e = .returned (.bool true) ∧ Below w.heap.size w w') := by
  have hn := great_no hg
  have HG : Hid (∀ W, Below w.heap.size w W → Calls Try.prog 14 #[.agg (p.vals v).toArray] W fun e w' => e = .returned (.bool false) ∧ Below W.heap.size W w') := Lib.hid (fun W hW => by rw [← hg]; exact great_any p v W (hx.below hW (Nat.le_refl _)) hq.len hq.data hq.body)
  have hy : hcode64 p y = 0 := (hcode64_id iy ix).trans hh
  obtain ⟨VA, hVA⟩ : ∃ V, V = (h64 p f0 f1 f2 f3 t0 t1 t2 t3 x).vals := ⟨_, rfl⟩
  obtain ⟨VB, hVB⟩ : ∃ V, V = (h64 p f0 f1 f2 f3 t0 t1 t2 t3 y).vals := ⟨_, rfl⟩
  have CH : Hid (∀ W, Below w.heap.size w W → Calls Try.prog 9 #[.agg (p.vals v).toArray, .agg ([.int .u8 f0, .int .u8 f1, .int .u8 f2, .int .u8 f3] : List Value).toArray, .agg ([.int .u8 t0, .int .u8 t1, .int .u8 t2, .int .u8 t3] : List Value).toArray, .int .i64 x] W fun e w' => e = .returned (.tuple #[.agg VA.toArray, .nilIface]) ∧ Below W.heap.size W w') := Lib.hid (fun W hW => by
    refine (head64_any p v f0 f1 f2 f3 t0 t1 t2 t3 x W (hx.below hW (Nat.le_refl _)) (show p.exts.length ≤ _ by omega) (show p.data.size ≤ _ by omega)).mono ?_
    rintro e w' ⟨q, rfl, her, b⟩
    rcases her with ⟨_, rfl⟩ | ⟨h, _⟩
    · exact ⟨by rw [hVA]; rw [hout64_ok hh] <;> rfl, b⟩
    · exact absurd hh h)
  have CG : Hid (∀ W, Below w.heap.size w W → Calls Try.prog 9 #[.agg ((bl3 p flow).vals v).toArray, .agg ([.int .u8 f0, .int .u8 f1, .int .u8 f2, .int .u8 f3] : List Value).toArray, .agg ([.int .u8 t0, .int .u8 t1, .int .u8 t2, .int .u8 t3] : List Value).toArray, .int .i64 y] W fun e w' => e = .returned (.tuple #[.agg VB.toArray, .nilIface]) ∧ Below W.heap.size W w') := Lib.hid (fun W hW => by
    refine (head64_any (bl3 p flow) v f0 f1 f2 f3 t0 t1 t2 t3 y W (hx.below hW (Nat.le_refl _)) (show p.exts.length ≤ _ by omega) (show p.data.size ≤ _ by omega)).mono ?_
    rintro e w' ⟨q, rfl, her, b⟩
    rcases her with ⟨_, rfl⟩ | ⟨h, _⟩
    · exact ⟨by rw [hVB]; rw [hout64_ok ((bl3_code p flow y).trans hy)] <;> rfl, b⟩
    · exact absurd ((bl3_code p flow y).trans hy) h)
  have CI : Hid (∀ W, Below w.heap.size w W → Calls Try.prog 9 #[.agg ((bl4 p flow).vals (.slice none 0 0)).toArray, .agg ([.int .u8 f0, .int .u8 f1, .int .u8 f2, .int .u8 f3] : List Value).toArray, .agg ([.int .u8 t0, .int .u8 t1, .int .u8 t2, .int .u8 t3] : List Value).toArray, .int .i64 y] W fun e w' => e = .returned (.tuple #[.agg VB.toArray, .nilIface]) ∧ Below W.heap.size W w') := Lib.hid (fun W hW => by
    refine (head64_any (bl4 p flow) (.slice none 0 0) f0 f1 f2 f3 t0 t1 t2 t3 y W (nil_exs W) (Nat.zero_le _) (show p.data.size ≤ _ by omega)).mono ?_
    rintro e w' ⟨q, rfl, her, b⟩
    rcases her with ⟨_, rfl⟩ | ⟨h, _⟩
    · exact ⟨by rw [hVB]; rw [hout64_ok (bl4_code hy)] <;> rfl, b⟩
    · exact absurd (bl4_code hy) h)
  have HWa : Hid (∀ W, Calls Try.prog 12 #[.agg (p.vals v).toArray] W fun e w' => e = .returned (.bool true) ∧ Below W.heap.size W w') := Lib.hid (fun W => by rw [← hm]; exact wants64_any p v W)
  have HI_VA : Hid ((Try.prog.info? 25).map (·.size) = some VA.length) := Lib.hid (by rw [hVA]; exact P4.Try.infoIp _)
  have HO_VA : Hid ((VA).toArray.all (·.oneCell') = true) := Lib.hid (by rw [hVA]; exact P4.vals_one _)
  have HL_VA : Hid (VA.length = 17) := Lib.hid (by rw [hVA]; rfl)
  have HEV_VA : Hid (∀ W, (binOp .eql 25 (.agg VA.toArray) (.agg VA.toArray)).run Try.prog W = .ok (.bool true) W) := Lib.hid (fun W => by rw [hVA]; exact P4.eqlP (h64 p f0 f1 f2 f3 t0 t1 t2 t3 x) W)
  have HI_VB : Hid ((Try.prog.info? 25).map (·.size) = some VB.length) := Lib.hid (by rw [hVB]; exact P4.Try.infoIp _)
  have HO_VB : Hid ((VB).toArray.all (·.oneCell') = true) := Lib.hid (by rw [hVB]; exact P4.vals_one _)
  have HL_VB : Hid (VB.length = 17) := Lib.hid (by rw [hVB]; rfl)
  have HNV : Hid (∀ W, (binOp .neq 25 (.agg VB.toArray) (.agg VB.toArray)).run Try.prog W = .ok (.bool false) W) := Lib.hid (fun W => by rw [hVB]; exact neqP _ W)
  have HC_VA_1 : Hid (VA[1]? = some (.int .i64 x)) := Lib.hid (by rw [hVA, h64_small hm]; rfl)
  have HC_VB_1 : Hid (VB[1]? = some (.int .i64 y)) := Lib.hid (by rw [hVB, h64_small hm]; rfl)
  have HE9 : Hid (VB.set 1 (.int .i64 x) = VA) := Lib.hid (by rw [hVA, hVB, h64_small hm, h64_small hm]; rfl)
  have HI_X1 : Hid ((Try.prog.info? 35).map (·.size) = some ((bl1 p flow).vals v).length) := Lib.hid (Try.info6 _ _)
  have HL_X1 : Hid (((bl1 p flow).vals v).length = 42) := Lib.hid (vals_len _ _)
  have HI_X2 : Hid ((Try.prog.info? 35).map (·.size) = some ((bl2 p flow).vals v).length) := Lib.hid (Try.info6 _ _)
  have HL_X2 : Hid (((bl2 p flow).vals v).length = 42) := Lib.hid (vals_len _ _)
  have HI_X3 : Hid ((Try.prog.info? 35).map (·.size) = some ((bl3 p flow).vals v).length) := Lib.hid (Try.info6 _ _)
  have HL_X3 : Hid (((bl3 p flow).vals v).length = 42) := Lib.hid (vals_len _ _)
  have HI_X4 : Hid ((Try.prog.info? 35).map (·.size) = some ((bl4 p flow).vals (.slice none 0 0)).length) := Lib.hid (Try.info6 _ _)
  have HL_X4 : Hid (((bl4 p flow).vals (.slice none 0 0)).length = 42) := Lib.hid (vals_len _ _)
  have HE1 := Lib.hid (bl_vals1 p v flow)
  have HE2 := Lib.hid (bl_vals2 p v flow)
  have HE3 := Lib.hid (bl_vals3 p v flow)
  have HE4 := Lib.hid (bl_vals4 p v flow)
  have HRG : Hid (∀ (W : World) (b : Nat), Bk W b 35 (p.vals v).toArray → W.rangeAt b 3 (bytV p.fr) ∧ W.rangeAt b 19 (bytV p.dst)) := Lib.hid (fun W b h => ⟨(cs6 h).fr, (cs6 h).dst⟩)
  have HI_VS : Hid ((Try.prog.info? 32).map (·.size) = some (bytV p.fr).length) := Lib.hid (Try.infoV6 _ p.hfr)
  have HO_VS : Hid ((bytV p.fr).toArray.all (·.oneCell') = true) := Lib.hid (by rw [List.all_toArray, List.all_eq_true]; exact bytV_one _)
  have HL_VS : Hid ((bytV p.fr).length = 16) := Lib.hid (by rw [bytV_len]; exact p.hfr)
  have HI_VD : Hid ((Try.prog.info? 32).map (·.size) = some (bytV p.dst).length) := Lib.hid (Try.infoV6 _ p.hdst)
  have HO_VD : Hid ((bytV p.dst).toArray.all (·.oneCell') = true) := Lib.hid (by rw [List.all_toArray, List.all_eq_true]; exact bytV_one _)
  have HL_VD : Hid ((bytV p.dst).length = 16) := Lib.hid (by rw [bytV_len]; exact p.hdst)
  clear hy hh hg hn hVA hVB
  clear hm
  generalize bytV p.fr = VS at *
  generalize bytV p.dst = VD at *
  generalize (bl1 p flow).vals v = X1 at *
  generalize (bl2 p flow).vals v = X2 at *
  generalize (bl3 p flow).vals v = X3 at *
  generalize (bl4 p flow).vals (.slice none 0 0) = X4 at *
  have kx : IntKind.i64.wrap x = x := IntWalk.i64_in _ (by omega)
  have ky : IntKind.i64.wrap y = y := IntWalk.i64_in _ (by omega)
  have HI_VP : Hid ((Try.prog.info? 35).map (·.size) = some (p.vals v).length) := Lib.hid (Try.info6 _ _)
  have HO_VP : Hid ((p.vals v).toArray.all (·.oneCell') = true) := Lib.hid (vals_one _ _ (exs_cell hx))
  have HL_VP : Hid ((p.vals v).length = 42) := Lib.hid (vals_len _ _)
  have HC_VP_0 : Hid ((p.vals v)[0]? = some (.int .i64 p.cls)) := Lib.hid (rfl)
  have HC_VP_2 : Hid ((p.vals v)[2]? = some (.int .i64 p.hop)) := Lib.hid (rfl)
  have HC_VP_35 : Hid ((p.vals v)[35]? = some (v)) := Lib.hid (vals_tail p v 0)
  have HC_VP_36 : Hid ((p.vals v)[36]? = some (.bool p.frag)) := Lib.hid (vals_tail p v 1)
  have HC_VP_37 : Hid ((p.vals v)[37]? = some (.int .u32 p.id)) := Lib.hid (vals_tail p v 2)
  have HC_VP_38 : Hid ((p.vals v)[38]? = some (.int .i64 p.pl)) := Lib.hid (vals_tail p v 3)
  have HC_VP_39 : Hid ((p.vals v)[39]? = some (.bool p.more)) := Lib.hid (vals_tail p v 4)
  have HC_VP_40 : Hid ((p.vals v)[40]? = some (.int .i64 p.proto)) := Lib.hid (vals_tail p v 5)
  have HC_VP_41 : Hid ((p.vals v)[41]? = some (.string p.data)) := Lib.hid (vals_tail p v 6)
  have HI_VF : Hid ((Try.prog.info? 23).map (·.size) = some (([.int .u8 f0, .int .u8 f1, .int .u8 f2, .int .u8 f3] : List Value)).length) := Lib.hid (Try.infoV4c _ _ _ _)
  have HI_VT : Hid ((Try.prog.info? 23).map (·.size) = some (([.int .u8 t0, .int .u8 t1, .int .u8 t2, .int .u8 t3] : List Value)).length) := Lib.hid (Try.infoV4c _ _ _ _)
  have HX := Lib.hid hx
  clear hx
  have HK1 : Hid (Kp w w.heap.size [(w.heap.size + 1 + 1, 23, ([.int .u8 t0, .int .u8 t1, .int .u8 t2, .int .u8 t3] : List Value)), (w.heap.size + 1, 23, ([.int .u8 f0, .int .u8 f1, .int .u8 f2, .int .u8 f3] : List Value)), (w.heap.size, 35, p.vals v)] (((w.alloc (.cells (p.vals v).toArray 35)).alloc (.cells ([.int .u8 f0, .int .u8 f1, .int .u8 f2, .int .u8 f3] : List Value).toArray 23)).alloc (.cells ([.int .u8 t0, .int .u8 t1, .int .u8 t2, .int .u8 t3] : List Value).toArray 23))) := Lib.hid (by
    have h := ((Kp.start w).new 35 (p.vals v)).new 23 ([.int .u8 f0, .int .u8 f1, .int .u8 f2, .int .u8 f3] : List Value)
    have e1 : (w.alloc (.cells (p.vals v).toArray 35)).heap.size = w.heap.size + 1 := by simp
    have e2 : ((w.alloc (.cells (p.vals v).toArray 35)).alloc (.cells ([.int .u8 f0, .int .u8 f1, .int .u8 f2, .int .u8 f3] : List Value).toArray 23)).heap.size = w.heap.size + 1 + 1 := by simp
    rw [e1] at h
    have h2 := h.new 23 ([.int .u8 t0, .int .u8 t1, .int .u8 t2, .int .u8 t3] : List Value)
    rwa [e2] at h2)
  generalize p.vals v = VP at *
  generalize ([.int .u8 f0, .int .u8 f1, .int .u8 f2, .int .u8 f3] : List Value) = VF at *
  generalize ([.int .u8 t0, .int .u8 t1, .int .u8 t2, .int .u8 t3] : List Value) = VT at *
  generalize hw1 : ((w.alloc (.cells VP.toArray 35)).alloc (.cells VF.toArray 23)).alloc (.cells VT.toArray 23) = w1 at *
  go_enter Try.func7, Try.ntmps7
  go_upto_region 1 with (fail)
  clear hw1
  go_wp2_with (fail)
  refine (awake64_true _).mono ?_
  rintro e w2 ⟨rfl, bb⟩
  have HK2 := Lib.hid (HK1.out.below bb (Nat.le_refl _))
  clear bb HK1
  have hr0 := HK2.out.tl.tl.hd.range
  go_wp2_with (((with_reducible (change wpList _ _ _ _ _ _)); ((refine wpList_load_mid rfl 35 _ rfl (w.heap.size) 0 rfl (VP) _ hr0 Try.underlying35 rfl HI_VP.out ?_))))
  clear hr0
  refine (HG.out _ HK2.out.2.1).mono ?_
  rintro e w3 ⟨rfl, bb⟩
  have HK3 := Lib.hid (HK2.out.below bb (Nat.le_refl _))
  clear bb HK2
  go_upto_region 5 with (fail)
  have hr0 := HK3.out.tl.tl.hd.range
  have hr1 := HK3.out.tl.hd.range
  have hr2 := HK3.out.hd.range
  go_wp2_with (((with_reducible (change wpList _ _ _ _ _ _)); (first | (refine wpList_load_mid rfl 35 _ rfl (w.heap.size) 0 rfl (VP) _ hr0 Try.underlying35 rfl HI_VP.out ?_) | (refine wpList_load_mid rfl 23 _ rfl (w.heap.size + 1) 0 rfl (VF) _ hr1 Try.underlying23 rfl HI_VF.out ?_) | (refine wpList_load_mid rfl 23 _ rfl (w.heap.size + 1 + 1) 0 rfl (VT) _ hr2 Try.underlying23 rfl HI_VT.out ?_))))
  clear hr0 hr1 hr2
  refine (CH.out _ HK3.out.2.1).mono ?_
  rintro e w4 ⟨rfl, bb⟩
  have HK4 := Lib.hid (HK3.out.below bb (Nat.le_refl _))
  clear bb HK3
  have ht := (bk_new w4 25 ([.int .i64 0, .int .i64 0, .int .i64 0, .int .i64 0, .int .i64 0, .bool false, .bool false, .int .u8 0, .int .u8 0, .int .u8 0, .int .u8 0, .int .u8 0, .int .u8 0, .int .u8 0, .int .u8 0, .string ⟨#[]⟩, .string ⟨#[]⟩] : List Value).toArray).there VA.toArray.size (by have := HL_VA.out; simp; omega)
  go_upto_region 6 with (((with_reducible (change wpList _ _ _ _ _ _)); ((refine wpList_store_mid rfl 25 _ _ rfl (w4.heap.size) 0 VA.toArray rfl rfl ht (by simpa using HI_VA.out) HO_VA.out ?_))))
  have HK5 := Lib.hid (HK4.out.put 25 ([.int .i64 0, .int .i64 0, .int .i64 0, .int .i64 0, .int .i64 0, .bool false, .bool false, .int .u8 0, .int .u8 0, .int .u8 0, .int .u8 0, .int .u8 0, .int .u8 0, .int .u8 0, .int .u8 0, .string ⟨#[]⟩, .string ⟨#[]⟩] : List Value).toArray VA (by have := HL_VA.out; simp; omega))
  clear ht HK4
  generalize (w4.alloc (.cells ([.int .i64 0, .int .i64 0, .int .i64 0, .int .i64 0, .int .i64 0, .bool false, .bool false, .int .u8 0, .int .u8 0, .int .u8 0, .int .u8 0, .int .u8 0, .int .u8 0, .int .u8 0, .int .u8 0, .string ⟨#[]⟩, .string ⟨#[]⟩] : List Value).toArray 25)).setCells w4.heap.size 0 VA = w5 at *
  generalize w4.heap.size = g7 at *
  have HG7 : Hid (g7 < w5.heap.size ∧ w.heap.size + 1 + 1 < w5.heap.size) := Lib.hid ⟨HK5.out.hd.lt, HK5.out.tl.hd.lt⟩
  have hr0 := HK5.out.tl.tl.tl.hd.range
  have ht := (bk_new w5 35 ([.int .i64 0, .int .i64 0, .int .i64 0, .int .u8 0, .int .u8 0, .int .u8 0, .int .u8 0, .int .u8 0, .int .u8 0, .int .u8 0, .int .u8 0, .int .u8 0, .int .u8 0, .int .u8 0, .int .u8 0, .int .u8 0, .int .u8 0, .int .u8 0, .int .u8 0, .int .u8 0, .int .u8 0, .int .u8 0, .int .u8 0, .int .u8 0, .int .u8 0, .int .u8 0, .int .u8 0, .int .u8 0, .int .u8 0, .int .u8 0, .int .u8 0, .int .u8 0, .int .u8 0, .int .u8 0, .int .u8 0, .slice none 0 0, .bool false, .int .u32 0, .int .i64 0, .bool false, .int .i64 0, .string ⟨#[]⟩] : List Value).toArray).there VP.toArray.size (by have := HL_VP.out; simp; omega)
  go_upto_region 7 with (((with_reducible (change wpList _ _ _ _ _ _)); (first | (refine wpList_load_mid rfl 35 _ rfl (w.heap.size) 0 rfl (VP) _ hr0 Try.underlying35 rfl HI_VP.out ?_) | (refine wpList_store_mid rfl 35 _ _ rfl (w5.heap.size) 0 VP.toArray rfl rfl ht (by simpa using HI_VP.out) HO_VP.out ?_))))
  have HK6 := Lib.hid (HK5.out.put 35 ([.int .i64 0, .int .i64 0, .int .i64 0, .int .u8 0, .int .u8 0, .int .u8 0, .int .u8 0, .int .u8 0, .int .u8 0, .int .u8 0, .int .u8 0, .int .u8 0, .int .u8 0, .int .u8 0, .int .u8 0, .int .u8 0, .int .u8 0, .int .u8 0, .int .u8 0, .int .u8 0, .int .u8 0, .int .u8 0, .int .u8 0, .int .u8 0, .int .u8 0, .int .u8 0, .int .u8 0, .int .u8 0, .int .u8 0, .int .u8 0, .int .u8 0, .int .u8 0, .int .u8 0, .int .u8 0, .int .u8 0, .slice none 0 0, .bool false, .int .u32 0, .int .i64 0, .bool false, .int .i64 0, .string ⟨#[]⟩] : List Value).toArray VP (by have := HL_VP.out; simp; omega))
  clear ht HK5
  generalize (w5.alloc (.cells ([.int .i64 0, .int .i64 0, .int .i64 0, .int .u8 0, .int .u8 0, .int .u8 0, .int .u8 0, .int .u8 0, .int .u8 0, .int .u8 0, .int .u8 0, .int .u8 0, .int .u8 0, .int .u8 0, .int .u8 0, .int .u8 0, .int .u8 0, .int .u8 0, .int .u8 0, .int .u8 0, .int .u8 0, .int .u8 0, .int .u8 0, .int .u8 0, .int .u8 0, .int .u8 0, .int .u8 0, .int .u8 0, .int .u8 0, .int .u8 0, .int .u8 0, .int .u8 0, .int .u8 0, .int .u8 0, .int .u8 0, .slice none 0 0, .bool false, .int .u32 0, .int .i64 0, .bool false, .int .i64 0, .string ⟨#[]⟩] : List Value).toArray 35)).setCells w5.heap.size 0 VP = w6 at *
  generalize w5.heap.size = g9 at *
  clear hr0
  have hne : ∀ x ∈ ([(g7, 25, VA), (w.heap.size + 1 + 1, 23, VT), (w.heap.size + 1, 23, VF), (w.heap.size, 35, VP)] : List (Nat × TypeId × List Value)), x.1 ≠ g9 := by
    have hg := HG7.out
    intro x hx
    simp only [List.mem_cons, List.not_mem_nil, or_false] at hx
    rcases hx with rfl | rfl | rfl | rfl <;> (show _ ≠ g9; omega)
  have hgB : w.heap.size ≤ g9 := by have := HG7.out; omega
  have HNE := Lib.hid (And.intro hne hgB)
  clear hne hgB
  obtain ⟨uu, hu, hz⟩ := HK6.out.some1 1 (by have := HL_VP.out; omega)
  go_upto_region 8 with (fail)
  have hk := HK6.out.set1 HNE.out.1 HNE.out.2 1 (.int .i64 flow)
  rw [HE1.out] at hk
  have HK7 := Lib.hid hk
  clear hk hu hz HK6
  generalize w6.setCell ⟨g9, 1, none⟩ (.int .i64 flow) = w7 at *
  have HKR : Hid (∀ W : World, Pst w w.heap.size [(g7, 25, VA), (w.heap.size + 1 + 1, 23, VT), (w.heap.size + 1, 23, VF), (w.heap.size, 35, VP)] g9 35 42 W → (fun w' => Pst w w.heap.size [(g7, 25, VA), (w.heap.size + 1 + 1, 23, VT), (w.heap.size + 1, 23, VF), (w.heap.size, 35, VP)] g9 35 42 w' ∧ w'.rangeAt (w.heap.size) 3 VS ∧ w'.rangeAt (w.heap.size) 19 VD) W) := Lib.hid (fun W k => ⟨k, HRG.out _ _ k.1.tl.tl.tl.hd⟩)
  refine wp_region_noPanic ?_
  refine wp_region_held_drew (S := fun w' => Pst w w.heap.size [(g7, 25, VA), (w.heap.size + 1 + 1, 23, VT), (w.heap.size + 1, 23, VF), (w.heap.size, 35, VP)] g9 35 42 w' ∧ w'.rangeAt (w.heap.size) 3 VS ∧ w'.rangeAt (w.heap.size) 19 VD) (by kernel_rfl) (HKR.out _ (Pst.of HK7.out.drew HL_X1.out)) (fun hHeld => ?_)
  refine wpAnyH_take (i := 0) (oi := { dst := some 36, op := Op.fieldAddr 35 (Operand.tmp 6) 4, type := 0, pos := "more.go:21", after := #[], guard := none }) (v := ?_) rfl (by kernel_rfl) (by kernel_rfl) (by kernel_rfl) (fun _ _ _ h => h) (Or.inl ⟨by rfl, ?_⟩) (by assumption) ?_
  rotate_left
  · (intro ww hSw; (try dsimp only at hSw); go_simp; try with_reducible rfl)
  (try simp only [Act.put, List.setIfInBounds_toArray, List.set_cons_zero, List.set_cons_succ])
  refine wpAnyH_take (i := 1) (oi := { dst := some 37, op := Op.load 32 (Operand.tmp 36), type := 32, pos := "more.go:21", after := #[{ on := 0, ground := Ground.data }], guard := none }) (v := .agg (VD).toArray) rfl (by kernel_rfl) (by kernel_rfl) (by kernel_rfl) (fun _ _ _ h => h) (yieldsIf_load_mid (by rfl) _ _ rfl (w.heap.size) 19 rfl (VD) _ (fun ww hSw => hSw.2.2) Try.underlying32 rfl HI_VD.out) (by assumption) ?_
  (try simp only [Act.put, List.setIfInBounds_toArray, List.set_cons_zero, List.set_cons_succ])
  refine wpAnyH_take (i := 2) (oi := { dst := some 38, op := Op.fieldAddr 35 (Operand.tmp 6) 3, type := 0, pos := "more.go:21", after := #[{ on := 5, ground := Ground.gcOnly Departure.lateStores }], guard := none }) (v := ?_) rfl (by kernel_rfl) (by kernel_rfl) (by kernel_rfl) (fun _ _ _ h => h) (Or.inl ⟨by rfl, ?_⟩) (by assumption) ?_
  rotate_left
  · (intro ww hSw; (try dsimp only at hSw); go_simp; try with_reducible rfl)
  (try simp only [Act.put, List.setIfInBounds_toArray, List.set_cons_zero, List.set_cons_succ])
  refine wpAnyH_take (i := 3) (oi := { dst := some 39, op := Op.load 32 (Operand.tmp 38), type := 32, pos := "more.go:21", after := #[{ on := 2, ground := Ground.data }, { on := 5, ground := Ground.gcOnly Departure.lateStores }], guard := none }) (v := .agg (VS).toArray) rfl (by kernel_rfl) (by kernel_rfl) (by kernel_rfl) (fun _ _ _ h => h) (yieldsIf_load_mid (by rfl) _ _ rfl (w.heap.size) 3 rfl (VS) _ (fun ww hSw => hSw.2.1) Try.underlying32 rfl HI_VS.out) (by assumption) ?_
  (try simp only [Act.put, List.setIfInBounds_toArray, List.set_cons_zero, List.set_cons_succ])
  refine wpAnyH_take (i := 4) (oi := { dst := some 40, op := Op.fieldAddr 35 (Operand.tmp 15) 3, type := 0, pos := "more.go:21", after := #[{ on := 0, ground := Ground.phase }, { on := 1, ground := Ground.phase }, { on := 2, ground := Ground.textOnly Departure.lateStores }, { on := 3, ground := Ground.textOnly Departure.lateStores }], guard := none }) (v := ?_) rfl (by kernel_rfl) (by kernel_rfl) (by kernel_rfl) (fun _ _ _ h => h) (Or.inl ⟨by rfl, ?_⟩) (by assumption) ?_
  rotate_left
  · (intro ww hSw; (try dsimp only at hSw); go_simp; try with_reducible rfl)
  (try simp only [Act.put, List.setIfInBounds_toArray, List.set_cons_zero, List.set_cons_succ])
  refine wpAnyH_ready (rs := [5]) (by kernel_rfl) (by simp) ?_
  refine AllReadyH.cons (o := { dst := none, op := Op.store 32 (Operand.tmp 40) (Operand.tmp 37), type := 0, pos := "more.go:21", after := #[{ on := 4, ground := Ground.data }, { on := 1, ground := Ground.data }, { on := 0, ground := Ground.phase }, { on := 1, ground := Ground.phase }, { on := 2, ground := Ground.textOnly Departure.lateStores }, { on := 3, ground := Ground.textOnly Departure.lateStores }], guard := none }) rfl (fun K hK => ?_) AllReadyH.nil
  rw [if_pos (by rfl)]
  refine wp_store_mid 32 _ _ rfl g9 3 VD.toArray rfl rfl ((And.left hHeld).thereN 3 _ (by have := HL_VD.out; simp; omega)) (by simpa using HI_VD.out) HO_VD.out ?_
  refine hK.out _ _ (HKR.out _ ((And.left hHeld).sets HNE.out.1 HNE.out.2 3 VD)) (fun hHeld => ?_)
  clear hK K
  (try simp only [Act.put])
  refine wpAnyH_take (i := 6) (oi := { dst := some 41, op := Op.fieldAddr 35 (Operand.tmp 15) 4, type := 0, pos := "more.go:21", after := #[{ on := 0, ground := Ground.phase }, { on := 1, ground := Ground.phase }, { on := 2, ground := Ground.phase }, { on := 3, ground := Ground.phase }, { on := 4, ground := Ground.phase }, { on := 5, ground := Ground.phase }], guard := none }) (v := ?_) rfl (by kernel_rfl) (by kernel_rfl) (by kernel_rfl) (fun _ _ _ h => h) (Or.inl ⟨by rfl, ?_⟩) (by assumption) ?_
  rotate_left
  · (intro ww hSw; (try dsimp only at hSw); go_simp; try with_reducible rfl)
  (try simp only [Act.put, List.setIfInBounds_toArray, List.set_cons_zero, List.set_cons_succ])
  refine wpAnyH_ready (rs := [7]) (by kernel_rfl) (by simp) ?_
  refine AllReadyH.cons (o := { dst := none, op := Op.store 32 (Operand.tmp 41) (Operand.tmp 39), type := 0, pos := "more.go:21", after := #[{ on := 6, ground := Ground.data }, { on := 3, ground := Ground.data }, { on := 5, ground := Ground.chain }, { on := 0, ground := Ground.phase }, { on := 1, ground := Ground.phase }, { on := 2, ground := Ground.phase }, { on := 3, ground := Ground.phase }, { on := 4, ground := Ground.phase }, { on := 5, ground := Ground.phase }], guard := none }) rfl (fun K hK => ?_) AllReadyH.nil
  rw [if_pos (by rfl)]
  refine wp_store_mid 32 _ _ rfl g9 19 VS.toArray rfl rfl ((And.left hHeld).thereN 19 _ (by have := HL_VS.out; simp; omega)) (by simpa using HI_VS.out) HO_VS.out ?_
  refine hK.out _ _ (HKR.out _ ((And.left hHeld).sets HNE.out.1 HNE.out.2 19 VS)) (fun hHeld => ?_)
  clear hK K
  (try simp only [Act.put])
  refine wpAnyH_done (by kernel_rfl) ?_ _
  refine NoPanic.normal ?_
  have hkf := (HK7.out.drew.sets1 HNE.out.1 HNE.out.2 3 VD HE2.out).sets1 HNE.out.1 HNE.out.2 19 VS HE3.out
  have HK8 : Hid (Kp w w.heap.size [(g9, 35, X3), (g7, 25, VA), (w.heap.size + 1 + 1, 23, VT), (w.heap.size + 1, 23, VF), (w.heap.size, 35, VP)] ((w7.drew.setCells g9 3 VD).setCells g9 19 VS)) := Lib.hid hkf
  clear hkf hHeld HK7 HKR
  generalize (w7.drew.setCells g9 3 VD).setCells g9 19 VS = w8 at *
  have hr0 := HK8.out.hd.range
  have hr1 := HK8.out.tl.tl.tl.hd.range
  have hr2 := HK8.out.tl.tl.hd.range
  go_wp2_with (((with_reducible (change wpList _ _ _ _ _ _)); (first | (refine wpList_load_mid rfl 35 _ rfl (g9) 0 rfl (X3) _ hr0 Try.underlying35 rfl HI_X3.out ?_) | (refine wpList_load_mid rfl 23 _ rfl (w.heap.size + 1) 0 rfl (VF) _ hr1 Try.underlying23 rfl HI_VF.out ?_) | (refine wpList_load_mid rfl 23 _ rfl (w.heap.size + 1 + 1) 0 rfl (VT) _ hr2 Try.underlying23 rfl HI_VT.out ?_))))
  clear hr0 hr1 hr2
  refine (CG.out _ HK8.out.2.1).mono ?_
  rintro e w9 ⟨rfl, bb⟩
  have HK9 := Lib.hid (HK8.out.below bb (Nat.le_refl _))
  clear bb HK8
  have HG9 : Hid (g9 < w9.heap.size ∧ g7 < w9.heap.size) := Lib.hid ⟨HK9.out.hd.lt, HK9.out.tl.hd.lt⟩
  have ht := (bk_new w9 25 ([.int .i64 0, .int .i64 0, .int .i64 0, .int .i64 0, .int .i64 0, .bool false, .bool false, .int .u8 0, .int .u8 0, .int .u8 0, .int .u8 0, .int .u8 0, .int .u8 0, .int .u8 0, .int .u8 0, .string ⟨#[]⟩, .string ⟨#[]⟩] : List Value).toArray).there VB.toArray.size (by have := HL_VB.out; simp; omega)
  go_upto_region 10 with (((with_reducible (change wpList _ _ _ _ _ _)); ((refine wpList_store_mid rfl 25 _ _ rfl (w9.heap.size) 0 VB.toArray rfl rfl ht (by simpa using HI_VB.out) HO_VB.out ?_))))
  have HK10 := Lib.hid (HK9.out.put 25 ([.int .i64 0, .int .i64 0, .int .i64 0, .int .i64 0, .int .i64 0, .bool false, .bool false, .int .u8 0, .int .u8 0, .int .u8 0, .int .u8 0, .int .u8 0, .int .u8 0, .int .u8 0, .int .u8 0, .string ⟨#[]⟩, .string ⟨#[]⟩] : List Value).toArray VB (by have := HL_VB.out; simp; omega))
  clear ht HK9
  generalize (w9.alloc (.cells ([.int .i64 0, .int .i64 0, .int .i64 0, .int .i64 0, .int .i64 0, .bool false, .bool false, .int .u8 0, .int .u8 0, .int .u8 0, .int .u8 0, .int .u8 0, .int .u8 0, .int .u8 0, .int .u8 0, .string ⟨#[]⟩, .string ⟨#[]⟩] : List Value).toArray 25)).setCells w9.heap.size 0 VB = w10 at *
  generalize w9.heap.size = g10 at *
  refine wp_region_noPanic ?_
  refine wp_region_held_drew (S := fun w' => Kp w w.heap.size [(g10, 25, VB), (g9, 35, X3), (g7, 25, VA), (w.heap.size + 1 + 1, 23, VT), (w.heap.size + 1, 23, VF), (w.heap.size, 35, VP)] w') (by kernel_rfl) (HK10.out.drew) (fun hHeld => ?_)
  refine wpAnyH_take (i := 0) (oi := { dst := some 51, op := Op.move (Operand.tmp 14), type := 27, pos := "more.go:23", after := #[], guard := none }) (v := ?_) rfl (by kernel_rfl) (by kernel_rfl) (by kernel_rfl) (fun _ _ _ h => h) (Or.inl ⟨by rfl, ?_⟩) (by assumption) ?_
  rotate_left
  · (intro ww hSw; (try dsimp only at hSw); go_simp; try with_reducible rfl)
  (try simp only [Act.put, List.setIfInBounds_toArray, List.set_cons_zero, List.set_cons_succ])
  refine wpAnyH_take (i := 1) (oi := { dst := some 52, op := Op.binOp BinOp.eql 27 (Operand.tmp 51) (Operand.const Value.nilIface) 27, type := 4, pos := "more.go:23", after := #[{ on := 0, ground := Ground.data }], guard := none }) (v := ?_) rfl (by kernel_rfl) (by kernel_rfl) (by kernel_rfl) (fun _ _ _ h => h) (Or.inl ⟨by rfl, ?_⟩) (by assumption) ?_
  rotate_left
  · (intro ww hSw; (try dsimp only at hSw); go_simp; try with_reducible rfl)
  (try simp only [Act.put, List.setIfInBounds_toArray, List.set_cons_zero, List.set_cons_succ])
  refine wpAnyH_take (i := 2) (oi := { dst := some 53, op := Op.move (Operand.tmp 17), type := 27, pos := "more.go:23", after := #[], guard := none }) (v := ?_) rfl (by kernel_rfl) (by kernel_rfl) (by kernel_rfl) (fun _ _ _ h => h) (Or.inl ⟨by rfl, ?_⟩) (by assumption) ?_
  rotate_left
  · (intro ww hSw; (try dsimp only at hSw); go_simp; try with_reducible rfl)
  (try simp only [Act.put, List.setIfInBounds_toArray, List.set_cons_zero, List.set_cons_succ])
  refine wpAnyH_take (i := 3) (oi := { dst := some 54, op := Op.binOp BinOp.eql 27 (Operand.tmp 53) (Operand.const Value.nilIface) 27, type := 4, pos := "more.go:23", after := #[{ on := 2, ground := Ground.data }], guard := none }) (v := ?_) rfl (by kernel_rfl) (by kernel_rfl) (by kernel_rfl) (fun _ _ _ h => h) (Or.inl ⟨by rfl, ?_⟩) (by assumption) ?_
  rotate_left
  · (intro ww hSw; (try dsimp only at hSw); go_simp; try with_reducible rfl)
  (try simp only [Act.put, List.setIfInBounds_toArray, List.set_cons_zero, List.set_cons_succ])
  refine wpAnyH_take (i := 4) (oi := { dst := some 55, op := Op.binOp BinOp.neq 4 (Operand.tmp 52) (Operand.tmp 54) 4, type := 4, pos := "more.go:23", after := #[{ on := 1, ground := Ground.data }, { on := 3, ground := Ground.data }], guard := none }) (v := ?_) rfl (by kernel_rfl) (by kernel_rfl) (by kernel_rfl) (fun _ _ _ h => h) (Or.inl ⟨by rfl, ?_⟩) (by assumption) ?_
  rotate_left
  · (intro ww hSw; (try dsimp only at hSw); go_simp; try with_reducible rfl)
  (try simp only [Act.put, List.setIfInBounds_toArray, List.set_cons_zero, List.set_cons_succ])
  refine wpAnyH_done (by kernel_rfl) ?_ _
  refine NoPanic.normal ?_
  have HK11 : Hid (Kp w w.heap.size [(g10, 25, VB), (g9, 35, X3), (g7, 25, VA), (w.heap.size + 1 + 1, 23, VT), (w.heap.size + 1, 23, VF), (w.heap.size, 35, VP)] w10.drew) := Lib.hid hHeld
  clear hHeld HK10
  generalize w10.drew = w11 at *
  go_upto_region 14 with (fail)
  have HK12 : Hid (Kp w w.heap.size [(g9, 35, X3), (g10, 25, VB), (g7, 25, VA), (w.heap.size + 1 + 1, 23, VT), (w.heap.size + 1, 23, VF), (w.heap.size, 35, VP)] w11) := Lib.hid ⟨fun x hx => HK11.out.1 x (by simp only [List.mem_cons, List.not_mem_nil, or_false] at hx ⊢; rcases hx with h | h | h | h | h | h <;> simp [h]), HK11.out.2⟩
  clear HK11
  obtain ⟨w12, hwe⟩ : ∃ W, W = w11 := ⟨_, rfl⟩
  rw [← hwe] at HK12 ⊢
  clear hwe
  have hne : ∀ x ∈ ([(g10, 25, VB), (g7, 25, VA), (w.heap.size + 1 + 1, 23, VT), (w.heap.size + 1, 23, VF), (w.heap.size, 35, VP)] : List (Nat × TypeId × List Value)), x.1 ≠ g9 := by
    have hg := HG9.out
    intro x hx
    rcases List.mem_cons.1 hx with rfl | hx
    · show g10 ≠ g9; omega
    · exact HNE.out.1 x hx
  have HNF := Lib.hid hne
  clear hne
  obtain ⟨uu, hu, hz⟩ := HK12.out.some1 35 (by have := HL_X3.out; omega)
  go_upto_region 15 with (fail)
  have hk := HK12.out.set1 HNF.out HNE.out.2 35 (.slice none 0 0)
  rw [HE4.out] at hk
  have HK13 := Lib.hid hk
  clear hk hu hz HK12
  generalize w12.setCell ⟨g9, 35, none⟩ (.slice none 0 0) = w13 at *
  have hr0 := HK13.out.hd.range
  have hr1 := HK13.out.tl.tl.tl.tl.hd.range
  have hr2 := HK13.out.tl.tl.tl.hd.range
  go_wp2_with (((with_reducible (change wpList _ _ _ _ _ _)); (first | (refine wpList_load_mid rfl 35 _ rfl (g9) 0 rfl (X4) _ hr0 Try.underlying35 rfl HI_X4.out ?_) | (refine wpList_load_mid rfl 23 _ rfl (w.heap.size + 1) 0 rfl (VF) _ hr1 Try.underlying23 rfl HI_VF.out ?_) | (refine wpList_load_mid rfl 23 _ rfl (w.heap.size + 1 + 1) 0 rfl (VT) _ hr2 Try.underlying23 rfl HI_VT.out ?_))))
  clear hr0 hr1 hr2
  refine (CI.out _ HK13.out.2.1).mono ?_
  rintro e w14 ⟨rfl, bb⟩
  have HK14 := Lib.hid (HK13.out.below bb (Nat.le_refl _))
  clear bb HK13
  have HG10 : Hid (g10 < w14.heap.size) := Lib.hid HK14.out.tl.hd.lt
  have ht := (bk_new w14 25 ([.int .i64 0, .int .i64 0, .int .i64 0, .int .i64 0, .int .i64 0, .bool false, .bool false, .int .u8 0, .int .u8 0, .int .u8 0, .int .u8 0, .int .u8 0, .int .u8 0, .int .u8 0, .int .u8 0, .string ⟨#[]⟩, .string ⟨#[]⟩] : List Value).toArray).there VB.toArray.size (by have := HL_VB.out; simp; omega)
  go_upto_region 16 with (((with_reducible (change wpList _ _ _ _ _ _)); ((refine wpList_store_mid rfl 25 _ _ rfl (w14.heap.size) 0 VB.toArray rfl rfl ht (by simpa using HI_VB.out) HO_VB.out ?_))))
  have HK15 := Lib.hid (HK14.out.put 25 ([.int .i64 0, .int .i64 0, .int .i64 0, .int .i64 0, .int .i64 0, .bool false, .bool false, .int .u8 0, .int .u8 0, .int .u8 0, .int .u8 0, .int .u8 0, .int .u8 0, .int .u8 0, .int .u8 0, .string ⟨#[]⟩, .string ⟨#[]⟩] : List Value).toArray VB (by have := HL_VB.out; simp; omega))
  clear ht HK14
  generalize (w14.alloc (.cells ([.int .i64 0, .int .i64 0, .int .i64 0, .int .i64 0, .int .i64 0, .bool false, .bool false, .int .u8 0, .int .u8 0, .int .u8 0, .int .u8 0, .int .u8 0, .int .u8 0, .int .u8 0, .int .u8 0, .string ⟨#[]⟩, .string ⟨#[]⟩] : List Value).toArray 25)).setCells w14.heap.size 0 VB = w15 at *
  generalize w14.heap.size = g12 at *
  have hr0 := HK15.out.hd.range
  have hr1 := HK15.out.tl.tl.hd.range
  have hnv := HNV.out
  refine wp_region_list ?_
  refine wpList_exec_if (op := { dst := some 76, op := Op.move (Operand.tmp 19), type := 27, pos := "more.go:31", after := #[], guard := none }) (by kernel_rfl) ?_ ?_ ?_
  rotate_left
  · (go_simp; try with_reducible rfl)
  (try simp only [Act.put, List.setIfInBounds_toArray, List.set_cons_zero, List.set_cons_succ])
  refine wpList_exec_if (op := { dst := some 77, op := Op.binOp BinOp.neq 27 (Operand.tmp 76) (Operand.const Value.nilIface) 27, type := 4, pos := "more.go:31", after := #[{ on := 0, ground := Ground.data }], guard := none }) (by kernel_rfl) ?_ ?_ ?_
  rotate_left
  · (go_simp; try with_reducible rfl)
  (try simp only [Act.put, List.setIfInBounds_toArray, List.set_cons_zero, List.set_cons_succ])
  refine wpList_exec_if (op := { dst := some 78, op := Op.move (Operand.tmp 77), type := 4, pos := "more.go:31", after := #[{ on := 1, ground := Ground.data }], guard := none }) (by kernel_rfl) ?_ ?_ ?_
  rotate_left
  · (go_simp; try with_reducible rfl)
  (try simp only [Act.put, List.setIfInBounds_toArray, List.set_cons_zero, List.set_cons_succ])
  refine wpList_load_if (op := { dst := some 79, op := Op.load 25 (Operand.tmp 18), type := 25, pos := "more.go:31", after := #[{ on := 2, ground := Ground.guard }], guard := some (2, false) }) (by kernel_rfl) 25 _ rfl g12 0 rfl VB _ hr0 Try.underlying25 rfl HI_VB.out ?_
  (try simp only [Act.put, List.setIfInBounds_toArray, List.set_cons_zero, List.set_cons_succ])
  refine wpList_load_if (op := { dst := some 80, op := Op.load 25 (Operand.tmp 16), type := 25, pos := "more.go:31", after := #[{ on := 2, ground := Ground.guard }], guard := some (2, false) }) (by kernel_rfl) 25 _ rfl g10 0 rfl VB _ hr1 Try.underlying25 rfl HI_VB.out ?_
  (try simp only [Act.put, List.setIfInBounds_toArray, List.set_cons_zero, List.set_cons_succ])
  clear hr0 hr1
  go_upto_region 18 with (fail)
  clear hnv
  have hr0 := HK15.out.tl.tl.tl.tl.tl.tl.hd.range
  go_wp2_with (((with_reducible (change wpList _ _ _ _ _ _)); ((refine wpList_load_mid rfl 35 _ rfl (w.heap.size) 0 rfl (VP) _ hr0 Try.underlying35 rfl HI_VP.out ?_))))
  clear hr0
  refine (HWa.out _).mono ?_
  rintro e w16 ⟨rfl, bb⟩
  have HK16 := Lib.hid (HK15.out.below bb (Nat.le_refl _))
  clear bb HK15
  have heq := HEV_VA.out
  go_upto_region 19 with (fail)
  have d7 : w16.cell? ⟨g7, 1, none⟩ = some (.int .i64 x) := HK16.out.tl.tl.tl.hd.at HC_VA_1.out
  have d10 : w16.cell? ⟨g10, 1, none⟩ = some (.int .i64 y) := HK16.out.tl.tl.hd.at HC_VB_1.out
  go_upto_region 21 with (fail)
  clear d10
  have HK17 : Hid (Kp w w.heap.size [(g10, 25, VB), (g12, 25, VB), (g9, 35, X4), (g7, 25, VA), (w.heap.size + 1 + 1, 23, VT), (w.heap.size + 1, 23, VF), (w.heap.size, 35, VP)] w16) := Lib.hid ⟨fun x hx => HK16.out.1 x (by simp only [List.mem_cons, List.not_mem_nil, or_false] at hx ⊢; rcases hx with h | h | h | h | h | h | h <;> simp [h]), HK16.out.2⟩
  clear HK16
  obtain ⟨w17, hwe⟩ : ∃ W, W = w16 := ⟨_, rfl⟩
  rw [← hwe] at HK17 ⊢
  clear hwe
  have hne : ∀ x ∈ ([(g12, 25, VB), (g9, 35, X4), (g7, 25, VA), (w.heap.size + 1 + 1, 23, VT), (w.heap.size + 1, 23, VF), (w.heap.size, 35, VP)] : List (Nat × TypeId × List Value)), x.1 ≠ g10 := by
    have hg := HG10.out
    have hg9 := HG9.out
    have hg7 := HG7.out
    intro x hx
    simp only [List.mem_cons, List.not_mem_nil, or_false] at hx
    rcases hx with rfl | rfl | rfl | rfl | rfl | rfl <;> (show _ ≠ g10; omega)
  have hgB : w.heap.size ≤ g10 := by have := HG9.out; have := HG7.out; omega
  obtain ⟨uu, hu, hz⟩ := HK17.out.some1 1 (by have := HL_VB.out; omega)
  have e7 := HK17.out.tl.tl.tl.hd.at HC_VA_1.out
  go_upto_region 22 with (fail)
  have hk := HK17.out.set1 hne hgB 1 (.int .i64 x)
  rw [HE9.out] at hk
  have HK18 := Lib.hid hk
  clear hk hu hz e7 HK17
  generalize w17.setCell ⟨g10, 1, none⟩ (.int .i64 x) = w18 at *
  have hr0 := HK18.out.tl.tl.tl.hd.range
  have hr1 := HK18.out.hd.range
  go_wp2_with (((with_reducible (change wpList _ _ _ _ _ _)); (first | (refine wpList_load_mid rfl 25 _ rfl (g7) 0 rfl (VA) _ hr0 Try.underlying25 rfl HI_VA.out ?_) | (refine wpList_load_mid rfl 25 _ rfl (g10) 0 rfl (VA) _ hr1 Try.underlying25 rfl HI_VA.out ?_))))
  go_ret
  exact ⟨rfl, HK18.out.2.1⟩
set_option maxRecDepth 100000 in
set_option maxHeartbeats 4000000 in
theorem blind64_other (p : Pk6) (v : Value) (f0 f1 f2 f3 t0 t1 t2 t3 : Int) (x y flow : Int) (w : World) (hx : Exs w v p.exts) (hq : Rch p) (hg : p.great = false) (ix : 0 ≤ x ∧ x ≤ 65535) (iy : 0 ≤ y ∧ y ≤ 65535) (hh : hcode64 p x = 0) (hm : p.small = false) :
    Calls Try.prog 7 #[.agg (p.vals v).toArray, .agg ([.int .u8 f0, .int .u8 f1, .int .u8 f2, .int .u8 f3] : List Value).toArray, .agg ([.int .u8 t0, .int .u8 t1, .int .u8 t2, .int .u8 t3] : List Value).toArray, .int .u16 x, .int .u16 y, .int .i64 flow] w (fun e w' => e = .returned (.bool true) ∧ Below w.heap.size w w') := by
  have hn := great_no hg
  have HG : Hid (∀ W, Below w.heap.size w W → Calls Try.prog 14 #[.agg (p.vals v).toArray] W fun e w' => e = .returned (.bool false) ∧ Below W.heap.size W w') := Lib.hid (fun W hW => by rw [← hg]; exact great_any p v W (hx.below hW (Nat.le_refl _)) hq.len hq.data hq.body)
  have hy : hcode64 p y = 0 := (hcode64_id iy ix).trans hh
  obtain ⟨VA, hVA⟩ : ∃ V, V = (h64 p f0 f1 f2 f3 t0 t1 t2 t3 x).vals := ⟨_, rfl⟩
  have CH : Hid (∀ W, Below w.heap.size w W → Calls Try.prog 9 #[.agg (p.vals v).toArray, .agg ([.int .u8 f0, .int .u8 f1, .int .u8 f2, .int .u8 f3] : List Value).toArray, .agg ([.int .u8 t0, .int .u8 t1, .int .u8 t2, .int .u8 t3] : List Value).toArray, .int .i64 x] W fun e w' => e = .returned (.tuple #[.agg VA.toArray, .nilIface]) ∧ Below W.heap.size W w') := Lib.hid (fun W hW => by
    refine (head64_any p v f0 f1 f2 f3 t0 t1 t2 t3 x W (hx.below hW (Nat.le_refl _)) (show p.exts.length ≤ _ by omega) (show p.data.size ≤ _ by omega)).mono ?_
    rintro e w' ⟨q, rfl, her, b⟩
    rcases her with ⟨_, rfl⟩ | ⟨h, _⟩
    · exact ⟨by rw [hVA]; rw [hout64_ok hh] <;> rfl, b⟩
    · exact absurd hh h)
  have CG : Hid (∀ W, Below w.heap.size w W → Calls Try.prog 9 #[.agg ((bl3 p flow).vals v).toArray, .agg ([.int .u8 f0, .int .u8 f1, .int .u8 f2, .int .u8 f3] : List Value).toArray, .agg ([.int .u8 t0, .int .u8 t1, .int .u8 t2, .int .u8 t3] : List Value).toArray, .int .i64 y] W fun e w' => e = .returned (.tuple #[.agg VA.toArray, .nilIface]) ∧ Below W.heap.size W w') := Lib.hid (fun W hW => by
    refine (head64_any (bl3 p flow) v f0 f1 f2 f3 t0 t1 t2 t3 y W (hx.below hW (Nat.le_refl _)) (show p.exts.length ≤ _ by omega) (show p.data.size ≤ _ by omega)).mono ?_
    rintro e w' ⟨q, rfl, her, b⟩
    rcases her with ⟨_, rfl⟩ | ⟨h, _⟩
    · exact ⟨by rw [hVA, h64_other (y := y) hm]; rw [hout64_ok ((bl3_code p flow y).trans hy)] <;> rfl, b⟩
    · exact absurd ((bl3_code p flow y).trans hy) h)
  have CI : Hid (∀ W, Below w.heap.size w W → Calls Try.prog 9 #[.agg ((bl4 p flow).vals (.slice none 0 0)).toArray, .agg ([.int .u8 f0, .int .u8 f1, .int .u8 f2, .int .u8 f3] : List Value).toArray, .agg ([.int .u8 t0, .int .u8 t1, .int .u8 t2, .int .u8 t3] : List Value).toArray, .int .i64 y] W fun e w' => e = .returned (.tuple #[.agg VA.toArray, .nilIface]) ∧ Below W.heap.size W w') := Lib.hid (fun W hW => by
    refine (head64_any (bl4 p flow) (.slice none 0 0) f0 f1 f2 f3 t0 t1 t2 t3 y W (nil_exs W) (Nat.zero_le _) (show p.data.size ≤ _ by omega)).mono ?_
    rintro e w' ⟨q, rfl, her, b⟩
    rcases her with ⟨_, rfl⟩ | ⟨h, _⟩
    · exact ⟨by rw [hVA, h64_other (y := y) hm]; rw [hout64_ok (bl4_code hy)] <;> rfl, b⟩
    · exact absurd (bl4_code hy) h)
  have HWa : Hid (∀ W, Calls Try.prog 12 #[.agg (p.vals v).toArray] W fun e w' => e = .returned (.bool false) ∧ Below W.heap.size W w') := Lib.hid (fun W => by rw [← hm]; exact wants64_any p v W)
  have HI_VA : Hid ((Try.prog.info? 25).map (·.size) = some VA.length) := Lib.hid (by rw [hVA]; exact P4.Try.infoIp _)
  have HO_VA : Hid ((VA).toArray.all (·.oneCell') = true) := Lib.hid (by rw [hVA]; exact P4.vals_one _)
  have HL_VA : Hid (VA.length = 17) := Lib.hid (by rw [hVA]; rfl)
  have HEV_VA : Hid (∀ W, (binOp .eql 25 (.agg VA.toArray) (.agg VA.toArray)).run Try.prog W = .ok (.bool true) W) := Lib.hid (fun W => by rw [hVA]; exact P4.eqlP (h64 p f0 f1 f2 f3 t0 t1 t2 t3 x) W)
  have HNV : Hid (∀ W, (binOp .neq 25 (.agg VA.toArray) (.agg VA.toArray)).run Try.prog W = .ok (.bool false) W) := Lib.hid (fun W => by rw [hVA]; exact neqP _ W)
  have HI_X1 : Hid ((Try.prog.info? 35).map (·.size) = some ((bl1 p flow).vals v).length) := Lib.hid (Try.info6 _ _)
  have HL_X1 : Hid (((bl1 p flow).vals v).length = 42) := Lib.hid (vals_len _ _)
  have HI_X2 : Hid ((Try.prog.info? 35).map (·.size) = some ((bl2 p flow).vals v).length) := Lib.hid (Try.info6 _ _)
  have HL_X2 : Hid (((bl2 p flow).vals v).length = 42) := Lib.hid (vals_len _ _)
  have HI_X3 : Hid ((Try.prog.info? 35).map (·.size) = some ((bl3 p flow).vals v).length) := Lib.hid (Try.info6 _ _)
  have HL_X3 : Hid (((bl3 p flow).vals v).length = 42) := Lib.hid (vals_len _ _)
  have HI_X4 : Hid ((Try.prog.info? 35).map (·.size) = some ((bl4 p flow).vals (.slice none 0 0)).length) := Lib.hid (Try.info6 _ _)
  have HL_X4 : Hid (((bl4 p flow).vals (.slice none 0 0)).length = 42) := Lib.hid (vals_len _ _)
  have HE1 := Lib.hid (bl_vals1 p v flow)
  have HE2 := Lib.hid (bl_vals2 p v flow)
  have HE3 := Lib.hid (bl_vals3 p v flow)
  have HE4 := Lib.hid (bl_vals4 p v flow)
  have HRG : Hid (∀ (W : World) (b : Nat), Bk W b 35 (p.vals v).toArray → W.rangeAt b 3 (bytV p.fr) ∧ W.rangeAt b 19 (bytV p.dst)) := Lib.hid (fun W b h => ⟨(cs6 h).fr, (cs6 h).dst⟩)
  have HI_VS : Hid ((Try.prog.info? 32).map (·.size) = some (bytV p.fr).length) := Lib.hid (Try.infoV6 _ p.hfr)
  have HO_VS : Hid ((bytV p.fr).toArray.all (·.oneCell') = true) := Lib.hid (by rw [List.all_toArray, List.all_eq_true]; exact bytV_one _)
  have HL_VS : Hid ((bytV p.fr).length = 16) := Lib.hid (by rw [bytV_len]; exact p.hfr)
  have HI_VD : Hid ((Try.prog.info? 32).map (·.size) = some (bytV p.dst).length) := Lib.hid (Try.infoV6 _ p.hdst)
  have HO_VD : Hid ((bytV p.dst).toArray.all (·.oneCell') = true) := Lib.hid (by rw [List.all_toArray, List.all_eq_true]; exact bytV_one _)
  have HL_VD : Hid ((bytV p.dst).length = 16) := Lib.hid (by rw [bytV_len]; exact p.hdst)
  clear hy hh hg hn hVA
  clear hm
  generalize bytV p.fr = VS at *
  generalize bytV p.dst = VD at *
  generalize (bl1 p flow).vals v = X1 at *
  generalize (bl2 p flow).vals v = X2 at *
  generalize (bl3 p flow).vals v = X3 at *
  generalize (bl4 p flow).vals (.slice none 0 0) = X4 at *
  have kx : IntKind.i64.wrap x = x := IntWalk.i64_in _ (by omega)
  have ky : IntKind.i64.wrap y = y := IntWalk.i64_in _ (by omega)
  have HI_VP : Hid ((Try.prog.info? 35).map (·.size) = some (p.vals v).length) := Lib.hid (Try.info6 _ _)
  have HO_VP : Hid ((p.vals v).toArray.all (·.oneCell') = true) := Lib.hid (vals_one _ _ (exs_cell hx))
  have HL_VP : Hid ((p.vals v).length = 42) := Lib.hid (vals_len _ _)
  have HC_VP_0 : Hid ((p.vals v)[0]? = some (.int .i64 p.cls)) := Lib.hid (rfl)
  have HC_VP_2 : Hid ((p.vals v)[2]? = some (.int .i64 p.hop)) := Lib.hid (rfl)
  have HC_VP_35 : Hid ((p.vals v)[35]? = some (v)) := Lib.hid (vals_tail p v 0)
  have HC_VP_36 : Hid ((p.vals v)[36]? = some (.bool p.frag)) := Lib.hid (vals_tail p v 1)
  have HC_VP_37 : Hid ((p.vals v)[37]? = some (.int .u32 p.id)) := Lib.hid (vals_tail p v 2)
  have HC_VP_38 : Hid ((p.vals v)[38]? = some (.int .i64 p.pl)) := Lib.hid (vals_tail p v 3)
  have HC_VP_39 : Hid ((p.vals v)[39]? = some (.bool p.more)) := Lib.hid (vals_tail p v 4)
  have HC_VP_40 : Hid ((p.vals v)[40]? = some (.int .i64 p.proto)) := Lib.hid (vals_tail p v 5)
  have HC_VP_41 : Hid ((p.vals v)[41]? = some (.string p.data)) := Lib.hid (vals_tail p v 6)
  have HI_VF : Hid ((Try.prog.info? 23).map (·.size) = some (([.int .u8 f0, .int .u8 f1, .int .u8 f2, .int .u8 f3] : List Value)).length) := Lib.hid (Try.infoV4c _ _ _ _)
  have HI_VT : Hid ((Try.prog.info? 23).map (·.size) = some (([.int .u8 t0, .int .u8 t1, .int .u8 t2, .int .u8 t3] : List Value)).length) := Lib.hid (Try.infoV4c _ _ _ _)
  have HX := Lib.hid hx
  clear hx
  have HK1 : Hid (Kp w w.heap.size [(w.heap.size + 1 + 1, 23, ([.int .u8 t0, .int .u8 t1, .int .u8 t2, .int .u8 t3] : List Value)), (w.heap.size + 1, 23, ([.int .u8 f0, .int .u8 f1, .int .u8 f2, .int .u8 f3] : List Value)), (w.heap.size, 35, p.vals v)] (((w.alloc (.cells (p.vals v).toArray 35)).alloc (.cells ([.int .u8 f0, .int .u8 f1, .int .u8 f2, .int .u8 f3] : List Value).toArray 23)).alloc (.cells ([.int .u8 t0, .int .u8 t1, .int .u8 t2, .int .u8 t3] : List Value).toArray 23))) := Lib.hid (by
    have h := ((Kp.start w).new 35 (p.vals v)).new 23 ([.int .u8 f0, .int .u8 f1, .int .u8 f2, .int .u8 f3] : List Value)
    have e1 : (w.alloc (.cells (p.vals v).toArray 35)).heap.size = w.heap.size + 1 := by simp
    have e2 : ((w.alloc (.cells (p.vals v).toArray 35)).alloc (.cells ([.int .u8 f0, .int .u8 f1, .int .u8 f2, .int .u8 f3] : List Value).toArray 23)).heap.size = w.heap.size + 1 + 1 := by simp
    rw [e1] at h
    have h2 := h.new 23 ([.int .u8 t0, .int .u8 t1, .int .u8 t2, .int .u8 t3] : List Value)
    rwa [e2] at h2)
  generalize p.vals v = VP at *
  generalize ([.int .u8 f0, .int .u8 f1, .int .u8 f2, .int .u8 f3] : List Value) = VF at *
  generalize ([.int .u8 t0, .int .u8 t1, .int .u8 t2, .int .u8 t3] : List Value) = VT at *
  generalize hw1 : ((w.alloc (.cells VP.toArray 35)).alloc (.cells VF.toArray 23)).alloc (.cells VT.toArray 23) = w1 at *
  go_enter Try.func7, Try.ntmps7
  go_upto_region 1 with (fail)
  clear hw1
  go_wp2_with (fail)
  refine (awake64_true _).mono ?_
  rintro e w2 ⟨rfl, bb⟩
  have HK2 := Lib.hid (HK1.out.below bb (Nat.le_refl _))
  clear bb HK1
  have hr0 := HK2.out.tl.tl.hd.range
  go_wp2_with (((with_reducible (change wpList _ _ _ _ _ _)); ((refine wpList_load_mid rfl 35 _ rfl (w.heap.size) 0 rfl (VP) _ hr0 Try.underlying35 rfl HI_VP.out ?_))))
  clear hr0
  refine (HG.out _ HK2.out.2.1).mono ?_
  rintro e w3 ⟨rfl, bb⟩
  have HK3 := Lib.hid (HK2.out.below bb (Nat.le_refl _))
  clear bb HK2
  go_upto_region 5 with (fail)
  have hr0 := HK3.out.tl.tl.hd.range
  have hr1 := HK3.out.tl.hd.range
  have hr2 := HK3.out.hd.range
  go_wp2_with (((with_reducible (change wpList _ _ _ _ _ _)); (first | (refine wpList_load_mid rfl 35 _ rfl (w.heap.size) 0 rfl (VP) _ hr0 Try.underlying35 rfl HI_VP.out ?_) | (refine wpList_load_mid rfl 23 _ rfl (w.heap.size + 1) 0 rfl (VF) _ hr1 Try.underlying23 rfl HI_VF.out ?_) | (refine wpList_load_mid rfl 23 _ rfl (w.heap.size + 1 + 1) 0 rfl (VT) _ hr2 Try.underlying23 rfl HI_VT.out ?_))))
  clear hr0 hr1 hr2
  refine (CH.out _ HK3.out.2.1).mono ?_
  rintro e w4 ⟨rfl, bb⟩
  have HK4 := Lib.hid (HK3.out.below bb (Nat.le_refl _))
  clear bb HK3
  have ht := (bk_new w4 25 ([.int .i64 0, .int .i64 0, .int .i64 0, .int .i64 0, .int .i64 0, .bool false, .bool false, .int .u8 0, .int .u8 0, .int .u8 0, .int .u8 0, .int .u8 0, .int .u8 0, .int .u8 0, .int .u8 0, .string ⟨#[]⟩, .string ⟨#[]⟩] : List Value).toArray).there VA.toArray.size (by have := HL_VA.out; simp; omega)
  go_upto_region 6 with (((with_reducible (change wpList _ _ _ _ _ _)); ((refine wpList_store_mid rfl 25 _ _ rfl (w4.heap.size) 0 VA.toArray rfl rfl ht (by simpa using HI_VA.out) HO_VA.out ?_))))
  have HK5 := Lib.hid (HK4.out.put 25 ([.int .i64 0, .int .i64 0, .int .i64 0, .int .i64 0, .int .i64 0, .bool false, .bool false, .int .u8 0, .int .u8 0, .int .u8 0, .int .u8 0, .int .u8 0, .int .u8 0, .int .u8 0, .int .u8 0, .string ⟨#[]⟩, .string ⟨#[]⟩] : List Value).toArray VA (by have := HL_VA.out; simp; omega))
  clear ht HK4
  generalize (w4.alloc (.cells ([.int .i64 0, .int .i64 0, .int .i64 0, .int .i64 0, .int .i64 0, .bool false, .bool false, .int .u8 0, .int .u8 0, .int .u8 0, .int .u8 0, .int .u8 0, .int .u8 0, .int .u8 0, .int .u8 0, .string ⟨#[]⟩, .string ⟨#[]⟩] : List Value).toArray 25)).setCells w4.heap.size 0 VA = w5 at *
  generalize w4.heap.size = g7 at *
  have HG7 : Hid (g7 < w5.heap.size ∧ w.heap.size + 1 + 1 < w5.heap.size) := Lib.hid ⟨HK5.out.hd.lt, HK5.out.tl.hd.lt⟩
  have hr0 := HK5.out.tl.tl.tl.hd.range
  have ht := (bk_new w5 35 ([.int .i64 0, .int .i64 0, .int .i64 0, .int .u8 0, .int .u8 0, .int .u8 0, .int .u8 0, .int .u8 0, .int .u8 0, .int .u8 0, .int .u8 0, .int .u8 0, .int .u8 0, .int .u8 0, .int .u8 0, .int .u8 0, .int .u8 0, .int .u8 0, .int .u8 0, .int .u8 0, .int .u8 0, .int .u8 0, .int .u8 0, .int .u8 0, .int .u8 0, .int .u8 0, .int .u8 0, .int .u8 0, .int .u8 0, .int .u8 0, .int .u8 0, .int .u8 0, .int .u8 0, .int .u8 0, .int .u8 0, .slice none 0 0, .bool false, .int .u32 0, .int .i64 0, .bool false, .int .i64 0, .string ⟨#[]⟩] : List Value).toArray).there VP.toArray.size (by have := HL_VP.out; simp; omega)
  go_upto_region 7 with (((with_reducible (change wpList _ _ _ _ _ _)); (first | (refine wpList_load_mid rfl 35 _ rfl (w.heap.size) 0 rfl (VP) _ hr0 Try.underlying35 rfl HI_VP.out ?_) | (refine wpList_store_mid rfl 35 _ _ rfl (w5.heap.size) 0 VP.toArray rfl rfl ht (by simpa using HI_VP.out) HO_VP.out ?_))))
  have HK6 := Lib.hid (HK5.out.put 35 ([.int .i64 0, .int .i64 0, .int .i64 0, .int .u8 0, .int .u8 0, .int .u8 0, .int .u8 0, .int .u8 0, .int .u8 0, .int .u8 0, .int .u8 0, .int .u8 0, .int .u8 0, .int .u8 0, .int .u8 0, .int .u8 0, .int .u8 0, .int .u8 0, .int .u8 0, .int .u8 0, .int .u8 0, .int .u8 0, .int .u8 0, .int .u8 0, .int .u8 0, .int .u8 0, .int .u8 0, .int .u8 0, .int .u8 0, .int .u8 0, .int .u8 0, .int .u8 0, .int .u8 0, .int .u8 0, .int .u8 0, .slice none 0 0, .bool false, .int .u32 0, .int .i64 0, .bool false, .int .i64 0, .string ⟨#[]⟩] : List Value).toArray VP (by have := HL_VP.out; simp; omega))
  clear ht HK5
  generalize (w5.alloc (.cells ([.int .i64 0, .int .i64 0, .int .i64 0, .int .u8 0, .int .u8 0, .int .u8 0, .int .u8 0, .int .u8 0, .int .u8 0, .int .u8 0, .int .u8 0, .int .u8 0, .int .u8 0, .int .u8 0, .int .u8 0, .int .u8 0, .int .u8 0, .int .u8 0, .int .u8 0, .int .u8 0, .int .u8 0, .int .u8 0, .int .u8 0, .int .u8 0, .int .u8 0, .int .u8 0, .int .u8 0, .int .u8 0, .int .u8 0, .int .u8 0, .int .u8 0, .int .u8 0, .int .u8 0, .int .u8 0, .int .u8 0, .slice none 0 0, .bool false, .int .u32 0, .int .i64 0, .bool false, .int .i64 0, .string ⟨#[]⟩] : List Value).toArray 35)).setCells w5.heap.size 0 VP = w6 at *
  generalize w5.heap.size = g9 at *
  clear hr0
  have hne : ∀ x ∈ ([(g7, 25, VA), (w.heap.size + 1 + 1, 23, VT), (w.heap.size + 1, 23, VF), (w.heap.size, 35, VP)] : List (Nat × TypeId × List Value)), x.1 ≠ g9 := by
    have hg := HG7.out
    intro x hx
    simp only [List.mem_cons, List.not_mem_nil, or_false] at hx
    rcases hx with rfl | rfl | rfl | rfl <;> (show _ ≠ g9; omega)
  have hgB : w.heap.size ≤ g9 := by have := HG7.out; omega
  have HNE := Lib.hid (And.intro hne hgB)
  clear hne hgB
  obtain ⟨uu, hu, hz⟩ := HK6.out.some1 1 (by have := HL_VP.out; omega)
  go_upto_region 8 with (fail)
  have hk := HK6.out.set1 HNE.out.1 HNE.out.2 1 (.int .i64 flow)
  rw [HE1.out] at hk
  have HK7 := Lib.hid hk
  clear hk hu hz HK6
  generalize w6.setCell ⟨g9, 1, none⟩ (.int .i64 flow) = w7 at *
  have HKR : Hid (∀ W : World, Pst w w.heap.size [(g7, 25, VA), (w.heap.size + 1 + 1, 23, VT), (w.heap.size + 1, 23, VF), (w.heap.size, 35, VP)] g9 35 42 W → (fun w' => Pst w w.heap.size [(g7, 25, VA), (w.heap.size + 1 + 1, 23, VT), (w.heap.size + 1, 23, VF), (w.heap.size, 35, VP)] g9 35 42 w' ∧ w'.rangeAt (w.heap.size) 3 VS ∧ w'.rangeAt (w.heap.size) 19 VD) W) := Lib.hid (fun W k => ⟨k, HRG.out _ _ k.1.tl.tl.tl.hd⟩)
  refine wp_region_noPanic ?_
  refine wp_region_held_drew (S := fun w' => Pst w w.heap.size [(g7, 25, VA), (w.heap.size + 1 + 1, 23, VT), (w.heap.size + 1, 23, VF), (w.heap.size, 35, VP)] g9 35 42 w' ∧ w'.rangeAt (w.heap.size) 3 VS ∧ w'.rangeAt (w.heap.size) 19 VD) (by kernel_rfl) (HKR.out _ (Pst.of HK7.out.drew HL_X1.out)) (fun hHeld => ?_)
  refine wpAnyH_take (i := 0) (oi := { dst := some 36, op := Op.fieldAddr 35 (Operand.tmp 6) 4, type := 0, pos := "more.go:21", after := #[], guard := none }) (v := ?_) rfl (by kernel_rfl) (by kernel_rfl) (by kernel_rfl) (fun _ _ _ h => h) (Or.inl ⟨by rfl, ?_⟩) (by assumption) ?_
  rotate_left
  · (intro ww hSw; (try dsimp only at hSw); go_simp; try with_reducible rfl)
  (try simp only [Act.put, List.setIfInBounds_toArray, List.set_cons_zero, List.set_cons_succ])
  refine wpAnyH_take (i := 1) (oi := { dst := some 37, op := Op.load 32 (Operand.tmp 36), type := 32, pos := "more.go:21", after := #[{ on := 0, ground := Ground.data }], guard := none }) (v := .agg (VD).toArray) rfl (by kernel_rfl) (by kernel_rfl) (by kernel_rfl) (fun _ _ _ h => h) (yieldsIf_load_mid (by rfl) _ _ rfl (w.heap.size) 19 rfl (VD) _ (fun ww hSw => hSw.2.2) Try.underlying32 rfl HI_VD.out) (by assumption) ?_
  (try simp only [Act.put, List.setIfInBounds_toArray, List.set_cons_zero, List.set_cons_succ])
  refine wpAnyH_take (i := 2) (oi := { dst := some 38, op := Op.fieldAddr 35 (Operand.tmp 6) 3, type := 0, pos := "more.go:21", after := #[{ on := 5, ground := Ground.gcOnly Departure.lateStores }], guard := none }) (v := ?_) rfl (by kernel_rfl) (by kernel_rfl) (by kernel_rfl) (fun _ _ _ h => h) (Or.inl ⟨by rfl, ?_⟩) (by assumption) ?_
  rotate_left
  · (intro ww hSw; (try dsimp only at hSw); go_simp; try with_reducible rfl)
  (try simp only [Act.put, List.setIfInBounds_toArray, List.set_cons_zero, List.set_cons_succ])
  refine wpAnyH_take (i := 3) (oi := { dst := some 39, op := Op.load 32 (Operand.tmp 38), type := 32, pos := "more.go:21", after := #[{ on := 2, ground := Ground.data }, { on := 5, ground := Ground.gcOnly Departure.lateStores }], guard := none }) (v := .agg (VS).toArray) rfl (by kernel_rfl) (by kernel_rfl) (by kernel_rfl) (fun _ _ _ h => h) (yieldsIf_load_mid (by rfl) _ _ rfl (w.heap.size) 3 rfl (VS) _ (fun ww hSw => hSw.2.1) Try.underlying32 rfl HI_VS.out) (by assumption) ?_
  (try simp only [Act.put, List.setIfInBounds_toArray, List.set_cons_zero, List.set_cons_succ])
  refine wpAnyH_take (i := 4) (oi := { dst := some 40, op := Op.fieldAddr 35 (Operand.tmp 15) 3, type := 0, pos := "more.go:21", after := #[{ on := 0, ground := Ground.phase }, { on := 1, ground := Ground.phase }, { on := 2, ground := Ground.textOnly Departure.lateStores }, { on := 3, ground := Ground.textOnly Departure.lateStores }], guard := none }) (v := ?_) rfl (by kernel_rfl) (by kernel_rfl) (by kernel_rfl) (fun _ _ _ h => h) (Or.inl ⟨by rfl, ?_⟩) (by assumption) ?_
  rotate_left
  · (intro ww hSw; (try dsimp only at hSw); go_simp; try with_reducible rfl)
  (try simp only [Act.put, List.setIfInBounds_toArray, List.set_cons_zero, List.set_cons_succ])
  refine wpAnyH_ready (rs := [5]) (by kernel_rfl) (by simp) ?_
  refine AllReadyH.cons (o := { dst := none, op := Op.store 32 (Operand.tmp 40) (Operand.tmp 37), type := 0, pos := "more.go:21", after := #[{ on := 4, ground := Ground.data }, { on := 1, ground := Ground.data }, { on := 0, ground := Ground.phase }, { on := 1, ground := Ground.phase }, { on := 2, ground := Ground.textOnly Departure.lateStores }, { on := 3, ground := Ground.textOnly Departure.lateStores }], guard := none }) rfl (fun K hK => ?_) AllReadyH.nil
  rw [if_pos (by rfl)]
  refine wp_store_mid 32 _ _ rfl g9 3 VD.toArray rfl rfl ((And.left hHeld).thereN 3 _ (by have := HL_VD.out; simp; omega)) (by simpa using HI_VD.out) HO_VD.out ?_
  refine hK.out _ _ (HKR.out _ ((And.left hHeld).sets HNE.out.1 HNE.out.2 3 VD)) (fun hHeld => ?_)
  clear hK K
  (try simp only [Act.put])
  refine wpAnyH_take (i := 6) (oi := { dst := some 41, op := Op.fieldAddr 35 (Operand.tmp 15) 4, type := 0, pos := "more.go:21", after := #[{ on := 0, ground := Ground.phase }, { on := 1, ground := Ground.phase }, { on := 2, ground := Ground.phase }, { on := 3, ground := Ground.phase }, { on := 4, ground := Ground.phase }, { on := 5, ground := Ground.phase }], guard := none }) (v := ?_) rfl (by kernel_rfl) (by kernel_rfl) (by kernel_rfl) (fun _ _ _ h => h) (Or.inl ⟨by rfl, ?_⟩) (by assumption) ?_
  rotate_left
  · (intro ww hSw; (try dsimp only at hSw); go_simp; try with_reducible rfl)
  (try simp only [Act.put, List.setIfInBounds_toArray, List.set_cons_zero, List.set_cons_succ])
  refine wpAnyH_ready (rs := [7]) (by kernel_rfl) (by simp) ?_
  refine AllReadyH.cons (o := { dst := none, op := Op.store 32 (Operand.tmp 41) (Operand.tmp 39), type := 0, pos := "more.go:21", after := #[{ on := 6, ground := Ground.data }, { on := 3, ground := Ground.data }, { on := 5, ground := Ground.chain }, { on := 0, ground := Ground.phase }, { on := 1, ground := Ground.phase }, { on := 2, ground := Ground.phase }, { on := 3, ground := Ground.phase }, { on := 4, ground := Ground.phase }, { on := 5, ground := Ground.phase }], guard := none }) rfl (fun K hK => ?_) AllReadyH.nil
  rw [if_pos (by rfl)]
  refine wp_store_mid 32 _ _ rfl g9 19 VS.toArray rfl rfl ((And.left hHeld).thereN 19 _ (by have := HL_VS.out; simp; omega)) (by simpa using HI_VS.out) HO_VS.out ?_
  refine hK.out _ _ (HKR.out _ ((And.left hHeld).sets HNE.out.1 HNE.out.2 19 VS)) (fun hHeld => ?_)
  clear hK K
  (try simp only [Act.put])
  refine wpAnyH_done (by kernel_rfl) ?_ _
  refine NoPanic.normal ?_
  have hkf := (HK7.out.drew.sets1 HNE.out.1 HNE.out.2 3 VD HE2.out).sets1 HNE.out.1 HNE.out.2 19 VS HE3.out
  have HK8 : Hid (Kp w w.heap.size [(g9, 35, X3), (g7, 25, VA), (w.heap.size + 1 + 1, 23, VT), (w.heap.size + 1, 23, VF), (w.heap.size, 35, VP)] ((w7.drew.setCells g9 3 VD).setCells g9 19 VS)) := Lib.hid hkf
  clear hkf hHeld HK7 HKR
  generalize (w7.drew.setCells g9 3 VD).setCells g9 19 VS = w8 at *
  have hr0 := HK8.out.hd.range
  have hr1 := HK8.out.tl.tl.tl.hd.range
  have hr2 := HK8.out.tl.tl.hd.range
  go_wp2_with (((with_reducible (change wpList _ _ _ _ _ _)); (first | (refine wpList_load_mid rfl 35 _ rfl (g9) 0 rfl (X3) _ hr0 Try.underlying35 rfl HI_X3.out ?_) | (refine wpList_load_mid rfl 23 _ rfl (w.heap.size + 1) 0 rfl (VF) _ hr1 Try.underlying23 rfl HI_VF.out ?_) | (refine wpList_load_mid rfl 23 _ rfl (w.heap.size + 1 + 1) 0 rfl (VT) _ hr2 Try.underlying23 rfl HI_VT.out ?_))))
  clear hr0 hr1 hr2
  refine (CG.out _ HK8.out.2.1).mono ?_
  rintro e w9 ⟨rfl, bb⟩
  have HK9 := Lib.hid (HK8.out.below bb (Nat.le_refl _))
  clear bb HK8
  have HG9 : Hid (g9 < w9.heap.size ∧ g7 < w9.heap.size) := Lib.hid ⟨HK9.out.hd.lt, HK9.out.tl.hd.lt⟩
  have ht := (bk_new w9 25 ([.int .i64 0, .int .i64 0, .int .i64 0, .int .i64 0, .int .i64 0, .bool false, .bool false, .int .u8 0, .int .u8 0, .int .u8 0, .int .u8 0, .int .u8 0, .int .u8 0, .int .u8 0, .int .u8 0, .string ⟨#[]⟩, .string ⟨#[]⟩] : List Value).toArray).there VA.toArray.size (by have := HL_VA.out; simp; omega)
  go_upto_region 10 with (((with_reducible (change wpList _ _ _ _ _ _)); ((refine wpList_store_mid rfl 25 _ _ rfl (w9.heap.size) 0 VA.toArray rfl rfl ht (by simpa using HI_VA.out) HO_VA.out ?_))))
  have HK10 := Lib.hid (HK9.out.put 25 ([.int .i64 0, .int .i64 0, .int .i64 0, .int .i64 0, .int .i64 0, .bool false, .bool false, .int .u8 0, .int .u8 0, .int .u8 0, .int .u8 0, .int .u8 0, .int .u8 0, .int .u8 0, .int .u8 0, .string ⟨#[]⟩, .string ⟨#[]⟩] : List Value).toArray VA (by have := HL_VA.out; simp; omega))
  clear ht HK9
  generalize (w9.alloc (.cells ([.int .i64 0, .int .i64 0, .int .i64 0, .int .i64 0, .int .i64 0, .bool false, .bool false, .int .u8 0, .int .u8 0, .int .u8 0, .int .u8 0, .int .u8 0, .int .u8 0, .int .u8 0, .int .u8 0, .string ⟨#[]⟩, .string ⟨#[]⟩] : List Value).toArray 25)).setCells w9.heap.size 0 VA = w10 at *
  generalize w9.heap.size = g10 at *
  refine wp_region_noPanic ?_
  refine wp_region_held_drew (S := fun w' => Kp w w.heap.size [(g10, 25, VA), (g9, 35, X3), (g7, 25, VA), (w.heap.size + 1 + 1, 23, VT), (w.heap.size + 1, 23, VF), (w.heap.size, 35, VP)] w') (by kernel_rfl) (HK10.out.drew) (fun hHeld => ?_)
  refine wpAnyH_take (i := 0) (oi := { dst := some 51, op := Op.move (Operand.tmp 14), type := 27, pos := "more.go:23", after := #[], guard := none }) (v := ?_) rfl (by kernel_rfl) (by kernel_rfl) (by kernel_rfl) (fun _ _ _ h => h) (Or.inl ⟨by rfl, ?_⟩) (by assumption) ?_
  rotate_left
  · (intro ww hSw; (try dsimp only at hSw); go_simp; try with_reducible rfl)
  (try simp only [Act.put, List.setIfInBounds_toArray, List.set_cons_zero, List.set_cons_succ])
  refine wpAnyH_take (i := 1) (oi := { dst := some 52, op := Op.binOp BinOp.eql 27 (Operand.tmp 51) (Operand.const Value.nilIface) 27, type := 4, pos := "more.go:23", after := #[{ on := 0, ground := Ground.data }], guard := none }) (v := ?_) rfl (by kernel_rfl) (by kernel_rfl) (by kernel_rfl) (fun _ _ _ h => h) (Or.inl ⟨by rfl, ?_⟩) (by assumption) ?_
  rotate_left
  · (intro ww hSw; (try dsimp only at hSw); go_simp; try with_reducible rfl)
  (try simp only [Act.put, List.setIfInBounds_toArray, List.set_cons_zero, List.set_cons_succ])
  refine wpAnyH_take (i := 2) (oi := { dst := some 53, op := Op.move (Operand.tmp 17), type := 27, pos := "more.go:23", after := #[], guard := none }) (v := ?_) rfl (by kernel_rfl) (by kernel_rfl) (by kernel_rfl) (fun _ _ _ h => h) (Or.inl ⟨by rfl, ?_⟩) (by assumption) ?_
  rotate_left
  · (intro ww hSw; (try dsimp only at hSw); go_simp; try with_reducible rfl)
  (try simp only [Act.put, List.setIfInBounds_toArray, List.set_cons_zero, List.set_cons_succ])
  refine wpAnyH_take (i := 3) (oi := { dst := some 54, op := Op.binOp BinOp.eql 27 (Operand.tmp 53) (Operand.const Value.nilIface) 27, type := 4, pos := "more.go:23", after := #[{ on := 2, ground := Ground.data }], guard := none }) (v := ?_) rfl (by kernel_rfl) (by kernel_rfl) (by kernel_rfl) (fun _ _ _ h => h) (Or.inl ⟨by rfl, ?_⟩) (by assumption) ?_
  rotate_left
  · (intro ww hSw; (try dsimp only at hSw); go_simp; try with_reducible rfl)
  (try simp only [Act.put, List.setIfInBounds_toArray, List.set_cons_zero, List.set_cons_succ])
  refine wpAnyH_take (i := 4) (oi := { dst := some 55, op := Op.binOp BinOp.neq 4 (Operand.tmp 52) (Operand.tmp 54) 4, type := 4, pos := "more.go:23", after := #[{ on := 1, ground := Ground.data }, { on := 3, ground := Ground.data }], guard := none }) (v := ?_) rfl (by kernel_rfl) (by kernel_rfl) (by kernel_rfl) (fun _ _ _ h => h) (Or.inl ⟨by rfl, ?_⟩) (by assumption) ?_
  rotate_left
  · (intro ww hSw; (try dsimp only at hSw); go_simp; try with_reducible rfl)
  (try simp only [Act.put, List.setIfInBounds_toArray, List.set_cons_zero, List.set_cons_succ])
  refine wpAnyH_done (by kernel_rfl) ?_ _
  refine NoPanic.normal ?_
  have HK11 : Hid (Kp w w.heap.size [(g10, 25, VA), (g9, 35, X3), (g7, 25, VA), (w.heap.size + 1 + 1, 23, VT), (w.heap.size + 1, 23, VF), (w.heap.size, 35, VP)] w10.drew) := Lib.hid hHeld
  clear hHeld HK10
  generalize w10.drew = w11 at *
  go_upto_region 14 with (fail)
  have HK12 : Hid (Kp w w.heap.size [(g9, 35, X3), (g10, 25, VA), (g7, 25, VA), (w.heap.size + 1 + 1, 23, VT), (w.heap.size + 1, 23, VF), (w.heap.size, 35, VP)] w11) := Lib.hid ⟨fun x hx => HK11.out.1 x (by simp only [List.mem_cons, List.not_mem_nil, or_false] at hx ⊢; rcases hx with h | h | h | h | h | h <;> simp [h]), HK11.out.2⟩
  clear HK11
  obtain ⟨w12, hwe⟩ : ∃ W, W = w11 := ⟨_, rfl⟩
  rw [← hwe] at HK12 ⊢
  clear hwe
  have hne : ∀ x ∈ ([(g10, 25, VA), (g7, 25, VA), (w.heap.size + 1 + 1, 23, VT), (w.heap.size + 1, 23, VF), (w.heap.size, 35, VP)] : List (Nat × TypeId × List Value)), x.1 ≠ g9 := by
    have hg := HG9.out
    intro x hx
    rcases List.mem_cons.1 hx with rfl | hx
    · show g10 ≠ g9; omega
    · exact HNE.out.1 x hx
  have HNF := Lib.hid hne
  clear hne
  obtain ⟨uu, hu, hz⟩ := HK12.out.some1 35 (by have := HL_X3.out; omega)
  go_upto_region 15 with (fail)
  have hk := HK12.out.set1 HNF.out HNE.out.2 35 (.slice none 0 0)
  rw [HE4.out] at hk
  have HK13 := Lib.hid hk
  clear hk hu hz HK12
  generalize w12.setCell ⟨g9, 35, none⟩ (.slice none 0 0) = w13 at *
  have hr0 := HK13.out.hd.range
  have hr1 := HK13.out.tl.tl.tl.tl.hd.range
  have hr2 := HK13.out.tl.tl.tl.hd.range
  go_wp2_with (((with_reducible (change wpList _ _ _ _ _ _)); (first | (refine wpList_load_mid rfl 35 _ rfl (g9) 0 rfl (X4) _ hr0 Try.underlying35 rfl HI_X4.out ?_) | (refine wpList_load_mid rfl 23 _ rfl (w.heap.size + 1) 0 rfl (VF) _ hr1 Try.underlying23 rfl HI_VF.out ?_) | (refine wpList_load_mid rfl 23 _ rfl (w.heap.size + 1 + 1) 0 rfl (VT) _ hr2 Try.underlying23 rfl HI_VT.out ?_))))
  clear hr0 hr1 hr2
  refine (CI.out _ HK13.out.2.1).mono ?_
  rintro e w14 ⟨rfl, bb⟩
  have HK14 := Lib.hid (HK13.out.below bb (Nat.le_refl _))
  clear bb HK13
  have HG10 : Hid (g10 < w14.heap.size) := Lib.hid HK14.out.tl.hd.lt
  have ht := (bk_new w14 25 ([.int .i64 0, .int .i64 0, .int .i64 0, .int .i64 0, .int .i64 0, .bool false, .bool false, .int .u8 0, .int .u8 0, .int .u8 0, .int .u8 0, .int .u8 0, .int .u8 0, .int .u8 0, .int .u8 0, .string ⟨#[]⟩, .string ⟨#[]⟩] : List Value).toArray).there VA.toArray.size (by have := HL_VA.out; simp; omega)
  go_upto_region 16 with (((with_reducible (change wpList _ _ _ _ _ _)); ((refine wpList_store_mid rfl 25 _ _ rfl (w14.heap.size) 0 VA.toArray rfl rfl ht (by simpa using HI_VA.out) HO_VA.out ?_))))
  have HK15 := Lib.hid (HK14.out.put 25 ([.int .i64 0, .int .i64 0, .int .i64 0, .int .i64 0, .int .i64 0, .bool false, .bool false, .int .u8 0, .int .u8 0, .int .u8 0, .int .u8 0, .int .u8 0, .int .u8 0, .int .u8 0, .int .u8 0, .string ⟨#[]⟩, .string ⟨#[]⟩] : List Value).toArray VA (by have := HL_VA.out; simp; omega))
  clear ht HK14
  generalize (w14.alloc (.cells ([.int .i64 0, .int .i64 0, .int .i64 0, .int .i64 0, .int .i64 0, .bool false, .bool false, .int .u8 0, .int .u8 0, .int .u8 0, .int .u8 0, .int .u8 0, .int .u8 0, .int .u8 0, .int .u8 0, .string ⟨#[]⟩, .string ⟨#[]⟩] : List Value).toArray 25)).setCells w14.heap.size 0 VA = w15 at *
  generalize w14.heap.size = g12 at *
  have hr0 := HK15.out.hd.range
  have hr1 := HK15.out.tl.tl.hd.range
  have hnv := HNV.out
  refine wp_region_list ?_
  refine wpList_exec_if (op := { dst := some 76, op := Op.move (Operand.tmp 19), type := 27, pos := "more.go:31", after := #[], guard := none }) (by kernel_rfl) ?_ ?_ ?_
  rotate_left
  · (go_simp; try with_reducible rfl)
  (try simp only [Act.put, List.setIfInBounds_toArray, List.set_cons_zero, List.set_cons_succ])
  refine wpList_exec_if (op := { dst := some 77, op := Op.binOp BinOp.neq 27 (Operand.tmp 76) (Operand.const Value.nilIface) 27, type := 4, pos := "more.go:31", after := #[{ on := 0, ground := Ground.data }], guard := none }) (by kernel_rfl) ?_ ?_ ?_
  rotate_left
  · (go_simp; try with_reducible rfl)
  (try simp only [Act.put, List.setIfInBounds_toArray, List.set_cons_zero, List.set_cons_succ])
  refine wpList_exec_if (op := { dst := some 78, op := Op.move (Operand.tmp 77), type := 4, pos := "more.go:31", after := #[{ on := 1, ground := Ground.data }], guard := none }) (by kernel_rfl) ?_ ?_ ?_
  rotate_left
  · (go_simp; try with_reducible rfl)
  (try simp only [Act.put, List.setIfInBounds_toArray, List.set_cons_zero, List.set_cons_succ])
  refine wpList_load_if (op := { dst := some 79, op := Op.load 25 (Operand.tmp 18), type := 25, pos := "more.go:31", after := #[{ on := 2, ground := Ground.guard }], guard := some (2, false) }) (by kernel_rfl) 25 _ rfl g12 0 rfl VA _ hr0 Try.underlying25 rfl HI_VA.out ?_
  (try simp only [Act.put, List.setIfInBounds_toArray, List.set_cons_zero, List.set_cons_succ])
  refine wpList_load_if (op := { dst := some 80, op := Op.load 25 (Operand.tmp 16), type := 25, pos := "more.go:31", after := #[{ on := 2, ground := Ground.guard }], guard := some (2, false) }) (by kernel_rfl) 25 _ rfl g10 0 rfl VA _ hr1 Try.underlying25 rfl HI_VA.out ?_
  (try simp only [Act.put, List.setIfInBounds_toArray, List.set_cons_zero, List.set_cons_succ])
  clear hr0 hr1
  go_upto_region 18 with (fail)
  clear hnv
  have hr0 := HK15.out.tl.tl.tl.tl.tl.tl.hd.range
  go_wp2_with (((with_reducible (change wpList _ _ _ _ _ _)); ((refine wpList_load_mid rfl 35 _ rfl (w.heap.size) 0 rfl (VP) _ hr0 Try.underlying35 rfl HI_VP.out ?_))))
  clear hr0
  refine (HWa.out _).mono ?_
  rintro e w16 ⟨rfl, bb⟩
  have HK16 := Lib.hid (HK15.out.below bb (Nat.le_refl _))
  clear bb HK15
  have heq := HEV_VA.out
  go_upto_region 22 with (fail)
  have hr0 := HK16.out.tl.tl.tl.hd.range
  have hr1 := HK16.out.tl.tl.hd.range
  go_wp2_with (((with_reducible (change wpList _ _ _ _ _ _)); (first | (refine wpList_load_mid rfl 25 _ rfl (g7) 0 rfl (VA) _ hr0 Try.underlying25 rfl HI_VA.out ?_) | (refine wpList_load_mid rfl 25 _ rfl (g10) 0 rfl (VA) _ hr1 Try.underlying25 rfl HI_VA.out ?_))))
  go_ret
  exact ⟨rfl, HK16.out.2.1⟩
theorem head64Blind_any (p : Pk6) (v : Value) (F T : List Int) (x y flow : Int) (w : World) (hx : Exs w v p.exts) (hq : Rch p) (hF : F.length = 4) (hT : T.length = 4) (ix : (Lit.int .u16 x).wf = true) (iy : (Lit.int .u16 y).wf = true) :
    Calls Try.prog 7 #[.agg (p.vals v).toArray, .agg (F.map (Value.int .u8)).toArray, .agg (T.map (Value.int .u8)).toArray, .int .u16 x, .int .u16 y, .int .i64 flow] w (fun e w' => e = .returned (.bool true) ∧ Below w.heap.size w w') := by
  have ix : 0 ≤ x ∧ x ≤ 65535 := by simpa [Lit.wf, IntKind.min, IntKind.max, IntKind.signed, IntKind.bits] using ix
  have iy : 0 ≤ y ∧ y ≤ 65535 := by simpa [Lit.wf, IntKind.min, IntKind.max, IntKind.signed, IntKind.bits] using iy
  obtain ⟨f0, f1, f2, f3, rfl⟩ := four_of hF
  obtain ⟨t0, t1, t2, t3, rfl⟩ := four_of hT
  cases hg : p.great
  · by_cases hh : hcode64 p x = 0
    · cases hm : p.small
      · exact blind64_other p v f0 f1 f2 f3 t0 t1 t2 t3 x y flow w hx hq hg ix iy hh hm
      · exact blind64_small p v f0 f1 f2 f3 t0 t1 t2 t3 x y flow w hx hq hg ix iy hh hm
    · exact blind64_bad p v f0 f1 f2 f3 t0 t1 t2 t3 x y flow w hx hq hg ix iy hh
  · exact blind64_great p v f0 f1 f2 f3 t0 t1 t2 t3 x y flow w hx hq hg
end Go.Proofs.Ytkihhmnlefekoaa
