/-
  Proved here: what head64.Head answers of what is small and of what is not.
  Conditions: the slice reads as the packet's extensions.
-/
import Derived.Test.YtkihhmnlefekoaaPp
import Derived.Test.YtkihhmnlefekoaaPpc
namespace Go.Proofs.Ytkihhmnlefekoaa
open Go.RowKit

set_option maxRecDepth 100000 in
set_option maxHeartbeats 4000000 in
theorem head64_small (p : Pk6) (v : Value) (f0 f1 f2 f3 t0 t1 t2 t3 id : Int) (w : World) (n0 : ¬ (p.hop < 2)) (n1 : ¬ (255 < p.hop)) (n2 : ¬ (p.cls < 0)) (n3 : ¬ (255 < p.cls)) (n4 : ¬ (id < 0)) (n5 : ¬ (65535 < id)) (hx : Exs w v p.exts) (hl : p.exts.length ≤ 1099511627776) (hr : rtd p.exts = false) (hp : prOk64 p.proto = true) (hd : p.data.size ≤ 70000) (hz : p.pl ≤ 65515 - (p.data.size : Int)) (hf : p.frag = false) (hs : (p.data.size : Int) ≤ 1240) :
    Calls Try.prog 9 #[.agg (p.vals v).toArray, .agg ([.int .u8 f0, .int .u8 f1, .int .u8 f2, .int .u8 f3] : List Value).toArray, .agg ([.int .u8 t0, .int .u8 t1, .int .u8 t2, .int .u8 t3] : List Value).toArray, .int .i64 id] w (fun e w' => e = .returned (.tuple #[.agg (((⟨p.cls, id, p.hop - 1, pr64 p.proto, 0, false, false, f0, f1, f2, f3, t0, t1, t2, t3, ⟨#[]⟩, p.data⟩ : P4.Pkt).vals)).toArray, .nilIface]) ∧ Below w.heap.size w w') := by
  have HWc : Hid (∀ W, Calls Try.prog 24 #[.int .i64 p.cls, .int .i64 255] W fun e w' => e = .returned (.bool true) ∧ W = w') := Lib.hid (fun W => within64_in _ _ W n2 n3)
  have HWi : Hid (∀ W, Calls Try.prog 24 #[.int .i64 id, .int .i64 65535] W fun e w' => e = .returned (.bool true) ∧ W = w') := Lib.hid (fun W => within64_in _ _ W n4 n5)
  clear n2 n3 n4 n5
  have HR : Hid (∀ W, Below w.heap.size w W → Calls Try.prog 26 #[v] W fun e w' => e = .returned (.bool false) ∧ Below W.heap.size W w') := Lib.hid (fun W hW => by rw [← hr]; exact routed_any v p.exts W (hx.below hW (Nat.le_refl _)) hl)
  clear hr hx hl
  have HWn : Hid (∀ W, Calls Try.prog 12 #[.agg (p.vals v).toArray] W fun e w' => e = .returned (.bool true) ∧ Below W.heap.size W w') := Lib.hid (fun W => wants_small p v W hf hs)
  clear hs
  have HF := Lib.hid hf
  clear hf
  have HFi : Hid (∀ W, Calls Try.prog 27 #[.agg (p.vals v).toArray] W fun e w' => e = .returned (.bool true) ∧ Below W.heap.size W w') := Lib.hid (fun W => fits_yes p v W hd hz)
  clear hd hz
  have HP : Hid (∀ W, Calls Try.prog 16 #[.int .i64 p.proto] W fun e w' => e = .returned (.tuple #[.int .i64 (pr64 p.proto), .bool true]) ∧ W = w') := Lib.hid (fun W => by rw [← hp]; exact proto64_any p.proto W)
  clear hp
  generalize pr64 p.proto = pr at *
  have HB : Hid (∀ W, (Instr.build 25 #[(0, .int .i64 p.cls), (2, .int .i64 (p.hop - 1)), (7, .agg (([.int .u8 f0, .int .u8 f1, .int .u8 f2, .int .u8 f3] : List Value)).toArray), (8, .agg (([.int .u8 t0, .int .u8 t1, .int .u8 t2, .int .u8 t3] : List Value)).toArray), (3, .int .i64 pr), (10, .string p.data)]).run Try.prog W = .ok (.agg (((⟨p.cls, 0, p.hop - 1, pr, 0, false, false, f0, f1, f2, f3, t0, t1, t2, t3, ⟨#[]⟩, p.data⟩ : P4.Pkt).vals)).toArray) W) := Lib.hid (fun W => build4H p.cls (p.hop - 1) pr p.data f0 f1 f2 f3 t0 t1 t2 t3 W)
  have HI_V0 : Hid ((Try.prog.info? 25).map (·.size) = some (((⟨p.cls, 0, p.hop - 1, pr, 0, false, false, f0, f1, f2, f3, t0, t1, t2, t3, ⟨#[]⟩, p.data⟩ : P4.Pkt).vals)).length) := Lib.hid (P4.Try.infoIp _)
  have HO_V0 : Hid ((((⟨p.cls, 0, p.hop - 1, pr, 0, false, false, f0, f1, f2, f3, t0, t1, t2, t3, ⟨#[]⟩, p.data⟩ : P4.Pkt).vals)).toArray.all (·.oneCell') = true) := Lib.hid (P4.vals_one _)
  have HL_V0 : Hid ((((⟨p.cls, 0, p.hop - 1, pr, 0, false, false, f0, f1, f2, f3, t0, t1, t2, t3, ⟨#[]⟩, p.data⟩ : P4.Pkt).vals)).length = 17) := Lib.hid rfl
  have HI_V1 : Hid ((Try.prog.info? 25).map (·.size) = some (((⟨p.cls, id, p.hop - 1, pr, 0, false, false, f0, f1, f2, f3, t0, t1, t2, t3, ⟨#[]⟩, p.data⟩ : P4.Pkt).vals)).length) := Lib.hid (P4.Try.infoIp _)
  have HO_V1 : Hid ((((⟨p.cls, id, p.hop - 1, pr, 0, false, false, f0, f1, f2, f3, t0, t1, t2, t3, ⟨#[]⟩, p.data⟩ : P4.Pkt).vals)).toArray.all (·.oneCell') = true) := Lib.hid (P4.vals_one _)
  have HL_V1 : Hid ((((⟨p.cls, id, p.hop - 1, pr, 0, false, false, f0, f1, f2, f3, t0, t1, t2, t3, ⟨#[]⟩, p.data⟩ : P4.Pkt).vals)).length = 17) := Lib.hid rfl
  have HE1 : Hid (((⟨p.cls, 0, p.hop - 1, pr, 0, false, false, f0, f1, f2, f3, t0, t1, t2, t3, ⟨#[]⟩, p.data⟩ : P4.Pkt).vals).set 1 (.int .i64 id) = ((⟨p.cls, id, p.hop - 1, pr, 0, false, false, f0, f1, f2, f3, t0, t1, t2, t3, ⟨#[]⟩, p.data⟩ : P4.Pkt).vals)) := Lib.hid rfl
  generalize ((⟨p.cls, 0, p.hop - 1, pr, 0, false, false, f0, f1, f2, f3, t0, t1, t2, t3, ⟨#[]⟩, p.data⟩ : P4.Pkt).vals) = V0 at *
  generalize ((⟨p.cls, id, p.hop - 1, pr, 0, false, false, f0, f1, f2, f3, t0, t1, t2, t3, ⟨#[]⟩, p.data⟩ : P4.Pkt).vals) = V1 at *
  obtain ⟨Z, hZ⟩ : ∃ Z, Z = P4.pkt0.vals := ⟨_, rfl⟩
  have HBZ : Hid (∀ W, (Instr.build 25 #[]).run Try.prog W = .ok (.agg Z.toArray) W) := Lib.hid (fun W => by rw [hZ]; exact build4Z W)
  have HI_Z : Hid ((Try.prog.info? 25).map (·.size) = some Z.length) := Lib.hid (by rw [hZ]; exact P4.Try.infoIp _)
  have HO_Z : Hid (Z.toArray.all (·.oneCell') = true) := Lib.hid (by rw [hZ]; exact P4.vals_one _)
  have HL_Z : Hid (Z.length = 17) := Lib.hid (by rw [hZ]; rfl)
  have hz0 : Z.toArray = #[.int .i64 0, .int .i64 0, .int .i64 0, .int .i64 0, .int .i64 0, .bool false, .bool false, .int .u8 0, .int .u8 0, .int .u8 0, .int .u8 0, .int .u8 0, .int .u8 0, .int .u8 0, .int .u8 0, .string ⟨#[]⟩, .string ⟨#[]⟩] := by rw [hZ]; rfl
  have HZ := Lib.hid hZ
  clear hZ
  have HI_VP : Hid ((Try.prog.info? 35).map (·.size) = some (p.vals v).length) := Lib.hid (Try.info6 _ _)
  have HC_VP_0 : Hid ((p.vals v)[0]? = some (.int .i64 p.cls)) := Lib.hid (rfl)
  have HC_VP_2 : Hid ((p.vals v)[2]? = some (.int .i64 p.hop)) := Lib.hid (rfl)
  have HC_VP_35 : Hid ((p.vals v)[35]? = some (v)) := Lib.hid (vals_tail p v 0)
  have HC_VP_36 : Hid ((p.vals v)[36]? = some (.bool p.frag)) := Lib.hid (vals_tail p v 1)
  have HC_VP_37 : Hid ((p.vals v)[37]? = some (.int .u32 p.id)) := Lib.hid (vals_tail p v 2)
  have HC_VP_38 : Hid ((p.vals v)[38]? = some (.int .i64 p.pl)) := Lib.hid (vals_tail p v 3)
  have HC_VP_39 : Hid ((p.vals v)[39]? = some (.bool p.more)) := Lib.hid (vals_tail p v 4)
  have HC_VP_40 : Hid ((p.vals v)[40]? = some (.int .i64 p.proto)) := Lib.hid (vals_tail p v 5)
  have HC_VP_41 : Hid ((p.vals v)[41]? = some (.string p.data)) := Lib.hid (vals_tail p v 6)
  have HI_VF : Hid ((Try.prog.info? 23).map (·.size) = some (([.int .u8 f0, .int .u8 f1, .int .u8 f2, .int .u8 f3] : List Value)).length) := Lib.hid (Try.infoV4c _ _ _ _)
  have HO_VF : Hid ((([.int .u8 f0, .int .u8 f1, .int .u8 f2, .int .u8 f3] : List Value)).toArray.all (·.oneCell') = true) := Lib.hid (by simp [Value.oneCell'])
  have HL_VF : Hid ((([.int .u8 f0, .int .u8 f1, .int .u8 f2, .int .u8 f3] : List Value)).length = 4) := Lib.hid rfl
  have HI_VT : Hid ((Try.prog.info? 23).map (·.size) = some (([.int .u8 t0, .int .u8 t1, .int .u8 t2, .int .u8 t3] : List Value)).length) := Lib.hid (Try.infoV4c _ _ _ _)
  have HO_VT : Hid ((([.int .u8 t0, .int .u8 t1, .int .u8 t2, .int .u8 t3] : List Value)).toArray.all (·.oneCell') = true) := Lib.hid (by simp [Value.oneCell'])
  have HL_VT : Hid ((([.int .u8 t0, .int .u8 t1, .int .u8 t2, .int .u8 t3] : List Value)).length = 4) := Lib.hid rfl
  have HK1 : Hid (Kp w w.heap.size [(w.heap.size + 1 + 1 + 1, 25, Z), (w.heap.size + 1 + 1, 23, ([.int .u8 t0, .int .u8 t1, .int .u8 t2, .int .u8 t3] : List Value)), (w.heap.size + 1, 23, ([.int .u8 f0, .int .u8 f1, .int .u8 f2, .int .u8 f3] : List Value)), (w.heap.size, 35, p.vals v)] ((((w.alloc (.cells (p.vals v).toArray 35)).alloc (.cells ([.int .u8 f0, .int .u8 f1, .int .u8 f2, .int .u8 f3] : List Value).toArray 23)).alloc (.cells ([.int .u8 t0, .int .u8 t1, .int .u8 t2, .int .u8 t3] : List Value).toArray 23)).alloc (.cells Z.toArray 25))) := Lib.hid (by
    have h := (((Kp.start w).new 35 (p.vals v)).new 23 ([.int .u8 f0, .int .u8 f1, .int .u8 f2, .int .u8 f3] : List Value)).new 23 ([.int .u8 t0, .int .u8 t1, .int .u8 t2, .int .u8 t3] : List Value)
    have e1 : (w.alloc (.cells (p.vals v).toArray 35)).heap.size = w.heap.size + 1 := by simp
    have e2 : ((w.alloc (.cells (p.vals v).toArray 35)).alloc (.cells ([.int .u8 f0, .int .u8 f1, .int .u8 f2, .int .u8 f3] : List Value).toArray 23)).heap.size = w.heap.size + 1 + 1 := by simp
    have e3 : (((w.alloc (.cells (p.vals v).toArray 35)).alloc (.cells ([.int .u8 f0, .int .u8 f1, .int .u8 f2, .int .u8 f3] : List Value).toArray 23)).alloc (.cells ([.int .u8 t0, .int .u8 t1, .int .u8 t2, .int .u8 t3] : List Value).toArray 23)).heap.size = w.heap.size + 1 + 1 + 1 := by simp
    rw [e1, e2] at h
    have h2 := h.new 25 Z
    rwa [e3] at h2)

  generalize p.vals v = VP at *
  generalize ([.int .u8 f0, .int .u8 f1, .int .u8 f2, .int .u8 f3] : List Value) = VF at *
  generalize ([.int .u8 t0, .int .u8 t1, .int .u8 t2, .int .u8 t3] : List Value) = VT at *
  generalize hw1 : (((w.alloc (.cells VP.toArray 35)).alloc (.cells VF.toArray 23)).alloc (.cells VT.toArray 23)).alloc (.cells Z.toArray 25) = w1 at *
  rw [hz0] at hw1
  go_enter Try.func9, Try.ntmps9
  go_upto_region 1 with (fail)
  clear hw1 hz0
  have c2 : w1.cell? ⟨w.heap.size, 2, none⟩ = some (.int .i64 p.hop) := HK1.out.tl.tl.tl.hd.at HC_VP_2.out
  have c0 : w1.cell? ⟨w.heap.size, 0, none⟩ = some (.int .i64 p.cls) := HK1.out.tl.tl.tl.hd.at HC_VP_0.out
  go_wp2_with (fail)
  refine (HWc.out _).mono ?_
  rintro e w9 ⟨rfl, rfl⟩
  go_wp2_with (fail)
  refine (HWi.out _).mono ?_
  rintro e w9 ⟨rfl, rfl⟩
  go_upto_region 3 with (fail)
  have c40 : w1.cell? ⟨w.heap.size, 40, none⟩ = some (.int .i64 p.proto) := HK1.out.tl.tl.tl.hd.at HC_VP_40.out
  go_wp2_with (fail)
  refine (HP.out _).mono ?_
  rintro e w9 ⟨rfl, rfl⟩
  have c35 : w1.cell? ⟨w.heap.size, 35, none⟩ = some (v) := HK1.out.tl.tl.tl.hd.at HC_VP_35.out
  go_wp2_with (fail)
  clear c2 c0 c40 c35
  refine (HR.out _ HK1.out.2.1).mono ?_
  rintro e w2 ⟨rfl, bb⟩
  have HK2 := Lib.hid (HK1.out.below bb (Nat.le_refl _))
  clear bb HK1
  go_upto_region 6 with (fail)
  have hr0 := HK2.out.tl.tl.tl.hd.range
  go_wp2_with (((with_reducible (change wpList _ _ _ _ _ _)); ((refine wpList_load_mid rfl 35 _ rfl (w.heap.size) 0 rfl (VP) _ hr0 Try.underlying35 rfl HI_VP.out ?_))))
  clear hr0
  refine (HFi.out _).mono ?_
  rintro e w3 ⟨rfl, bb⟩
  have HK3 := Lib.hid (HK2.out.below bb (Nat.le_refl _))
  clear bb HK2
  go_upto_region 8 with (fail)
  have c0 : w3.cell? ⟨w.heap.size, 0, none⟩ = some (.int .i64 p.cls) := HK3.out.tl.tl.tl.hd.at HC_VP_0.out
  have c2 : w3.cell? ⟨w.heap.size, 2, none⟩ = some (.int .i64 p.hop) := HK3.out.tl.tl.tl.hd.at HC_VP_2.out
  have c41 : w3.cell? ⟨w.heap.size, 41, none⟩ = some (.string p.data) := HK3.out.tl.tl.tl.hd.at HC_VP_41.out
  have hr0 := HK3.out.tl.hd.range
  have hr1 := HK3.out.tl.tl.hd.range
  have kw : IntKind.i64.wrap (p.hop - 1) = p.hop - 1 := IntWalk.i64_in _ (by omega)
  have HG3 : Hid (w.heap.size + 1 + 1 + 1 < w3.heap.size) := Lib.hid HK3.out.hd.lt
  have ht := (bk_new w3 25 ([.int .i64 0, .int .i64 0, .int .i64 0, .int .i64 0, .int .i64 0, .bool false, .bool false, .int .u8 0, .int .u8 0, .int .u8 0, .int .u8 0, .int .u8 0, .int .u8 0, .int .u8 0, .int .u8 0, .string ⟨#[]⟩, .string ⟨#[]⟩] : List Value).toArray).there V0.toArray.size (by have := HL_V0.out; simp; omega)
  go_upto_region 10 with (((with_reducible (change wpList _ _ _ _ _ _)); (first | (refine wpList_load_mid rfl 23 _ rfl (w.heap.size + 1 + 1) 0 rfl (VT) _ hr0 Try.underlying23 rfl HI_VT.out ?_) | (refine wpList_load_mid rfl 23 _ rfl (w.heap.size + 1) 0 rfl (VF) _ hr1 Try.underlying23 rfl HI_VF.out ?_) | (refine Great.wpList_readTo rfl _ rfl (.agg V0.toArray) (run_execN rfl (by rw [List.map_toArray]; rfl) (HB.out _)) ?_) | (refine wpList_store_mid rfl 25 _ _ rfl (w3.heap.size) 0 V0.toArray rfl rfl ht (by simpa using HI_V0.out) HO_V0.out ?_))))
  have HK4 := Lib.hid (HK3.out.put 25 ([.int .i64 0, .int .i64 0, .int .i64 0, .int .i64 0, .int .i64 0, .bool false, .bool false, .int .u8 0, .int .u8 0, .int .u8 0, .int .u8 0, .int .u8 0, .int .u8 0, .int .u8 0, .int .u8 0, .string ⟨#[]⟩, .string ⟨#[]⟩] : List Value).toArray V0 (by have := HL_V0.out; simp; omega))
  clear ht HK3
  generalize (w3.alloc (.cells ([.int .i64 0, .int .i64 0, .int .i64 0, .int .i64 0, .int .i64 0, .bool false, .bool false, .int .u8 0, .int .u8 0, .int .u8 0, .int .u8 0, .int .u8 0, .int .u8 0, .int .u8 0, .int .u8 0, .string ⟨#[]⟩, .string ⟨#[]⟩] : List Value).toArray 25)).setCells w3.heap.size 0 V0 = w4 at *
  generalize w3.heap.size = g3 at *
  clear kw hr0 hr1 c0 c2 c41
  have hne : ∀ x ∈ ([(w.heap.size + 1 + 1 + 1, 25, Z), (w.heap.size + 1 + 1, 23, VT), (w.heap.size + 1, 23, VF), (w.heap.size, 35, VP)] : List (Nat × TypeId × List Value)), x.1 ≠ g3 := by
    have hg := HG3.out
    intro x hx
    simp only [List.mem_cons, List.not_mem_nil, or_false] at hx
    rcases hx with rfl | rfl | rfl | rfl <;> (show _ ≠ g3; omega)
  have hgB : w.heap.size ≤ g3 := by have := HG3.out; omega
  have HNE := Lib.hid (And.intro hne hgB)
  clear hne hgB
  have c36 : w4.cell? ⟨w.heap.size, 36, none⟩ = some (.bool false) := HK4.out.tl.tl.tl.tl.hd.at (by rw [HC_VP_36.out, HF.out])
  go_upto_region 12 with (fail)
  clear c36
  have hr0 := HK4.out.tl.tl.tl.tl.hd.range
  go_wp2_with (((with_reducible (change wpList _ _ _ _ _ _)); ((refine wpList_load_mid rfl 35 _ rfl (w.heap.size) 0 rfl (VP) _ hr0 Try.underlying35 rfl HI_VP.out ?_))))
  clear hr0
  refine (HWn.out _).mono ?_
  rintro e w5 ⟨rfl, bb⟩
  have HK5 := Lib.hid (HK4.out.below bb (Nat.le_refl _))
  clear bb HK4
  go_upto_region 13 with (fail)
  obtain ⟨uu, hu, hz⟩ := HK5.out.some1 1 (by have := HL_V0.out; omega)
  go_upto_region 14 with (fail)
  have hk := HK5.out.set1 HNE.out.1 HNE.out.2 1 (.int .i64 id)
  rw [HE1.out] at hk
  have HK6 := Lib.hid hk
  clear hk hu hz HK5
  generalize w5.setCell ⟨g3, 1, none⟩ (.int .i64 id) = w6 at *
  have hr0 := HK6.out.hd.range
  have hkc := HK6.out.tl.hd
  have htf : w6.there (w.heap.size + 1 + 1 + 1) 0 V1.toArray.size := hkc.there _ (by have := HL_V1.out; have := HL_Z.out; simp; omega)
  go_wp2_with (((with_reducible (change wpList _ _ _ _ _ _)); (first | (refine wpList_load_mid rfl 25 _ rfl (g3) 0 rfl (V1) _ hr0 Try.underlying25 rfl HI_V1.out ?_) | (refine wpList_store_mid rfl 25 _ _ rfl (w.heap.size + 1 + 1 + 1) 0 V1.toArray rfl rfl htf (by simpa using HI_V1.out) HO_V1.out ?_))))
  have hk5 := Bk.sets V1 0 _ _ hkc
  rw [puts_whole Z.toArray V1 (by have := HL_V1.out; have := HL_Z.out; simp; omega)] at hk5
  refine bodyPost_ret (v := .tuple #[.agg V1.toArray, .nilIface]) ?_ rfl ?_
  · exact results_cell2 rfl rfl rfl (run_loadVar_mid _ (w.heap.size + 1 + 1 + 1) 0 25 V1 _ hk5.range Try.underlying25 rfl HI_V1.out)
  · exact ⟨rfl, below_sets _ (by omega) 0 _ HK6.out.2.1⟩
set_option maxRecDepth 100000 in
set_option maxHeartbeats 4000000 in
theorem head64_big (p : Pk6) (v : Value) (f0 f1 f2 f3 t0 t1 t2 t3 id : Int) (w : World) (n0 : ¬ (p.hop < 2)) (n1 : ¬ (255 < p.hop)) (n2 : ¬ (p.cls < 0)) (n3 : ¬ (255 < p.cls)) (n4 : ¬ (id < 0)) (n5 : ¬ (65535 < id)) (hx : Exs w v p.exts) (hl : p.exts.length ≤ 1099511627776) (hr : rtd p.exts = false) (hp : prOk64 p.proto = true) (hd : p.data.size ≤ 70000) (hz : p.pl ≤ 65515 - (p.data.size : Int)) (hf : p.frag = false) (hs : ¬ (p.data.size : Int) ≤ 1240) :
    Calls Try.prog 9 #[.agg (p.vals v).toArray, .agg ([.int .u8 f0, .int .u8 f1, .int .u8 f2, .int .u8 f3] : List Value).toArray, .agg ([.int .u8 t0, .int .u8 t1, .int .u8 t2, .int .u8 t3] : List Value).toArray, .int .i64 id] w (fun e w' => e = .returned (.tuple #[.agg (((⟨p.cls, 0, p.hop - 1, pr64 p.proto, 0, true, false, f0, f1, f2, f3, t0, t1, t2, t3, ⟨#[]⟩, p.data⟩ : P4.Pkt).vals)).toArray, .nilIface]) ∧ Below w.heap.size w w') := by
  have HWc : Hid (∀ W, Calls Try.prog 24 #[.int .i64 p.cls, .int .i64 255] W fun e w' => e = .returned (.bool true) ∧ W = w') := Lib.hid (fun W => within64_in _ _ W n2 n3)
  have HWi : Hid (∀ W, Calls Try.prog 24 #[.int .i64 id, .int .i64 65535] W fun e w' => e = .returned (.bool true) ∧ W = w') := Lib.hid (fun W => within64_in _ _ W n4 n5)
  clear n2 n3 n4 n5
  have HR : Hid (∀ W, Below w.heap.size w W → Calls Try.prog 26 #[v] W fun e w' => e = .returned (.bool false) ∧ Below W.heap.size W w') := Lib.hid (fun W hW => by rw [← hr]; exact routed_any v p.exts W (hx.below hW (Nat.le_refl _)) hl)
  clear hr hx hl
  have HWn : Hid (∀ W, Calls Try.prog 12 #[.agg (p.vals v).toArray] W fun e w' => e = .returned (.bool false) ∧ Below W.heap.size W w') := Lib.hid (fun W => wants_big p v W hf hs)
  clear hs
  have HF := Lib.hid hf
  clear hf
  have HFi : Hid (∀ W, Calls Try.prog 27 #[.agg (p.vals v).toArray] W fun e w' => e = .returned (.bool true) ∧ Below W.heap.size W w') := Lib.hid (fun W => fits_yes p v W hd hz)
  clear hd hz
  have HP : Hid (∀ W, Calls Try.prog 16 #[.int .i64 p.proto] W fun e w' => e = .returned (.tuple #[.int .i64 (pr64 p.proto), .bool true]) ∧ W = w') := Lib.hid (fun W => by rw [← hp]; exact proto64_any p.proto W)
  clear hp
  generalize pr64 p.proto = pr at *
  have HB : Hid (∀ W, (Instr.build 25 #[(0, .int .i64 p.cls), (2, .int .i64 (p.hop - 1)), (7, .agg (([.int .u8 f0, .int .u8 f1, .int .u8 f2, .int .u8 f3] : List Value)).toArray), (8, .agg (([.int .u8 t0, .int .u8 t1, .int .u8 t2, .int .u8 t3] : List Value)).toArray), (3, .int .i64 pr), (10, .string p.data)]).run Try.prog W = .ok (.agg (((⟨p.cls, 0, p.hop - 1, pr, 0, false, false, f0, f1, f2, f3, t0, t1, t2, t3, ⟨#[]⟩, p.data⟩ : P4.Pkt).vals)).toArray) W) := Lib.hid (fun W => build4H p.cls (p.hop - 1) pr p.data f0 f1 f2 f3 t0 t1 t2 t3 W)
  have HI_V0 : Hid ((Try.prog.info? 25).map (·.size) = some (((⟨p.cls, 0, p.hop - 1, pr, 0, false, false, f0, f1, f2, f3, t0, t1, t2, t3, ⟨#[]⟩, p.data⟩ : P4.Pkt).vals)).length) := Lib.hid (P4.Try.infoIp _)
  have HO_V0 : Hid ((((⟨p.cls, 0, p.hop - 1, pr, 0, false, false, f0, f1, f2, f3, t0, t1, t2, t3, ⟨#[]⟩, p.data⟩ : P4.Pkt).vals)).toArray.all (·.oneCell') = true) := Lib.hid (P4.vals_one _)
  have HL_V0 : Hid ((((⟨p.cls, 0, p.hop - 1, pr, 0, false, false, f0, f1, f2, f3, t0, t1, t2, t3, ⟨#[]⟩, p.data⟩ : P4.Pkt).vals)).length = 17) := Lib.hid rfl
  have HI_V1 : Hid ((Try.prog.info? 25).map (·.size) = some (((⟨p.cls, 0, p.hop - 1, pr, 0, true, false, f0, f1, f2, f3, t0, t1, t2, t3, ⟨#[]⟩, p.data⟩ : P4.Pkt).vals)).length) := Lib.hid (P4.Try.infoIp _)
  have HO_V1 : Hid ((((⟨p.cls, 0, p.hop - 1, pr, 0, true, false, f0, f1, f2, f3, t0, t1, t2, t3, ⟨#[]⟩, p.data⟩ : P4.Pkt).vals)).toArray.all (·.oneCell') = true) := Lib.hid (P4.vals_one _)
  have HL_V1 : Hid ((((⟨p.cls, 0, p.hop - 1, pr, 0, true, false, f0, f1, f2, f3, t0, t1, t2, t3, ⟨#[]⟩, p.data⟩ : P4.Pkt).vals)).length = 17) := Lib.hid rfl
  have HE1 : Hid (((⟨p.cls, 0, p.hop - 1, pr, 0, false, false, f0, f1, f2, f3, t0, t1, t2, t3, ⟨#[]⟩, p.data⟩ : P4.Pkt).vals).set 5 (.bool true) = ((⟨p.cls, 0, p.hop - 1, pr, 0, true, false, f0, f1, f2, f3, t0, t1, t2, t3, ⟨#[]⟩, p.data⟩ : P4.Pkt).vals)) := Lib.hid rfl
  generalize ((⟨p.cls, 0, p.hop - 1, pr, 0, false, false, f0, f1, f2, f3, t0, t1, t2, t3, ⟨#[]⟩, p.data⟩ : P4.Pkt).vals) = V0 at *
  generalize ((⟨p.cls, 0, p.hop - 1, pr, 0, true, false, f0, f1, f2, f3, t0, t1, t2, t3, ⟨#[]⟩, p.data⟩ : P4.Pkt).vals) = V1 at *
  obtain ⟨Z, hZ⟩ : ∃ Z, Z = P4.pkt0.vals := ⟨_, rfl⟩
  have HBZ : Hid (∀ W, (Instr.build 25 #[]).run Try.prog W = .ok (.agg Z.toArray) W) := Lib.hid (fun W => by rw [hZ]; exact build4Z W)
  have HI_Z : Hid ((Try.prog.info? 25).map (·.size) = some Z.length) := Lib.hid (by rw [hZ]; exact P4.Try.infoIp _)
  have HO_Z : Hid (Z.toArray.all (·.oneCell') = true) := Lib.hid (by rw [hZ]; exact P4.vals_one _)
  have HL_Z : Hid (Z.length = 17) := Lib.hid (by rw [hZ]; rfl)
  have hz0 : Z.toArray = #[.int .i64 0, .int .i64 0, .int .i64 0, .int .i64 0, .int .i64 0, .bool false, .bool false, .int .u8 0, .int .u8 0, .int .u8 0, .int .u8 0, .int .u8 0, .int .u8 0, .int .u8 0, .int .u8 0, .string ⟨#[]⟩, .string ⟨#[]⟩] := by rw [hZ]; rfl
  have HZ := Lib.hid hZ
  clear hZ
  have HI_VP : Hid ((Try.prog.info? 35).map (·.size) = some (p.vals v).length) := Lib.hid (Try.info6 _ _)
  have HC_VP_0 : Hid ((p.vals v)[0]? = some (.int .i64 p.cls)) := Lib.hid (rfl)
  have HC_VP_2 : Hid ((p.vals v)[2]? = some (.int .i64 p.hop)) := Lib.hid (rfl)
  have HC_VP_35 : Hid ((p.vals v)[35]? = some (v)) := Lib.hid (vals_tail p v 0)
  have HC_VP_36 : Hid ((p.vals v)[36]? = some (.bool p.frag)) := Lib.hid (vals_tail p v 1)
  have HC_VP_37 : Hid ((p.vals v)[37]? = some (.int .u32 p.id)) := Lib.hid (vals_tail p v 2)
  have HC_VP_38 : Hid ((p.vals v)[38]? = some (.int .i64 p.pl)) := Lib.hid (vals_tail p v 3)
  have HC_VP_39 : Hid ((p.vals v)[39]? = some (.bool p.more)) := Lib.hid (vals_tail p v 4)
  have HC_VP_40 : Hid ((p.vals v)[40]? = some (.int .i64 p.proto)) := Lib.hid (vals_tail p v 5)
  have HC_VP_41 : Hid ((p.vals v)[41]? = some (.string p.data)) := Lib.hid (vals_tail p v 6)
  have HI_VF : Hid ((Try.prog.info? 23).map (·.size) = some (([.int .u8 f0, .int .u8 f1, .int .u8 f2, .int .u8 f3] : List Value)).length) := Lib.hid (Try.infoV4c _ _ _ _)
  have HO_VF : Hid ((([.int .u8 f0, .int .u8 f1, .int .u8 f2, .int .u8 f3] : List Value)).toArray.all (·.oneCell') = true) := Lib.hid (by simp [Value.oneCell'])
  have HL_VF : Hid ((([.int .u8 f0, .int .u8 f1, .int .u8 f2, .int .u8 f3] : List Value)).length = 4) := Lib.hid rfl
  have HI_VT : Hid ((Try.prog.info? 23).map (·.size) = some (([.int .u8 t0, .int .u8 t1, .int .u8 t2, .int .u8 t3] : List Value)).length) := Lib.hid (Try.infoV4c _ _ _ _)
  have HO_VT : Hid ((([.int .u8 t0, .int .u8 t1, .int .u8 t2, .int .u8 t3] : List Value)).toArray.all (·.oneCell') = true) := Lib.hid (by simp [Value.oneCell'])
  have HL_VT : Hid ((([.int .u8 t0, .int .u8 t1, .int .u8 t2, .int .u8 t3] : List Value)).length = 4) := Lib.hid rfl
  have HK1 : Hid (Kp w w.heap.size [(w.heap.size + 1 + 1 + 1, 25, Z), (w.heap.size + 1 + 1, 23, ([.int .u8 t0, .int .u8 t1, .int .u8 t2, .int .u8 t3] : List Value)), (w.heap.size + 1, 23, ([.int .u8 f0, .int .u8 f1, .int .u8 f2, .int .u8 f3] : List Value)), (w.heap.size, 35, p.vals v)] ((((w.alloc (.cells (p.vals v).toArray 35)).alloc (.cells ([.int .u8 f0, .int .u8 f1, .int .u8 f2, .int .u8 f3] : List Value).toArray 23)).alloc (.cells ([.int .u8 t0, .int .u8 t1, .int .u8 t2, .int .u8 t3] : List Value).toArray 23)).alloc (.cells Z.toArray 25))) := Lib.hid (by
    have h := (((Kp.start w).new 35 (p.vals v)).new 23 ([.int .u8 f0, .int .u8 f1, .int .u8 f2, .int .u8 f3] : List Value)).new 23 ([.int .u8 t0, .int .u8 t1, .int .u8 t2, .int .u8 t3] : List Value)
    have e1 : (w.alloc (.cells (p.vals v).toArray 35)).heap.size = w.heap.size + 1 := by simp
    have e2 : ((w.alloc (.cells (p.vals v).toArray 35)).alloc (.cells ([.int .u8 f0, .int .u8 f1, .int .u8 f2, .int .u8 f3] : List Value).toArray 23)).heap.size = w.heap.size + 1 + 1 := by simp
    have e3 : (((w.alloc (.cells (p.vals v).toArray 35)).alloc (.cells ([.int .u8 f0, .int .u8 f1, .int .u8 f2, .int .u8 f3] : List Value).toArray 23)).alloc (.cells ([.int .u8 t0, .int .u8 t1, .int .u8 t2, .int .u8 t3] : List Value).toArray 23)).heap.size = w.heap.size + 1 + 1 + 1 := by simp
    rw [e1, e2] at h
    have h2 := h.new 25 Z
    rwa [e3] at h2)

  generalize p.vals v = VP at *
  generalize ([.int .u8 f0, .int .u8 f1, .int .u8 f2, .int .u8 f3] : List Value) = VF at *
  generalize ([.int .u8 t0, .int .u8 t1, .int .u8 t2, .int .u8 t3] : List Value) = VT at *
  generalize hw1 : (((w.alloc (.cells VP.toArray 35)).alloc (.cells VF.toArray 23)).alloc (.cells VT.toArray 23)).alloc (.cells Z.toArray 25) = w1 at *
  rw [hz0] at hw1
  go_enter Try.func9, Try.ntmps9
  go_upto_region 1 with (fail)
  clear hw1 hz0
  have c2 : w1.cell? ⟨w.heap.size, 2, none⟩ = some (.int .i64 p.hop) := HK1.out.tl.tl.tl.hd.at HC_VP_2.out
  have c0 : w1.cell? ⟨w.heap.size, 0, none⟩ = some (.int .i64 p.cls) := HK1.out.tl.tl.tl.hd.at HC_VP_0.out
  go_wp2_with (fail)
  refine (HWc.out _).mono ?_
  rintro e w9 ⟨rfl, rfl⟩
  go_wp2_with (fail)
  refine (HWi.out _).mono ?_
  rintro e w9 ⟨rfl, rfl⟩
  go_upto_region 3 with (fail)
  have c40 : w1.cell? ⟨w.heap.size, 40, none⟩ = some (.int .i64 p.proto) := HK1.out.tl.tl.tl.hd.at HC_VP_40.out
  go_wp2_with (fail)
  refine (HP.out _).mono ?_
  rintro e w9 ⟨rfl, rfl⟩
  have c35 : w1.cell? ⟨w.heap.size, 35, none⟩ = some (v) := HK1.out.tl.tl.tl.hd.at HC_VP_35.out
  go_wp2_with (fail)
  clear c2 c0 c40 c35
  refine (HR.out _ HK1.out.2.1).mono ?_
  rintro e w2 ⟨rfl, bb⟩
  have HK2 := Lib.hid (HK1.out.below bb (Nat.le_refl _))
  clear bb HK1
  go_upto_region 6 with (fail)
  have hr0 := HK2.out.tl.tl.tl.hd.range
  go_wp2_with (((with_reducible (change wpList _ _ _ _ _ _)); ((refine wpList_load_mid rfl 35 _ rfl (w.heap.size) 0 rfl (VP) _ hr0 Try.underlying35 rfl HI_VP.out ?_))))
  clear hr0
  refine (HFi.out _).mono ?_
  rintro e w3 ⟨rfl, bb⟩
  have HK3 := Lib.hid (HK2.out.below bb (Nat.le_refl _))
  clear bb HK2
  go_upto_region 8 with (fail)
  have c0 : w3.cell? ⟨w.heap.size, 0, none⟩ = some (.int .i64 p.cls) := HK3.out.tl.tl.tl.hd.at HC_VP_0.out
  have c2 : w3.cell? ⟨w.heap.size, 2, none⟩ = some (.int .i64 p.hop) := HK3.out.tl.tl.tl.hd.at HC_VP_2.out
  have c41 : w3.cell? ⟨w.heap.size, 41, none⟩ = some (.string p.data) := HK3.out.tl.tl.tl.hd.at HC_VP_41.out
  have hr0 := HK3.out.tl.hd.range
  have hr1 := HK3.out.tl.tl.hd.range
  have kw : IntKind.i64.wrap (p.hop - 1) = p.hop - 1 := IntWalk.i64_in _ (by omega)
  have HG3 : Hid (w.heap.size + 1 + 1 + 1 < w3.heap.size) := Lib.hid HK3.out.hd.lt
  have ht := (bk_new w3 25 ([.int .i64 0, .int .i64 0, .int .i64 0, .int .i64 0, .int .i64 0, .bool false, .bool false, .int .u8 0, .int .u8 0, .int .u8 0, .int .u8 0, .int .u8 0, .int .u8 0, .int .u8 0, .int .u8 0, .string ⟨#[]⟩, .string ⟨#[]⟩] : List Value).toArray).there V0.toArray.size (by have := HL_V0.out; simp; omega)
  go_upto_region 10 with (((with_reducible (change wpList _ _ _ _ _ _)); (first | (refine wpList_load_mid rfl 23 _ rfl (w.heap.size + 1 + 1) 0 rfl (VT) _ hr0 Try.underlying23 rfl HI_VT.out ?_) | (refine wpList_load_mid rfl 23 _ rfl (w.heap.size + 1) 0 rfl (VF) _ hr1 Try.underlying23 rfl HI_VF.out ?_) | (refine Great.wpList_readTo rfl _ rfl (.agg V0.toArray) (run_execN rfl (by rw [List.map_toArray]; rfl) (HB.out _)) ?_) | (refine wpList_store_mid rfl 25 _ _ rfl (w3.heap.size) 0 V0.toArray rfl rfl ht (by simpa using HI_V0.out) HO_V0.out ?_))))
  have HK4 := Lib.hid (HK3.out.put 25 ([.int .i64 0, .int .i64 0, .int .i64 0, .int .i64 0, .int .i64 0, .bool false, .bool false, .int .u8 0, .int .u8 0, .int .u8 0, .int .u8 0, .int .u8 0, .int .u8 0, .int .u8 0, .int .u8 0, .string ⟨#[]⟩, .string ⟨#[]⟩] : List Value).toArray V0 (by have := HL_V0.out; simp; omega))
  clear ht HK3
  generalize (w3.alloc (.cells ([.int .i64 0, .int .i64 0, .int .i64 0, .int .i64 0, .int .i64 0, .bool false, .bool false, .int .u8 0, .int .u8 0, .int .u8 0, .int .u8 0, .int .u8 0, .int .u8 0, .int .u8 0, .int .u8 0, .string ⟨#[]⟩, .string ⟨#[]⟩] : List Value).toArray 25)).setCells w3.heap.size 0 V0 = w4 at *
  generalize w3.heap.size = g3 at *
  clear kw hr0 hr1 c0 c2 c41
  have hne : ∀ x ∈ ([(w.heap.size + 1 + 1 + 1, 25, Z), (w.heap.size + 1 + 1, 23, VT), (w.heap.size + 1, 23, VF), (w.heap.size, 35, VP)] : List (Nat × TypeId × List Value)), x.1 ≠ g3 := by
    have hg := HG3.out
    intro x hx
    simp only [List.mem_cons, List.not_mem_nil, or_false] at hx
    rcases hx with rfl | rfl | rfl | rfl <;> (show _ ≠ g3; omega)
  have hgB : w.heap.size ≤ g3 := by have := HG3.out; omega
  have HNE := Lib.hid (And.intro hne hgB)
  clear hne hgB
  have c36 : w4.cell? ⟨w.heap.size, 36, none⟩ = some (.bool false) := HK4.out.tl.tl.tl.tl.hd.at (by rw [HC_VP_36.out, HF.out])
  go_upto_region 12 with (fail)
  clear c36
  have hr0 := HK4.out.tl.tl.tl.tl.hd.range
  go_wp2_with (((with_reducible (change wpList _ _ _ _ _ _)); ((refine wpList_load_mid rfl 35 _ rfl (w.heap.size) 0 rfl (VP) _ hr0 Try.underlying35 rfl HI_VP.out ?_))))
  clear hr0
  refine (HWn.out _).mono ?_
  rintro e w5 ⟨rfl, bb⟩
  have HK5 := Lib.hid (HK4.out.below bb (Nat.le_refl _))
  clear bb HK4
  go_upto_region 9 with (fail)
  obtain ⟨uu, hu, hz⟩ := HK5.out.some1 5 (by have := HL_V0.out; omega)
  go_upto_region 14 with (fail)
  have hk := HK5.out.set1 HNE.out.1 HNE.out.2 5 (.bool true)
  rw [HE1.out] at hk
  have HK6 := Lib.hid hk
  clear hk hu hz HK5
  generalize w5.setCell ⟨g3, 5, none⟩ (.bool true) = w6 at *
  have hr0 := HK6.out.hd.range
  have hkc := HK6.out.tl.hd
  have htf : w6.there (w.heap.size + 1 + 1 + 1) 0 V1.toArray.size := hkc.there _ (by have := HL_V1.out; have := HL_Z.out; simp; omega)
  go_wp2_with (((with_reducible (change wpList _ _ _ _ _ _)); (first | (refine wpList_load_mid rfl 25 _ rfl (g3) 0 rfl (V1) _ hr0 Try.underlying25 rfl HI_V1.out ?_) | (refine wpList_store_mid rfl 25 _ _ rfl (w.heap.size + 1 + 1 + 1) 0 V1.toArray rfl rfl htf (by simpa using HI_V1.out) HO_V1.out ?_))))
  have hk5 := Bk.sets V1 0 _ _ hkc
  rw [puts_whole Z.toArray V1 (by have := HL_V1.out; have := HL_Z.out; simp; omega)] at hk5
  refine bodyPost_ret (v := .tuple #[.agg V1.toArray, .nilIface]) ?_ rfl ?_
  · exact results_cell2 rfl rfl rfl (run_loadVar_mid _ (w.heap.size + 1 + 1 + 1) 0 25 V1 _ hk5.range Try.underlying25 rfl HI_V1.out)
  · exact ⟨rfl, below_sets _ (by omega) 0 _ HK6.out.2.1⟩
end Go.Proofs.Ytkihhmnlefekoaa
