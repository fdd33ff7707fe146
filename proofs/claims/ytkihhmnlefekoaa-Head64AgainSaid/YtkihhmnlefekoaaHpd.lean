/-
  Proved here: what head46.Head answers of a piece.
  Conditions: none.
-/
import Derived.Test.YtkihhmnlefekoaaExe
import Derived.Test.YtkihhmnlefekoaaPpc
namespace Go.Proofs.Ytkihhmnlefekoaa
open Go.RowKit

set_option maxRecDepth 100000 in
set_option maxHeartbeats 4000000 in
theorem head_piece_m (p : P4.Pkt) (F T : List UInt8) (hF : F.length = 16) (hT : T.length = 16) (w : World) (h0 : ¬ p.ttl < 2) (h1 : ¬ 255 < p.ttl) (h2 : ¬ p.tos < 0) (h3 : ¬ 255 < p.tos) (hr : P4.rtE p.opts.data.toList false = some false) (hp : prOk p.proto = true) (hm : p.more = true) :
    Calls Try.prog 21 #[.agg p.vals.toArray, .agg (bytV F).toArray, .agg (bytV T).toArray] w fun e w' => e = .returned (.tuple #[.agg ((⟨p.tos, 0, p.ttl - 1, F, T, [], true, IntKind.u32.wrap p.id, p.pl, true, pr46 p.proto, p.data, hF, hT⟩ : Pk6).vals (.slice none 0 0)).toArray, .nilIface]) ∧ Below w.heap.size w w' := by
  have HM := Lib.hid hm
  clear hm
  have HR := Lib.hid (fun W => rtd_some p.opts false W hr)
  have HP : Hid (∀ W, Calls Try.prog 22 #[.int .i64 p.proto] W fun e w' => e = .returned (.tuple #[.int .i64 (pr46 p.proto), .bool true]) ∧ W = w') := Lib.hid (fun W => by rw [← hp]; exact proto_any p.proto W)
  clear hp
  clear hr
  generalize pr46 p.proto = pr at *
  have HB : Hid (∀ W, (Instr.build 35 #[(0, .int .i64 p.tos), (2, .int .i64 (p.ttl - 1)), (3, .agg (bytV F).toArray), (4, .agg (bytV T).toArray), (10, .int .i64 pr), (11, .string p.data)]).run Try.prog W = .ok (.agg ((⟨p.tos, 0, p.ttl - 1, F, T, [], false, 0, 0, false, pr, p.data, hF, hT⟩ : Pk6).vals (.slice none 0 0)).toArray) W) := Lib.hid (fun W => buildH p.tos (p.ttl - 1) pr p.data F T hF hT W)
  have HI_V0 : Hid ((Try.prog.info? 35).map (·.size) = some ((⟨p.tos, 0, p.ttl - 1, F, T, [], false, 0, 0, false, pr, p.data, hF, hT⟩ : Pk6).vals (.slice none 0 0)).length) := Lib.hid (Try.info6 _ _)
  have HO_V0 : Hid (((⟨p.tos, 0, p.ttl - 1, F, T, [], false, 0, 0, false, pr, p.data, hF, hT⟩ : Pk6).vals (.slice none 0 0)).toArray.all (·.oneCell') = true) := Lib.hid (vals_one _ _ rfl)
  have HL_V0 : Hid (((⟨p.tos, 0, p.ttl - 1, F, T, [], false, 0, 0, false, pr, p.data, hF, hT⟩ : Pk6).vals (.slice none 0 0)).length = 42) := Lib.hid (vals_len _ _)
  have HI_V1 : Hid ((Try.prog.info? 35).map (·.size) = some ((⟨p.tos, 0, p.ttl - 1, F, T, [], true, IntKind.u32.wrap p.id, p.pl, true, pr, p.data, hF, hT⟩ : Pk6).vals (.slice none 0 0)).length) := Lib.hid (Try.info6 _ _)
  have HO_V1 : Hid (((⟨p.tos, 0, p.ttl - 1, F, T, [], true, IntKind.u32.wrap p.id, p.pl, true, pr, p.data, hF, hT⟩ : Pk6).vals (.slice none 0 0)).toArray.all (·.oneCell') = true) := Lib.hid (vals_one _ _ rfl)
  have HL_V1 : Hid (((⟨p.tos, 0, p.ttl - 1, F, T, [], true, IntKind.u32.wrap p.id, p.pl, true, pr, p.data, hF, hT⟩ : Pk6).vals (.slice none 0 0)).length = 42) := Lib.hid (vals_len _ _)
  have HS : Hid ((((((⟨p.tos, 0, p.ttl - 1, F, T, [], false, 0, 0, false, pr, p.data, hF, hT⟩ : Pk6).vals (.slice none 0 0)).set 36 (.bool true)).set 37 (.int .u32 (IntKind.u32.wrap p.id))).set 38 (.int .i64 p.pl)).set 39 (.bool true) = (⟨p.tos, 0, p.ttl - 1, F, T, [], true, IntKind.u32.wrap p.id, p.pl, true, pr, p.data, hF, hT⟩ : Pk6).vals (.slice none 0 0)) := Lib.hid (by
    obtain ⟨x0, x1, x2, x3, x4, x5, x6, x7, x8, x9, x10, x11, x12, x13, x14, x15, rfl⟩ := list16u hF
    obtain ⟨y0, y1, y2, y3, y4, y5, y6, y7, y8, y9, y10, y11, y12, y13, y14, y15, rfl⟩ := list16u hT
    rfl)
  generalize (⟨p.tos, 0, p.ttl - 1, F, T, [], true, IntKind.u32.wrap p.id, p.pl, true, pr, p.data, hF, hT⟩ : Pk6).vals (.slice none 0 0) = V1 at *
  generalize (⟨p.tos, 0, p.ttl - 1, F, T, [], false, 0, 0, false, pr, p.data, hF, hT⟩ : Pk6).vals (.slice none 0 0) = V0 at *
  obtain ⟨Z, hZ⟩ : ∃ Z, Z = pk0.vals (.slice none 0 0) := ⟨_, rfl⟩
  have HBZ : Hid (∀ W, (Instr.build 35 #[]).run Try.prog W = .ok (.agg Z.toArray) W) := Lib.hid (fun W => by rw [hZ]; exact buildZ W)
  have HI_Z : Hid ((Try.prog.info? 35).map (·.size) = some Z.length) := Lib.hid (by rw [hZ]; exact Try.info6 _ _)
  have HO_Z : Hid (Z.toArray.all (·.oneCell') = true) := Lib.hid (by rw [hZ]; exact vals_one _ _ rfl)
  have HL_Z : Hid (Z.length = 42) := Lib.hid (by rw [hZ]; exact vals_len _ _)
  have hz0 : Z.toArray = #[.int .i64 0, .int .i64 0, .int .i64 0, .int .u8 0, .int .u8 0, .int .u8 0, .int .u8 0, .int .u8 0, .int .u8 0, .int .u8 0, .int .u8 0, .int .u8 0, .int .u8 0, .int .u8 0, .int .u8 0, .int .u8 0, .int .u8 0, .int .u8 0, .int .u8 0, .int .u8 0, .int .u8 0, .int .u8 0, .int .u8 0, .int .u8 0, .int .u8 0, .int .u8 0, .int .u8 0, .int .u8 0, .int .u8 0, .int .u8 0, .int .u8 0, .int .u8 0, .int .u8 0, .int .u8 0, .int .u8 0, .slice none 0 0, .bool false, .int .u32 0, .int .i64 0, .bool false, .int .i64 0, .string ⟨#[]⟩] := by rw [hZ]; exact pk0_vals
  have HZ := Lib.hid hZ
  have HZ0 := Lib.hid hz0
  clear hZ
  have HI_VP : Hid ((Try.prog.info? 25).map (·.size) = some (p.vals).length) := Lib.hid (P4.Try.infoIp _)
  have HO_VP : Hid ((p.vals).toArray.all (·.oneCell') = true) := Lib.hid (P4.vals_one _)
  have HL_VP : Hid ((p.vals).length = 17) := Lib.hid rfl
  have HI_VF : Hid ((Try.prog.info? 32).map (·.size) = some (bytV F).length) := Lib.hid (Try.infoV6 _ hF)
  have HO_VF : Hid ((bytV F).toArray.all (·.oneCell') = true) := Lib.hid (by rw [List.all_toArray, List.all_eq_true]; exact bytV_one _)
  have HL_VF : Hid ((bytV F).length = 16) := Lib.hid (by rw [bytV_len]; exact hF)
  have HI_VT : Hid ((Try.prog.info? 32).map (·.size) = some (bytV T).length) := Lib.hid (Try.infoV6 _ hT)
  have HO_VT : Hid ((bytV T).toArray.all (·.oneCell') = true) := Lib.hid (by rw [List.all_toArray, List.all_eq_true]; exact bytV_one _)
  have HL_VT : Hid ((bytV T).length = 16) := Lib.hid (by rw [bytV_len]; exact hT)
  have HC_VP_0 : Hid (p.vals[0]? = some (.int .i64 p.tos)) := Lib.hid rfl
  have HC_VP_1 : Hid (p.vals[1]? = some (.int .i64 p.id)) := Lib.hid rfl
  have HC_VP_2 : Hid (p.vals[2]? = some (.int .i64 p.ttl)) := Lib.hid rfl
  have HC_VP_3 : Hid (p.vals[3]? = some (.int .i64 p.proto)) := Lib.hid rfl
  have HC_VP_4 : Hid (p.vals[4]? = some (.int .i64 p.pl)) := Lib.hid rfl
  have HC_VP_5 : Hid (p.vals[5]? = some (.bool p.df)) := Lib.hid rfl
  have HC_VP_6 : Hid (p.vals[6]? = some (.bool p.more)) := Lib.hid rfl
  have HC_VP_15 : Hid (p.vals[15]? = some (.string p.opts)) := Lib.hid rfl
  have HC_VP_16 : Hid (p.vals[16]? = some (.string p.data)) := Lib.hid rfl
  have HK1 : Hid (Kp w w.heap.size [(w.heap.size + 1 + 1 + 1, 35, Z), (w.heap.size + 1 + 1, 32, bytV T), (w.heap.size + 1, 32, bytV F), (w.heap.size, 25, p.vals)] ((((w.alloc (.cells p.vals.toArray 25)).alloc (.cells (bytV F).toArray 32)).alloc (.cells (bytV T).toArray 32)).alloc (.cells Z.toArray 35))) := Lib.hid (by
    have h := (((Kp.start w).new 25 p.vals).new 32 (bytV F)).new 32 (bytV T)
    have e1 : (w.alloc (.cells p.vals.toArray 25)).heap.size = w.heap.size + 1 := by simp
    have e2 : ((w.alloc (.cells p.vals.toArray 25)).alloc (.cells (bytV F).toArray 32)).heap.size = w.heap.size + 1 + 1 := by simp
    have e3 : (((w.alloc (.cells p.vals.toArray 25)).alloc (.cells (bytV F).toArray 32)).alloc (.cells (bytV T).toArray 32)).heap.size = w.heap.size + 1 + 1 + 1 := by simp
    rw [e1, e2] at h
    have h2 := h.new 35 Z
    rwa [e3] at h2)
  generalize p.vals = VP at *
  generalize bytV F = VF at *
  generalize bytV T = VT at *
  generalize hw1 : (((w.alloc (.cells VP.toArray 25)).alloc (.cells VF.toArray 32)).alloc (.cells VT.toArray 32)).alloc (.cells Z.toArray 35) = w1 at *
  rw [hz0] at hw1
  go_enter Try.func21, Try.ntmps21
  go_upto_region 1 with (fail)
  clear hw1 hz0
  have c2 : w1.cell? ⟨w.heap.size, 2, none⟩ = some (.int .i64 p.ttl) := HK1.out.tl.tl.tl.hd.at HC_VP_2.out
  have c0 : w1.cell? ⟨w.heap.size, 0, none⟩ = some (.int .i64 p.tos) := HK1.out.tl.tl.tl.hd.at HC_VP_0.out
  have c15 : w1.cell? ⟨w.heap.size, 15, none⟩ = some (.string p.opts) := HK1.out.tl.tl.tl.hd.at HC_VP_15.out
  go_wp2_with (fail)
  clear c2 c0 c15
  refine (HR.out _).mono ?_
  rintro e w2 ⟨rfl, bb⟩
  have HK2 := Lib.hid (HK1.out.below bb (Nat.le_refl _))
  clear bb HK1
  have c3 : w2.cell? ⟨w.heap.size, 3, none⟩ = some (.int .i64 p.proto) := HK2.out.tl.tl.tl.hd.at HC_VP_3.out
  go_wp2_with (fail)
  clear c3
  refine (HP.out _).mono ?_
  rintro e w9 ⟨rfl, rfl⟩
  have c0 : w2.cell? ⟨w.heap.size, 0, none⟩ = some (.int .i64 p.tos) := HK2.out.tl.tl.tl.hd.at HC_VP_0.out
  have c2 : w2.cell? ⟨w.heap.size, 2, none⟩ = some (.int .i64 p.ttl) := HK2.out.tl.tl.tl.hd.at HC_VP_2.out
  have c16 : w2.cell? ⟨w.heap.size, 16, none⟩ = some (.string p.data) := HK2.out.tl.tl.tl.hd.at HC_VP_16.out
  have hr0 := HK2.out.tl.hd.range
  have hr1 := HK2.out.tl.tl.hd.range
  have kw : IntKind.i64.wrap (p.ttl - 1) = p.ttl - 1 := IntWalk.i64_in _ (by omega)
  have HG3 : Hid (w.heap.size + 1 + 1 + 1 < w2.heap.size) := Lib.hid HK2.out.hd.lt
  have ht := (bk_new w2 35 ([.int .i64 0, .int .i64 0, .int .i64 0, .int .u8 0, .int .u8 0, .int .u8 0, .int .u8 0, .int .u8 0, .int .u8 0, .int .u8 0, .int .u8 0, .int .u8 0, .int .u8 0, .int .u8 0, .int .u8 0, .int .u8 0, .int .u8 0, .int .u8 0, .int .u8 0, .int .u8 0, .int .u8 0, .int .u8 0, .int .u8 0, .int .u8 0, .int .u8 0, .int .u8 0, .int .u8 0, .int .u8 0, .int .u8 0, .int .u8 0, .int .u8 0, .int .u8 0, .int .u8 0, .int .u8 0, .int .u8 0, .slice none 0 0, .bool false, .int .u32 0, .int .i64 0, .bool false, .int .i64 0, .string ⟨#[]⟩] : List Value).toArray).there V0.toArray.size (by have := HL_V0.out; simp; omega)
  go_upto_region 10 with (((with_reducible (change wpList _ _ _ _ _ _)); (first | (refine wpList_load_mid rfl 32 _ rfl (w.heap.size + 1 + 1) 0 rfl (VT) _ hr0 Try.underlying32 rfl HI_VT.out ?_) | (refine wpList_load_mid rfl 32 _ rfl (w.heap.size + 1) 0 rfl (VF) _ hr1 Try.underlying32 rfl HI_VF.out ?_) | (refine Great.wpList_readTo rfl _ rfl (.agg V0.toArray) (run_execN rfl (by rw [List.map_toArray]; rfl) (HB.out _)) ?_) | (refine wpList_store_mid rfl 35 _ _ rfl (w2.heap.size) 0 V0.toArray rfl rfl ht (by simpa using HI_V0.out) HO_V0.out ?_))))
  have HK3 := Lib.hid (HK2.out.put 35 ([.int .i64 0, .int .i64 0, .int .i64 0, .int .u8 0, .int .u8 0, .int .u8 0, .int .u8 0, .int .u8 0, .int .u8 0, .int .u8 0, .int .u8 0, .int .u8 0, .int .u8 0, .int .u8 0, .int .u8 0, .int .u8 0, .int .u8 0, .int .u8 0, .int .u8 0, .int .u8 0, .int .u8 0, .int .u8 0, .int .u8 0, .int .u8 0, .int .u8 0, .int .u8 0, .int .u8 0, .int .u8 0, .int .u8 0, .int .u8 0, .int .u8 0, .int .u8 0, .int .u8 0, .int .u8 0, .int .u8 0, .slice none 0 0, .bool false, .int .u32 0, .int .i64 0, .bool false, .int .i64 0, .string ⟨#[]⟩] : List Value).toArray V0 (by have := HL_V0.out; simp; omega))
  clear ht HK2
  generalize (w2.alloc (.cells ([.int .i64 0, .int .i64 0, .int .i64 0, .int .u8 0, .int .u8 0, .int .u8 0, .int .u8 0, .int .u8 0, .int .u8 0, .int .u8 0, .int .u8 0, .int .u8 0, .int .u8 0, .int .u8 0, .int .u8 0, .int .u8 0, .int .u8 0, .int .u8 0, .int .u8 0, .int .u8 0, .int .u8 0, .int .u8 0, .int .u8 0, .int .u8 0, .int .u8 0, .int .u8 0, .int .u8 0, .int .u8 0, .int .u8 0, .int .u8 0, .int .u8 0, .int .u8 0, .int .u8 0, .int .u8 0, .int .u8 0, .slice none 0 0, .bool false, .int .u32 0, .int .i64 0, .bool false, .int .i64 0, .string ⟨#[]⟩] : List Value).toArray 35)).setCells w2.heap.size 0 V0 = w3 at *
  generalize w2.heap.size = g3 at *
  clear kw hr0 hr1 c0 c2 c16
  have c6 : w3.cell? ⟨w.heap.size, 6, none⟩ = some (.bool true) := HK3.out.tl.tl.tl.tl.hd.at (by rw [HC_VP_6.out, HM.out])
  have c1 : w3.cell? ⟨w.heap.size, 1, none⟩ = some (.int .i64 p.id) := HK3.out.tl.tl.tl.tl.hd.at HC_VP_1.out
  have c4 : w3.cell? ⟨w.heap.size, 4, none⟩ = some (.int .i64 p.pl) := HK3.out.tl.tl.tl.tl.hd.at HC_VP_4.out
  go_upto_region 11 with (fail)
  have hne : ∀ x ∈ ([(w.heap.size + 1 + 1 + 1, 35, Z), (w.heap.size + 1 + 1, 32, VT), (w.heap.size + 1, 32, VF), (w.heap.size, 25, VP)] : List (Nat × TypeId × List Value)), x.1 ≠ g3 := by
    have hg := HG3.out
    intro x hx
    simp only [List.mem_cons, List.not_mem_nil, or_false] at hx
    rcases hx with rfl | rfl | rfl | rfl <;> (show _ ≠ g3; omega)
  have hgB : w.heap.size ≤ g3 := by have := HG3.out; omega
  have HNE := Lib.hid (And.intro hne hgB)
  clear hne hgB
  have HKR : Hid (∀ W : World, Pst w w.heap.size [(w.heap.size + 1 + 1 + 1, 35, Z), (w.heap.size + 1 + 1, 32, VT), (w.heap.size + 1, 32, VF), (w.heap.size, 25, VP)] g3 35 42 W → (fun w' => Pst w w.heap.size [(w.heap.size + 1 + 1 + 1, 35, Z), (w.heap.size + 1 + 1, 32, VT), (w.heap.size + 1, 32, VF), (w.heap.size, 25, VP)] g3 35 42 w' ∧ w'.cell? ⟨w.heap.size, 1, none⟩ = some (.int .i64 p.id) ∧ w'.cell? ⟨w.heap.size, 4, none⟩ = some (.int .i64 p.pl) ∧ w'.cell? ⟨w.heap.size, 6, none⟩ = some (.bool true)) W) := Lib.hid (fun W k => ⟨k, k.1.tl.tl.tl.hd.at HC_VP_1.out, k.1.tl.tl.tl.hd.at HC_VP_4.out, k.1.tl.tl.tl.hd.at (by rw [HC_VP_6.out, HM.out])⟩)
  refine wp_region_noPanic ?_
  refine wp_region_held_drew (S := fun w' => Pst w w.heap.size [(w.heap.size + 1 + 1 + 1, 35, Z), (w.heap.size + 1 + 1, 32, VT), (w.heap.size + 1, 32, VF), (w.heap.size, 25, VP)] g3 35 42 w' ∧ w'.cell? ⟨w.heap.size, 1, none⟩ = some (.int .i64 p.id) ∧ w'.cell? ⟨w.heap.size, 4, none⟩ = some (.int .i64 p.pl) ∧ w'.cell? ⟨w.heap.size, 6, none⟩ = some (.bool true)) (by kernel_rfl) (HKR.out _ (Pst.of HK3.out.drew HL_V0.out)) (fun hHeld => ?_)
  refine wpAnyH_take (i := 0) (oi := { dst := some 78, op := Op.fieldAddr 25 (Operand.tmp 3) 1, type := 0, pos := "head46.go:40", after := #[{ on := 8, ground := Ground.gcOnly Departure.lateStores }], guard := none }) (v := ?_) rfl (by kernel_rfl) (by kernel_rfl) (by kernel_rfl) (fun _ _ _ h => h) (Or.inl ⟨by rfl, ?_⟩) (by assumption) ?_
  rotate_left
  · (intro ww hSw; (try dsimp only at hSw); go_simp; try with_reducible rfl)
  (try simp only [Act.put, List.setIfInBounds_toArray, List.set_cons_zero, List.set_cons_succ])
  refine wpAnyH_take (i := 1) (oi := { dst := some 79, op := Op.load 3 (Operand.tmp 78), type := 3, pos := "head46.go:40", after := #[{ on := 0, ground := Ground.data }, { on := 8, ground := Ground.gcOnly Departure.lateStores }], guard := none }) (v := ?_) rfl (by kernel_rfl) (by kernel_rfl) (by kernel_rfl) (fun _ _ _ h => h) (Or.inl ⟨by rfl, ?_⟩) (by assumption) ?_
  rotate_left
  · (intro ww hSw; (try dsimp only at hSw); go_simp; try with_reducible rfl)
  (try simp only [Act.put, List.setIfInBounds_toArray, List.set_cons_zero, List.set_cons_succ])
  refine wpAnyH_take (i := 2) (oi := { dst := some 80, op := Op.convert 3 30 (Operand.tmp 79), type := 30, pos := "head46.go:40", after := #[{ on := 1, ground := Ground.data }, { on := 8, ground := Ground.gcOnly Departure.lateStores }], guard := none }) (v := ?_) rfl (by kernel_rfl) (by kernel_rfl) (by kernel_rfl) (fun _ _ _ h => h) (Or.inl ⟨by rfl, ?_⟩) (by assumption) ?_
  rotate_left
  · (intro ww hSw; (try dsimp only at hSw); go_simp; try with_reducible rfl)
  (try simp only [Act.put, List.setIfInBounds_toArray, List.set_cons_zero, List.set_cons_succ])
  refine wpAnyH_take (i := 3) (oi := { dst := some 81, op := Op.fieldAddr 25 (Operand.tmp 3) 4, type := 0, pos := "head46.go:40", after := #[{ on := 10, ground := Ground.gcOnly Departure.lateStores }], guard := none }) (v := ?_) rfl (by kernel_rfl) (by kernel_rfl) (by kernel_rfl) (fun _ _ _ h => h) (Or.inl ⟨by rfl, ?_⟩) (by assumption) ?_
  rotate_left
  · (intro ww hSw; (try dsimp only at hSw); go_simp; try with_reducible rfl)
  (try simp only [Act.put, List.setIfInBounds_toArray, List.set_cons_zero, List.set_cons_succ])
  refine wpAnyH_take (i := 4) (oi := { dst := some 82, op := Op.load 3 (Operand.tmp 81), type := 3, pos := "head46.go:40", after := #[{ on := 3, ground := Ground.data }, { on := 10, ground := Ground.gcOnly Departure.lateStores }], guard := none }) (v := ?_) rfl (by kernel_rfl) (by kernel_rfl) (by kernel_rfl) (fun _ _ _ h => h) (Or.inl ⟨by rfl, ?_⟩) (by assumption) ?_
  rotate_left
  · (intro ww hSw; (try dsimp only at hSw); go_simp; try with_reducible rfl)
  (try simp only [Act.put, List.setIfInBounds_toArray, List.set_cons_zero, List.set_cons_succ])
  refine wpAnyH_take (i := 5) (oi := { dst := some 83, op := Op.fieldAddr 25 (Operand.tmp 3) 6, type := 0, pos := "head46.go:40", after := #[{ on := 12, ground := Ground.gcOnly Departure.lateStores }], guard := none }) (v := ?_) rfl (by kernel_rfl) (by kernel_rfl) (by kernel_rfl) (fun _ _ _ h => h) (Or.inl ⟨by rfl, ?_⟩) (by assumption) ?_
  rotate_left
  · (intro ww hSw; (try dsimp only at hSw); go_simp; try with_reducible rfl)
  (try simp only [Act.put, List.setIfInBounds_toArray, List.set_cons_zero, List.set_cons_succ])
  refine wpAnyH_take (i := 6) (oi := { dst := some 84, op := Op.load 4 (Operand.tmp 83), type := 4, pos := "head46.go:40", after := #[{ on := 5, ground := Ground.data }, { on := 12, ground := Ground.gcOnly Departure.lateStores }], guard := none }) (v := ?_) rfl (by kernel_rfl) (by kernel_rfl) (by kernel_rfl) (fun _ _ _ h => h) (Or.inl ⟨by rfl, ?_⟩) (by assumption) ?_
  rotate_left
  · (intro ww hSw; (try dsimp only at hSw); go_simp; try with_reducible rfl)
  (try simp only [Act.put, List.setIfInBounds_toArray, List.set_cons_zero, List.set_cons_succ])
  refine wpAnyH_take (i := 7) (oi := { dst := some 85, op := Op.fieldAddr 35 (Operand.tmp 12) 6, type := 0, pos := "head46.go:40", after := #[{ on := 0, ground := Ground.textOnly Departure.lateStores }, { on := 1, ground := Ground.textOnly Departure.lateStores }, { on := 2, ground := Ground.textOnly Departure.lateStores }, { on := 3, ground := Ground.textOnly Departure.lateStores }, { on := 4, ground := Ground.textOnly Departure.lateStores }, { on := 5, ground := Ground.textOnly Departure.lateStores }, { on := 6, ground := Ground.textOnly Departure.lateStores }], guard := none }) (v := ?_) rfl (by kernel_rfl) (by kernel_rfl) (by kernel_rfl) (fun _ _ _ h => h) (Or.inl ⟨by rfl, ?_⟩) (by assumption) ?_
  rotate_left
  · (intro ww hSw; (try dsimp only at hSw); go_simp; try with_reducible rfl)
  (try simp only [Act.put, List.setIfInBounds_toArray, List.set_cons_zero, List.set_cons_succ])
  refine wpAnyH_ready (rs := [8]) (by kernel_rfl) (by simp) ?_
  refine AllReadyH.cons (o := { dst := none, op := Op.store 4 (Operand.tmp 85) (Operand.const (Value.bool true)), type := 0, pos := "head46.go:40", after := #[{ on := 7, ground := Ground.data }, { on := 0, ground := Ground.textOnly Departure.lateStores }, { on := 1, ground := Ground.textOnly Departure.lateStores }, { on := 2, ground := Ground.textOnly Departure.lateStores }, { on := 3, ground := Ground.textOnly Departure.lateStores }, { on := 4, ground := Ground.textOnly Departure.lateStores }, { on := 5, ground := Ground.textOnly Departure.lateStores }, { on := 6, ground := Ground.textOnly Departure.lateStores }], guard := none }) rfl (fun K hK => ?_) AllReadyH.nil
  obtain ⟨u36, hu36, hz36⟩ := (And.left hHeld).there 36 (by omega)
  go_simp
  refine hK.out _ _ (HKR.out _ ((And.left hHeld).set HNE.out.1 HNE.out.2 36 _)) (fun hHeld => ?_)
  clear hK K
  (try simp only [Act.put])
  refine wpAnyH_take (i := 9) (oi := { dst := some 86, op := Op.fieldAddr 35 (Operand.tmp 12) 7, type := 0, pos := "head46.go:40", after := #[{ on := 0, ground := Ground.phase }, { on := 1, ground := Ground.phase }, { on := 2, ground := Ground.phase }, { on := 3, ground := Ground.textOnly Departure.lateStores }, { on := 4, ground := Ground.textOnly Departure.lateStores }, { on := 5, ground := Ground.textOnly Departure.lateStores }, { on := 6, ground := Ground.textOnly Departure.lateStores }, { on := 7, ground := Ground.phase }, { on := 8, ground := Ground.phase }], guard := none }) (v := ?_) rfl (by kernel_rfl) (by kernel_rfl) (by kernel_rfl) (fun _ _ _ h => h) (Or.inl ⟨by rfl, ?_⟩) (by assumption) ?_
  rotate_left
  · (intro ww hSw; (try dsimp only at hSw); go_simp; try with_reducible rfl)
  (try simp only [Act.put, List.setIfInBounds_toArray, List.set_cons_zero, List.set_cons_succ])
  refine wpAnyH_ready (rs := [10]) (by kernel_rfl) (by simp) ?_
  refine AllReadyH.cons (o := { dst := none, op := Op.store 30 (Operand.tmp 86) (Operand.tmp 80), type := 0, pos := "head46.go:40", after := #[{ on := 9, ground := Ground.data }, { on := 2, ground := Ground.data }, { on := 8, ground := Ground.chain }, { on := 0, ground := Ground.phase }, { on := 1, ground := Ground.phase }, { on := 2, ground := Ground.phase }, { on := 3, ground := Ground.textOnly Departure.lateStores }, { on := 4, ground := Ground.textOnly Departure.lateStores }, { on := 5, ground := Ground.textOnly Departure.lateStores }, { on := 6, ground := Ground.textOnly Departure.lateStores }, { on := 7, ground := Ground.phase }, { on := 8, ground := Ground.phase }], guard := none }) rfl (fun K hK => ?_) AllReadyH.nil
  obtain ⟨u37, hu37, hz37⟩ := (And.left hHeld).there 37 (by omega)
  go_simp
  refine hK.out _ _ (HKR.out _ ((And.left hHeld).set HNE.out.1 HNE.out.2 37 _)) (fun hHeld => ?_)
  clear hK K
  (try simp only [Act.put])
  refine wpAnyH_take (i := 11) (oi := { dst := some 87, op := Op.fieldAddr 35 (Operand.tmp 12) 8, type := 0, pos := "head46.go:40", after := #[{ on := 0, ground := Ground.phase }, { on := 1, ground := Ground.phase }, { on := 2, ground := Ground.phase }, { on := 3, ground := Ground.phase }, { on := 4, ground := Ground.phase }, { on := 5, ground := Ground.textOnly Departure.lateStores }, { on := 6, ground := Ground.textOnly Departure.lateStores }, { on := 7, ground := Ground.phase }, { on := 8, ground := Ground.phase }, { on := 9, ground := Ground.phase }, { on := 10, ground := Ground.phase }], guard := none }) (v := ?_) rfl (by kernel_rfl) (by kernel_rfl) (by kernel_rfl) (fun _ _ _ h => h) (Or.inl ⟨by rfl, ?_⟩) (by assumption) ?_
  rotate_left
  · (intro ww hSw; (try dsimp only at hSw); go_simp; try with_reducible rfl)
  (try simp only [Act.put, List.setIfInBounds_toArray, List.set_cons_zero, List.set_cons_succ])
  refine wpAnyH_ready (rs := [12]) (by kernel_rfl) (by simp) ?_
  refine AllReadyH.cons (o := { dst := none, op := Op.store 3 (Operand.tmp 87) (Operand.tmp 82), type := 0, pos := "head46.go:40", after := #[{ on := 11, ground := Ground.data }, { on := 4, ground := Ground.data }, { on := 10, ground := Ground.chain }, { on := 0, ground := Ground.phase }, { on := 1, ground := Ground.phase }, { on := 2, ground := Ground.phase }, { on := 3, ground := Ground.phase }, { on := 4, ground := Ground.phase }, { on := 5, ground := Ground.textOnly Departure.lateStores }, { on := 6, ground := Ground.textOnly Departure.lateStores }, { on := 7, ground := Ground.phase }, { on := 8, ground := Ground.phase }, { on := 9, ground := Ground.phase }, { on := 10, ground := Ground.phase }], guard := none }) rfl (fun K hK => ?_) AllReadyH.nil
  obtain ⟨u38, hu38, hz38⟩ := (And.left hHeld).there 38 (by omega)
  go_simp
  refine hK.out _ _ (HKR.out _ ((And.left hHeld).set HNE.out.1 HNE.out.2 38 _)) (fun hHeld => ?_)
  clear hK K
  (try simp only [Act.put])
  refine wpAnyH_take (i := 13) (oi := { dst := some 88, op := Op.fieldAddr 35 (Operand.tmp 12) 9, type := 0, pos := "head46.go:40", after := #[{ on := 0, ground := Ground.phase }, { on := 1, ground := Ground.phase }, { on := 2, ground := Ground.phase }, { on := 3, ground := Ground.phase }, { on := 4, ground := Ground.phase }, { on := 5, ground := Ground.phase }, { on := 6, ground := Ground.phase }, { on := 7, ground := Ground.phase }, { on := 8, ground := Ground.phase }, { on := 9, ground := Ground.phase }, { on := 10, ground := Ground.phase }, { on := 11, ground := Ground.phase }, { on := 12, ground := Ground.phase }], guard := none }) (v := ?_) rfl (by kernel_rfl) (by kernel_rfl) (by kernel_rfl) (fun _ _ _ h => h) (Or.inl ⟨by rfl, ?_⟩) (by assumption) ?_
  rotate_left
  · (intro ww hSw; (try dsimp only at hSw); go_simp; try with_reducible rfl)
  (try simp only [Act.put, List.setIfInBounds_toArray, List.set_cons_zero, List.set_cons_succ])
  refine wpAnyH_ready (rs := [14]) (by kernel_rfl) (by simp) ?_
  refine AllReadyH.cons (o := { dst := none, op := Op.store 4 (Operand.tmp 88) (Operand.tmp 84), type := 0, pos := "head46.go:40", after := #[{ on := 13, ground := Ground.data }, { on := 6, ground := Ground.data }, { on := 12, ground := Ground.chain }, { on := 0, ground := Ground.phase }, { on := 1, ground := Ground.phase }, { on := 2, ground := Ground.phase }, { on := 3, ground := Ground.phase }, { on := 4, ground := Ground.phase }, { on := 5, ground := Ground.phase }, { on := 6, ground := Ground.phase }, { on := 7, ground := Ground.phase }, { on := 8, ground := Ground.phase }, { on := 9, ground := Ground.phase }, { on := 10, ground := Ground.phase }, { on := 11, ground := Ground.phase }, { on := 12, ground := Ground.phase }], guard := none }) rfl (fun K hK => ?_) AllReadyH.nil
  obtain ⟨u39, hu39, hz39⟩ := (And.left hHeld).there 39 (by omega)
  go_simp
  refine hK.out _ _ (HKR.out _ ((And.left hHeld).set HNE.out.1 HNE.out.2 39 _)) (fun hHeld => ?_)
  clear hK K
  (try simp only [Act.put])
  refine wpAnyH_done (by kernel_rfl) ?_ _
  refine NoPanic.normal ?_
  have hkf := (((HK3.out.drew.set1 HNE.out.1 HNE.out.2 36 (.bool true)).set1 HNE.out.1 HNE.out.2 37 (.int .u32 (IntKind.u32.wrap p.id))).set1 HNE.out.1 HNE.out.2 38 (.int .i64 p.pl)).set1 HNE.out.1 HNE.out.2 39 (.bool true)
  rw [HS.out] at hkf
  have HK4 : Hid (Kp w w.heap.size [(g3, 35, V1), (w.heap.size + 1 + 1 + 1, 35, Z), (w.heap.size + 1 + 1, 32, VT), (w.heap.size + 1, 32, VF), (w.heap.size, 25, VP)] (((((w3.setCell ⟨g3, 36, none⟩ (.bool true)).setCell ⟨g3, 37, none⟩ (.int .u32 (IntKind.u32.wrap p.id))).setCell ⟨g3, 38, none⟩ (.int .i64 p.pl)).setCell ⟨g3, 39, none⟩ (.bool true)).drew)) := Lib.hid hkf
  clear hkf hHeld HK3 hu36 hu37 hu38 hu39 hz36 hz37 hz38 hz39 c1 c4 c6
  generalize ((((w3.setCell ⟨g3, 36, none⟩ (.bool true)).setCell ⟨g3, 37, none⟩ (.int .u32 (IntKind.u32.wrap p.id))).setCell ⟨g3, 38, none⟩ (.int .i64 p.pl)).setCell ⟨g3, 39, none⟩ (.bool true)).drew = w4 at *
  have hr0 := HK4.out.hd.range
  have hkc := HK4.out.tl.hd
  have htf : w4.there (w.heap.size + 1 + 1 + 1) 0 V1.toArray.size := hkc.there _ (by have := HL_V1.out; have := HL_Z.out; simp; omega)
  go_wp2_with (((with_reducible (change wpList _ _ _ _ _ _)); (first | (refine wpList_load_mid rfl 35 _ rfl (g3) 0 rfl (V1) _ hr0 Try.underlying35 rfl HI_V1.out ?_) | (refine wpList_store_mid rfl 35 _ _ rfl (w.heap.size + 1 + 1 + 1) 0 V1.toArray rfl rfl htf (by simpa using HI_V1.out) HO_V1.out ?_))))
  have hk5 := Bk.sets V1 0 _ _ hkc
  rw [puts_whole Z.toArray V1 (by have := HL_V1.out; have := HL_Z.out; simp; omega)] at hk5
  refine bodyPost_ret (v := .tuple #[.agg V1.toArray, .nilIface]) ?_ rfl ?_
  · exact results_cell2 rfl rfl rfl (run_loadVar_mid _ (w.heap.size + 1 + 1 + 1) 0 35 V1 _ hk5.range Try.underlying35 rfl HI_V1.out)
  · exact ⟨rfl, below_sets _ (by omega) 0 _ HK4.out.2.1⟩
set_option maxRecDepth 100000 in
set_option maxHeartbeats 4000000 in
theorem head_piece_a (p : P4.Pkt) (F T : List UInt8) (hF : F.length = 16) (hT : T.length = 16) (w : World) (h0 : ¬ p.ttl < 2) (h1 : ¬ 255 < p.ttl) (h2 : ¬ p.tos < 0) (h3 : ¬ 255 < p.tos) (hr : P4.rtE p.opts.data.toList false = some false) (hp : prOk p.proto = true) (hm : p.more = false) (hl : (p.pl != 0) = true) :
    Calls Try.prog 21 #[.agg p.vals.toArray, .agg (bytV F).toArray, .agg (bytV T).toArray] w fun e w' => e = .returned (.tuple #[.agg ((⟨p.tos, 0, p.ttl - 1, F, T, [], true, IntKind.u32.wrap p.id, p.pl, false, pr46 p.proto, p.data, hF, hT⟩ : Pk6).vals (.slice none 0 0)).toArray, .nilIface]) ∧ Below w.heap.size w w' := by
  have HM := Lib.hid hm
  clear hm
  have HR := Lib.hid (fun W => rtd_some p.opts false W hr)
  have HP : Hid (∀ W, Calls Try.prog 22 #[.int .i64 p.proto] W fun e w' => e = .returned (.tuple #[.int .i64 (pr46 p.proto), .bool true]) ∧ W = w') := Lib.hid (fun W => by rw [← hp]; exact proto_any p.proto W)
  clear hp
  clear hr
  generalize pr46 p.proto = pr at *
  have HB : Hid (∀ W, (Instr.build 35 #[(0, .int .i64 p.tos), (2, .int .i64 (p.ttl - 1)), (3, .agg (bytV F).toArray), (4, .agg (bytV T).toArray), (10, .int .i64 pr), (11, .string p.data)]).run Try.prog W = .ok (.agg ((⟨p.tos, 0, p.ttl - 1, F, T, [], false, 0, 0, false, pr, p.data, hF, hT⟩ : Pk6).vals (.slice none 0 0)).toArray) W) := Lib.hid (fun W => buildH p.tos (p.ttl - 1) pr p.data F T hF hT W)
  have HI_V0 : Hid ((Try.prog.info? 35).map (·.size) = some ((⟨p.tos, 0, p.ttl - 1, F, T, [], false, 0, 0, false, pr, p.data, hF, hT⟩ : Pk6).vals (.slice none 0 0)).length) := Lib.hid (Try.info6 _ _)
  have HO_V0 : Hid (((⟨p.tos, 0, p.ttl - 1, F, T, [], false, 0, 0, false, pr, p.data, hF, hT⟩ : Pk6).vals (.slice none 0 0)).toArray.all (·.oneCell') = true) := Lib.hid (vals_one _ _ rfl)
  have HL_V0 : Hid (((⟨p.tos, 0, p.ttl - 1, F, T, [], false, 0, 0, false, pr, p.data, hF, hT⟩ : Pk6).vals (.slice none 0 0)).length = 42) := Lib.hid (vals_len _ _)
  have HI_V1 : Hid ((Try.prog.info? 35).map (·.size) = some ((⟨p.tos, 0, p.ttl - 1, F, T, [], true, IntKind.u32.wrap p.id, p.pl, false, pr, p.data, hF, hT⟩ : Pk6).vals (.slice none 0 0)).length) := Lib.hid (Try.info6 _ _)
  have HO_V1 : Hid (((⟨p.tos, 0, p.ttl - 1, F, T, [], true, IntKind.u32.wrap p.id, p.pl, false, pr, p.data, hF, hT⟩ : Pk6).vals (.slice none 0 0)).toArray.all (·.oneCell') = true) := Lib.hid (vals_one _ _ rfl)
  have HL_V1 : Hid (((⟨p.tos, 0, p.ttl - 1, F, T, [], true, IntKind.u32.wrap p.id, p.pl, false, pr, p.data, hF, hT⟩ : Pk6).vals (.slice none 0 0)).length = 42) := Lib.hid (vals_len _ _)
  have HS : Hid ((((((⟨p.tos, 0, p.ttl - 1, F, T, [], false, 0, 0, false, pr, p.data, hF, hT⟩ : Pk6).vals (.slice none 0 0)).set 36 (.bool true)).set 37 (.int .u32 (IntKind.u32.wrap p.id))).set 38 (.int .i64 p.pl)).set 39 (.bool false) = (⟨p.tos, 0, p.ttl - 1, F, T, [], true, IntKind.u32.wrap p.id, p.pl, false, pr, p.data, hF, hT⟩ : Pk6).vals (.slice none 0 0)) := Lib.hid (by
    obtain ⟨x0, x1, x2, x3, x4, x5, x6, x7, x8, x9, x10, x11, x12, x13, x14, x15, rfl⟩ := list16u hF
    obtain ⟨y0, y1, y2, y3, y4, y5, y6, y7, y8, y9, y10, y11, y12, y13, y14, y15, rfl⟩ := list16u hT
    rfl)
  generalize (⟨p.tos, 0, p.ttl - 1, F, T, [], true, IntKind.u32.wrap p.id, p.pl, false, pr, p.data, hF, hT⟩ : Pk6).vals (.slice none 0 0) = V1 at *
  generalize (⟨p.tos, 0, p.ttl - 1, F, T, [], false, 0, 0, false, pr, p.data, hF, hT⟩ : Pk6).vals (.slice none 0 0) = V0 at *
  obtain ⟨Z, hZ⟩ : ∃ Z, Z = pk0.vals (.slice none 0 0) := ⟨_, rfl⟩
  have HBZ : Hid (∀ W, (Instr.build 35 #[]).run Try.prog W = .ok (.agg Z.toArray) W) := Lib.hid (fun W => by rw [hZ]; exact buildZ W)
  have HI_Z : Hid ((Try.prog.info? 35).map (·.size) = some Z.length) := Lib.hid (by rw [hZ]; exact Try.info6 _ _)
  have HO_Z : Hid (Z.toArray.all (·.oneCell') = true) := Lib.hid (by rw [hZ]; exact vals_one _ _ rfl)
  have HL_Z : Hid (Z.length = 42) := Lib.hid (by rw [hZ]; exact vals_len _ _)
  have hz0 : Z.toArray = #[.int .i64 0, .int .i64 0, .int .i64 0, .int .u8 0, .int .u8 0, .int .u8 0, .int .u8 0, .int .u8 0, .int .u8 0, .int .u8 0, .int .u8 0, .int .u8 0, .int .u8 0, .int .u8 0, .int .u8 0, .int .u8 0, .int .u8 0, .int .u8 0, .int .u8 0, .int .u8 0, .int .u8 0, .int .u8 0, .int .u8 0, .int .u8 0, .int .u8 0, .int .u8 0, .int .u8 0, .int .u8 0, .int .u8 0, .int .u8 0, .int .u8 0, .int .u8 0, .int .u8 0, .int .u8 0, .int .u8 0, .slice none 0 0, .bool false, .int .u32 0, .int .i64 0, .bool false, .int .i64 0, .string ⟨#[]⟩] := by rw [hZ]; exact pk0_vals
  have HZ := Lib.hid hZ
  have HZ0 := Lib.hid hz0
  clear hZ
  have HI_VP : Hid ((Try.prog.info? 25).map (·.size) = some (p.vals).length) := Lib.hid (P4.Try.infoIp _)
  have HO_VP : Hid ((p.vals).toArray.all (·.oneCell') = true) := Lib.hid (P4.vals_one _)
  have HL_VP : Hid ((p.vals).length = 17) := Lib.hid rfl
  have HI_VF : Hid ((Try.prog.info? 32).map (·.size) = some (bytV F).length) := Lib.hid (Try.infoV6 _ hF)
  have HO_VF : Hid ((bytV F).toArray.all (·.oneCell') = true) := Lib.hid (by rw [List.all_toArray, List.all_eq_true]; exact bytV_one _)
  have HL_VF : Hid ((bytV F).length = 16) := Lib.hid (by rw [bytV_len]; exact hF)
  have HI_VT : Hid ((Try.prog.info? 32).map (·.size) = some (bytV T).length) := Lib.hid (Try.infoV6 _ hT)
  have HO_VT : Hid ((bytV T).toArray.all (·.oneCell') = true) := Lib.hid (by rw [List.all_toArray, List.all_eq_true]; exact bytV_one _)
  have HL_VT : Hid ((bytV T).length = 16) := Lib.hid (by rw [bytV_len]; exact hT)
  have HC_VP_0 : Hid (p.vals[0]? = some (.int .i64 p.tos)) := Lib.hid rfl
  have HC_VP_1 : Hid (p.vals[1]? = some (.int .i64 p.id)) := Lib.hid rfl
  have HC_VP_2 : Hid (p.vals[2]? = some (.int .i64 p.ttl)) := Lib.hid rfl
  have HC_VP_3 : Hid (p.vals[3]? = some (.int .i64 p.proto)) := Lib.hid rfl
  have HC_VP_4 : Hid (p.vals[4]? = some (.int .i64 p.pl)) := Lib.hid rfl
  have HC_VP_5 : Hid (p.vals[5]? = some (.bool p.df)) := Lib.hid rfl
  have HC_VP_6 : Hid (p.vals[6]? = some (.bool p.more)) := Lib.hid rfl
  have HC_VP_15 : Hid (p.vals[15]? = some (.string p.opts)) := Lib.hid rfl
  have HC_VP_16 : Hid (p.vals[16]? = some (.string p.data)) := Lib.hid rfl
  have HK1 : Hid (Kp w w.heap.size [(w.heap.size + 1 + 1 + 1, 35, Z), (w.heap.size + 1 + 1, 32, bytV T), (w.heap.size + 1, 32, bytV F), (w.heap.size, 25, p.vals)] ((((w.alloc (.cells p.vals.toArray 25)).alloc (.cells (bytV F).toArray 32)).alloc (.cells (bytV T).toArray 32)).alloc (.cells Z.toArray 35))) := Lib.hid (by
    have h := (((Kp.start w).new 25 p.vals).new 32 (bytV F)).new 32 (bytV T)
    have e1 : (w.alloc (.cells p.vals.toArray 25)).heap.size = w.heap.size + 1 := by simp
    have e2 : ((w.alloc (.cells p.vals.toArray 25)).alloc (.cells (bytV F).toArray 32)).heap.size = w.heap.size + 1 + 1 := by simp
    have e3 : (((w.alloc (.cells p.vals.toArray 25)).alloc (.cells (bytV F).toArray 32)).alloc (.cells (bytV T).toArray 32)).heap.size = w.heap.size + 1 + 1 + 1 := by simp
    rw [e1, e2] at h
    have h2 := h.new 35 Z
    rwa [e3] at h2)
  generalize p.vals = VP at *
  generalize bytV F = VF at *
  generalize bytV T = VT at *
  generalize hw1 : (((w.alloc (.cells VP.toArray 25)).alloc (.cells VF.toArray 32)).alloc (.cells VT.toArray 32)).alloc (.cells Z.toArray 35) = w1 at *
  rw [hz0] at hw1
  go_enter Try.func21, Try.ntmps21
  go_upto_region 1 with (fail)
  clear hw1 hz0
  have c2 : w1.cell? ⟨w.heap.size, 2, none⟩ = some (.int .i64 p.ttl) := HK1.out.tl.tl.tl.hd.at HC_VP_2.out
  have c0 : w1.cell? ⟨w.heap.size, 0, none⟩ = some (.int .i64 p.tos) := HK1.out.tl.tl.tl.hd.at HC_VP_0.out
  have c15 : w1.cell? ⟨w.heap.size, 15, none⟩ = some (.string p.opts) := HK1.out.tl.tl.tl.hd.at HC_VP_15.out
  go_wp2_with (fail)
  clear c2 c0 c15
  refine (HR.out _).mono ?_
  rintro e w2 ⟨rfl, bb⟩
  have HK2 := Lib.hid (HK1.out.below bb (Nat.le_refl _))
  clear bb HK1
  have c3 : w2.cell? ⟨w.heap.size, 3, none⟩ = some (.int .i64 p.proto) := HK2.out.tl.tl.tl.hd.at HC_VP_3.out
  go_wp2_with (fail)
  clear c3
  refine (HP.out _).mono ?_
  rintro e w9 ⟨rfl, rfl⟩
  have c0 : w2.cell? ⟨w.heap.size, 0, none⟩ = some (.int .i64 p.tos) := HK2.out.tl.tl.tl.hd.at HC_VP_0.out
  have c2 : w2.cell? ⟨w.heap.size, 2, none⟩ = some (.int .i64 p.ttl) := HK2.out.tl.tl.tl.hd.at HC_VP_2.out
  have c16 : w2.cell? ⟨w.heap.size, 16, none⟩ = some (.string p.data) := HK2.out.tl.tl.tl.hd.at HC_VP_16.out
  have hr0 := HK2.out.tl.hd.range
  have hr1 := HK2.out.tl.tl.hd.range
  have kw : IntKind.i64.wrap (p.ttl - 1) = p.ttl - 1 := IntWalk.i64_in _ (by omega)
  have HG3 : Hid (w.heap.size + 1 + 1 + 1 < w2.heap.size) := Lib.hid HK2.out.hd.lt
  have ht := (bk_new w2 35 ([.int .i64 0, .int .i64 0, .int .i64 0, .int .u8 0, .int .u8 0, .int .u8 0, .int .u8 0, .int .u8 0, .int .u8 0, .int .u8 0, .int .u8 0, .int .u8 0, .int .u8 0, .int .u8 0, .int .u8 0, .int .u8 0, .int .u8 0, .int .u8 0, .int .u8 0, .int .u8 0, .int .u8 0, .int .u8 0, .int .u8 0, .int .u8 0, .int .u8 0, .int .u8 0, .int .u8 0, .int .u8 0, .int .u8 0, .int .u8 0, .int .u8 0, .int .u8 0, .int .u8 0, .int .u8 0, .int .u8 0, .slice none 0 0, .bool false, .int .u32 0, .int .i64 0, .bool false, .int .i64 0, .string ⟨#[]⟩] : List Value).toArray).there V0.toArray.size (by have := HL_V0.out; simp; omega)
  go_upto_region 10 with (((with_reducible (change wpList _ _ _ _ _ _)); (first | (refine wpList_load_mid rfl 32 _ rfl (w.heap.size + 1 + 1) 0 rfl (VT) _ hr0 Try.underlying32 rfl HI_VT.out ?_) | (refine wpList_load_mid rfl 32 _ rfl (w.heap.size + 1) 0 rfl (VF) _ hr1 Try.underlying32 rfl HI_VF.out ?_) | (refine Great.wpList_readTo rfl _ rfl (.agg V0.toArray) (run_execN rfl (by rw [List.map_toArray]; rfl) (HB.out _)) ?_) | (refine wpList_store_mid rfl 35 _ _ rfl (w2.heap.size) 0 V0.toArray rfl rfl ht (by simpa using HI_V0.out) HO_V0.out ?_))))
  have HK3 := Lib.hid (HK2.out.put 35 ([.int .i64 0, .int .i64 0, .int .i64 0, .int .u8 0, .int .u8 0, .int .u8 0, .int .u8 0, .int .u8 0, .int .u8 0, .int .u8 0, .int .u8 0, .int .u8 0, .int .u8 0, .int .u8 0, .int .u8 0, .int .u8 0, .int .u8 0, .int .u8 0, .int .u8 0, .int .u8 0, .int .u8 0, .int .u8 0, .int .u8 0, .int .u8 0, .int .u8 0, .int .u8 0, .int .u8 0, .int .u8 0, .int .u8 0, .int .u8 0, .int .u8 0, .int .u8 0, .int .u8 0, .int .u8 0, .int .u8 0, .slice none 0 0, .bool false, .int .u32 0, .int .i64 0, .bool false, .int .i64 0, .string ⟨#[]⟩] : List Value).toArray V0 (by have := HL_V0.out; simp; omega))
  clear ht HK2
  generalize (w2.alloc (.cells ([.int .i64 0, .int .i64 0, .int .i64 0, .int .u8 0, .int .u8 0, .int .u8 0, .int .u8 0, .int .u8 0, .int .u8 0, .int .u8 0, .int .u8 0, .int .u8 0, .int .u8 0, .int .u8 0, .int .u8 0, .int .u8 0, .int .u8 0, .int .u8 0, .int .u8 0, .int .u8 0, .int .u8 0, .int .u8 0, .int .u8 0, .int .u8 0, .int .u8 0, .int .u8 0, .int .u8 0, .int .u8 0, .int .u8 0, .int .u8 0, .int .u8 0, .int .u8 0, .int .u8 0, .int .u8 0, .int .u8 0, .slice none 0 0, .bool false, .int .u32 0, .int .i64 0, .bool false, .int .i64 0, .string ⟨#[]⟩] : List Value).toArray 35)).setCells w2.heap.size 0 V0 = w3 at *
  generalize w2.heap.size = g3 at *
  clear kw hr0 hr1 c0 c2 c16
  have c6 : w3.cell? ⟨w.heap.size, 6, none⟩ = some (.bool false) := HK3.out.tl.tl.tl.tl.hd.at (by rw [HC_VP_6.out, HM.out])
  have c1 : w3.cell? ⟨w.heap.size, 1, none⟩ = some (.int .i64 p.id) := HK3.out.tl.tl.tl.tl.hd.at HC_VP_1.out
  have c4 : w3.cell? ⟨w.heap.size, 4, none⟩ = some (.int .i64 p.pl) := HK3.out.tl.tl.tl.tl.hd.at HC_VP_4.out
  go_upto_region 11 with (fail)
  have hne : ∀ x ∈ ([(w.heap.size + 1 + 1 + 1, 35, Z), (w.heap.size + 1 + 1, 32, VT), (w.heap.size + 1, 32, VF), (w.heap.size, 25, VP)] : List (Nat × TypeId × List Value)), x.1 ≠ g3 := by
    have hg := HG3.out
    intro x hx
    simp only [List.mem_cons, List.not_mem_nil, or_false] at hx
    rcases hx with rfl | rfl | rfl | rfl <;> (show _ ≠ g3; omega)
  have hgB : w.heap.size ≤ g3 := by have := HG3.out; omega
  have HNE := Lib.hid (And.intro hne hgB)
  clear hne hgB
  have HKR : Hid (∀ W : World, Pst w w.heap.size [(w.heap.size + 1 + 1 + 1, 35, Z), (w.heap.size + 1 + 1, 32, VT), (w.heap.size + 1, 32, VF), (w.heap.size, 25, VP)] g3 35 42 W → (fun w' => Pst w w.heap.size [(w.heap.size + 1 + 1 + 1, 35, Z), (w.heap.size + 1 + 1, 32, VT), (w.heap.size + 1, 32, VF), (w.heap.size, 25, VP)] g3 35 42 w' ∧ w'.cell? ⟨w.heap.size, 1, none⟩ = some (.int .i64 p.id) ∧ w'.cell? ⟨w.heap.size, 4, none⟩ = some (.int .i64 p.pl) ∧ w'.cell? ⟨w.heap.size, 6, none⟩ = some (.bool false)) W) := Lib.hid (fun W k => ⟨k, k.1.tl.tl.tl.hd.at HC_VP_1.out, k.1.tl.tl.tl.hd.at HC_VP_4.out, k.1.tl.tl.tl.hd.at (by rw [HC_VP_6.out, HM.out])⟩)
  refine wp_region_noPanic ?_
  refine wp_region_held_drew (S := fun w' => Pst w w.heap.size [(w.heap.size + 1 + 1 + 1, 35, Z), (w.heap.size + 1 + 1, 32, VT), (w.heap.size + 1, 32, VF), (w.heap.size, 25, VP)] g3 35 42 w' ∧ w'.cell? ⟨w.heap.size, 1, none⟩ = some (.int .i64 p.id) ∧ w'.cell? ⟨w.heap.size, 4, none⟩ = some (.int .i64 p.pl) ∧ w'.cell? ⟨w.heap.size, 6, none⟩ = some (.bool false)) (by kernel_rfl) (HKR.out _ (Pst.of HK3.out.drew HL_V0.out)) (fun hHeld => ?_)
  refine wpAnyH_take (i := 0) (oi := { dst := some 78, op := Op.fieldAddr 25 (Operand.tmp 3) 1, type := 0, pos := "head46.go:40", after := #[{ on := 8, ground := Ground.gcOnly Departure.lateStores }], guard := none }) (v := ?_) rfl (by kernel_rfl) (by kernel_rfl) (by kernel_rfl) (fun _ _ _ h => h) (Or.inl ⟨by rfl, ?_⟩) (by assumption) ?_
  rotate_left
  · (intro ww hSw; (try dsimp only at hSw); go_simp; try with_reducible rfl)
  (try simp only [Act.put, List.setIfInBounds_toArray, List.set_cons_zero, List.set_cons_succ])
  refine wpAnyH_take (i := 1) (oi := { dst := some 79, op := Op.load 3 (Operand.tmp 78), type := 3, pos := "head46.go:40", after := #[{ on := 0, ground := Ground.data }, { on := 8, ground := Ground.gcOnly Departure.lateStores }], guard := none }) (v := ?_) rfl (by kernel_rfl) (by kernel_rfl) (by kernel_rfl) (fun _ _ _ h => h) (Or.inl ⟨by rfl, ?_⟩) (by assumption) ?_
  rotate_left
  · (intro ww hSw; (try dsimp only at hSw); go_simp; try with_reducible rfl)
  (try simp only [Act.put, List.setIfInBounds_toArray, List.set_cons_zero, List.set_cons_succ])
  refine wpAnyH_take (i := 2) (oi := { dst := some 80, op := Op.convert 3 30 (Operand.tmp 79), type := 30, pos := "head46.go:40", after := #[{ on := 1, ground := Ground.data }, { on := 8, ground := Ground.gcOnly Departure.lateStores }], guard := none }) (v := ?_) rfl (by kernel_rfl) (by kernel_rfl) (by kernel_rfl) (fun _ _ _ h => h) (Or.inl ⟨by rfl, ?_⟩) (by assumption) ?_
  rotate_left
  · (intro ww hSw; (try dsimp only at hSw); go_simp; try with_reducible rfl)
  (try simp only [Act.put, List.setIfInBounds_toArray, List.set_cons_zero, List.set_cons_succ])
  refine wpAnyH_take (i := 3) (oi := { dst := some 81, op := Op.fieldAddr 25 (Operand.tmp 3) 4, type := 0, pos := "head46.go:40", after := #[{ on := 10, ground := Ground.gcOnly Departure.lateStores }], guard := none }) (v := ?_) rfl (by kernel_rfl) (by kernel_rfl) (by kernel_rfl) (fun _ _ _ h => h) (Or.inl ⟨by rfl, ?_⟩) (by assumption) ?_
  rotate_left
  · (intro ww hSw; (try dsimp only at hSw); go_simp; try with_reducible rfl)
  (try simp only [Act.put, List.setIfInBounds_toArray, List.set_cons_zero, List.set_cons_succ])
  refine wpAnyH_take (i := 4) (oi := { dst := some 82, op := Op.load 3 (Operand.tmp 81), type := 3, pos := "head46.go:40", after := #[{ on := 3, ground := Ground.data }, { on := 10, ground := Ground.gcOnly Departure.lateStores }], guard := none }) (v := ?_) rfl (by kernel_rfl) (by kernel_rfl) (by kernel_rfl) (fun _ _ _ h => h) (Or.inl ⟨by rfl, ?_⟩) (by assumption) ?_
  rotate_left
  · (intro ww hSw; (try dsimp only at hSw); go_simp; try with_reducible rfl)
  (try simp only [Act.put, List.setIfInBounds_toArray, List.set_cons_zero, List.set_cons_succ])
  refine wpAnyH_take (i := 5) (oi := { dst := some 83, op := Op.fieldAddr 25 (Operand.tmp 3) 6, type := 0, pos := "head46.go:40", after := #[{ on := 12, ground := Ground.gcOnly Departure.lateStores }], guard := none }) (v := ?_) rfl (by kernel_rfl) (by kernel_rfl) (by kernel_rfl) (fun _ _ _ h => h) (Or.inl ⟨by rfl, ?_⟩) (by assumption) ?_
  rotate_left
  · (intro ww hSw; (try dsimp only at hSw); go_simp; try with_reducible rfl)
  (try simp only [Act.put, List.setIfInBounds_toArray, List.set_cons_zero, List.set_cons_succ])
  refine wpAnyH_take (i := 6) (oi := { dst := some 84, op := Op.load 4 (Operand.tmp 83), type := 4, pos := "head46.go:40", after := #[{ on := 5, ground := Ground.data }, { on := 12, ground := Ground.gcOnly Departure.lateStores }], guard := none }) (v := ?_) rfl (by kernel_rfl) (by kernel_rfl) (by kernel_rfl) (fun _ _ _ h => h) (Or.inl ⟨by rfl, ?_⟩) (by assumption) ?_
  rotate_left
  · (intro ww hSw; (try dsimp only at hSw); go_simp; try with_reducible rfl)
  (try simp only [Act.put, List.setIfInBounds_toArray, List.set_cons_zero, List.set_cons_succ])
  refine wpAnyH_take (i := 7) (oi := { dst := some 85, op := Op.fieldAddr 35 (Operand.tmp 12) 6, type := 0, pos := "head46.go:40", after := #[{ on := 0, ground := Ground.textOnly Departure.lateStores }, { on := 1, ground := Ground.textOnly Departure.lateStores }, { on := 2, ground := Ground.textOnly Departure.lateStores }, { on := 3, ground := Ground.textOnly Departure.lateStores }, { on := 4, ground := Ground.textOnly Departure.lateStores }, { on := 5, ground := Ground.textOnly Departure.lateStores }, { on := 6, ground := Ground.textOnly Departure.lateStores }], guard := none }) (v := ?_) rfl (by kernel_rfl) (by kernel_rfl) (by kernel_rfl) (fun _ _ _ h => h) (Or.inl ⟨by rfl, ?_⟩) (by assumption) ?_
  rotate_left
  · (intro ww hSw; (try dsimp only at hSw); go_simp; try with_reducible rfl)
  (try simp only [Act.put, List.setIfInBounds_toArray, List.set_cons_zero, List.set_cons_succ])
  refine wpAnyH_ready (rs := [8]) (by kernel_rfl) (by simp) ?_
  refine AllReadyH.cons (o := { dst := none, op := Op.store 4 (Operand.tmp 85) (Operand.const (Value.bool true)), type := 0, pos := "head46.go:40", after := #[{ on := 7, ground := Ground.data }, { on := 0, ground := Ground.textOnly Departure.lateStores }, { on := 1, ground := Ground.textOnly Departure.lateStores }, { on := 2, ground := Ground.textOnly Departure.lateStores }, { on := 3, ground := Ground.textOnly Departure.lateStores }, { on := 4, ground := Ground.textOnly Departure.lateStores }, { on := 5, ground := Ground.textOnly Departure.lateStores }, { on := 6, ground := Ground.textOnly Departure.lateStores }], guard := none }) rfl (fun K hK => ?_) AllReadyH.nil
  obtain ⟨u36, hu36, hz36⟩ := (And.left hHeld).there 36 (by omega)
  go_simp
  refine hK.out _ _ (HKR.out _ ((And.left hHeld).set HNE.out.1 HNE.out.2 36 _)) (fun hHeld => ?_)
  clear hK K
  (try simp only [Act.put])
  refine wpAnyH_take (i := 9) (oi := { dst := some 86, op := Op.fieldAddr 35 (Operand.tmp 12) 7, type := 0, pos := "head46.go:40", after := #[{ on := 0, ground := Ground.phase }, { on := 1, ground := Ground.phase }, { on := 2, ground := Ground.phase }, { on := 3, ground := Ground.textOnly Departure.lateStores }, { on := 4, ground := Ground.textOnly Departure.lateStores }, { on := 5, ground := Ground.textOnly Departure.lateStores }, { on := 6, ground := Ground.textOnly Departure.lateStores }, { on := 7, ground := Ground.phase }, { on := 8, ground := Ground.phase }], guard := none }) (v := ?_) rfl (by kernel_rfl) (by kernel_rfl) (by kernel_rfl) (fun _ _ _ h => h) (Or.inl ⟨by rfl, ?_⟩) (by assumption) ?_
  rotate_left
  · (intro ww hSw; (try dsimp only at hSw); go_simp; try with_reducible rfl)
  (try simp only [Act.put, List.setIfInBounds_toArray, List.set_cons_zero, List.set_cons_succ])
  refine wpAnyH_ready (rs := [10]) (by kernel_rfl) (by simp) ?_
  refine AllReadyH.cons (o := { dst := none, op := Op.store 30 (Operand.tmp 86) (Operand.tmp 80), type := 0, pos := "head46.go:40", after := #[{ on := 9, ground := Ground.data }, { on := 2, ground := Ground.data }, { on := 8, ground := Ground.chain }, { on := 0, ground := Ground.phase }, { on := 1, ground := Ground.phase }, { on := 2, ground := Ground.phase }, { on := 3, ground := Ground.textOnly Departure.lateStores }, { on := 4, ground := Ground.textOnly Departure.lateStores }, { on := 5, ground := Ground.textOnly Departure.lateStores }, { on := 6, ground := Ground.textOnly Departure.lateStores }, { on := 7, ground := Ground.phase }, { on := 8, ground := Ground.phase }], guard := none }) rfl (fun K hK => ?_) AllReadyH.nil
  obtain ⟨u37, hu37, hz37⟩ := (And.left hHeld).there 37 (by omega)
  go_simp
  refine hK.out _ _ (HKR.out _ ((And.left hHeld).set HNE.out.1 HNE.out.2 37 _)) (fun hHeld => ?_)
  clear hK K
  (try simp only [Act.put])
  refine wpAnyH_take (i := 11) (oi := { dst := some 87, op := Op.fieldAddr 35 (Operand.tmp 12) 8, type := 0, pos := "head46.go:40", after := #[{ on := 0, ground := Ground.phase }, { on := 1, ground := Ground.phase }, { on := 2, ground := Ground.phase }, { on := 3, ground := Ground.phase }, { on := 4, ground := Ground.phase }, { on := 5, ground := Ground.textOnly Departure.lateStores }, { on := 6, ground := Ground.textOnly Departure.lateStores }, { on := 7, ground := Ground.phase }, { on := 8, ground := Ground.phase }, { on := 9, ground := Ground.phase }, { on := 10, ground := Ground.phase }], guard := none }) (v := ?_) rfl (by kernel_rfl) (by kernel_rfl) (by kernel_rfl) (fun _ _ _ h => h) (Or.inl ⟨by rfl, ?_⟩) (by assumption) ?_
  rotate_left
  · (intro ww hSw; (try dsimp only at hSw); go_simp; try with_reducible rfl)
  (try simp only [Act.put, List.setIfInBounds_toArray, List.set_cons_zero, List.set_cons_succ])
  refine wpAnyH_ready (rs := [12]) (by kernel_rfl) (by simp) ?_
  refine AllReadyH.cons (o := { dst := none, op := Op.store 3 (Operand.tmp 87) (Operand.tmp 82), type := 0, pos := "head46.go:40", after := #[{ on := 11, ground := Ground.data }, { on := 4, ground := Ground.data }, { on := 10, ground := Ground.chain }, { on := 0, ground := Ground.phase }, { on := 1, ground := Ground.phase }, { on := 2, ground := Ground.phase }, { on := 3, ground := Ground.phase }, { on := 4, ground := Ground.phase }, { on := 5, ground := Ground.textOnly Departure.lateStores }, { on := 6, ground := Ground.textOnly Departure.lateStores }, { on := 7, ground := Ground.phase }, { on := 8, ground := Ground.phase }, { on := 9, ground := Ground.phase }, { on := 10, ground := Ground.phase }], guard := none }) rfl (fun K hK => ?_) AllReadyH.nil
  obtain ⟨u38, hu38, hz38⟩ := (And.left hHeld).there 38 (by omega)
  go_simp
  refine hK.out _ _ (HKR.out _ ((And.left hHeld).set HNE.out.1 HNE.out.2 38 _)) (fun hHeld => ?_)
  clear hK K
  (try simp only [Act.put])
  refine wpAnyH_take (i := 13) (oi := { dst := some 88, op := Op.fieldAddr 35 (Operand.tmp 12) 9, type := 0, pos := "head46.go:40", after := #[{ on := 0, ground := Ground.phase }, { on := 1, ground := Ground.phase }, { on := 2, ground := Ground.phase }, { on := 3, ground := Ground.phase }, { on := 4, ground := Ground.phase }, { on := 5, ground := Ground.phase }, { on := 6, ground := Ground.phase }, { on := 7, ground := Ground.phase }, { on := 8, ground := Ground.phase }, { on := 9, ground := Ground.phase }, { on := 10, ground := Ground.phase }, { on := 11, ground := Ground.phase }, { on := 12, ground := Ground.phase }], guard := none }) (v := ?_) rfl (by kernel_rfl) (by kernel_rfl) (by kernel_rfl) (fun _ _ _ h => h) (Or.inl ⟨by rfl, ?_⟩) (by assumption) ?_
  rotate_left
  · (intro ww hSw; (try dsimp only at hSw); go_simp; try with_reducible rfl)
  (try simp only [Act.put, List.setIfInBounds_toArray, List.set_cons_zero, List.set_cons_succ])
  refine wpAnyH_ready (rs := [14]) (by kernel_rfl) (by simp) ?_
  refine AllReadyH.cons (o := { dst := none, op := Op.store 4 (Operand.tmp 88) (Operand.tmp 84), type := 0, pos := "head46.go:40", after := #[{ on := 13, ground := Ground.data }, { on := 6, ground := Ground.data }, { on := 12, ground := Ground.chain }, { on := 0, ground := Ground.phase }, { on := 1, ground := Ground.phase }, { on := 2, ground := Ground.phase }, { on := 3, ground := Ground.phase }, { on := 4, ground := Ground.phase }, { on := 5, ground := Ground.phase }, { on := 6, ground := Ground.phase }, { on := 7, ground := Ground.phase }, { on := 8, ground := Ground.phase }, { on := 9, ground := Ground.phase }, { on := 10, ground := Ground.phase }, { on := 11, ground := Ground.phase }, { on := 12, ground := Ground.phase }], guard := none }) rfl (fun K hK => ?_) AllReadyH.nil
  obtain ⟨u39, hu39, hz39⟩ := (And.left hHeld).there 39 (by omega)
  go_simp
  refine hK.out _ _ (HKR.out _ ((And.left hHeld).set HNE.out.1 HNE.out.2 39 _)) (fun hHeld => ?_)
  clear hK K
  (try simp only [Act.put])
  refine wpAnyH_done (by kernel_rfl) ?_ _
  refine NoPanic.normal ?_
  have hkf := (((HK3.out.drew.set1 HNE.out.1 HNE.out.2 36 (.bool true)).set1 HNE.out.1 HNE.out.2 37 (.int .u32 (IntKind.u32.wrap p.id))).set1 HNE.out.1 HNE.out.2 38 (.int .i64 p.pl)).set1 HNE.out.1 HNE.out.2 39 (.bool false)
  rw [HS.out] at hkf
  have HK4 : Hid (Kp w w.heap.size [(g3, 35, V1), (w.heap.size + 1 + 1 + 1, 35, Z), (w.heap.size + 1 + 1, 32, VT), (w.heap.size + 1, 32, VF), (w.heap.size, 25, VP)] (((((w3.setCell ⟨g3, 36, none⟩ (.bool true)).setCell ⟨g3, 37, none⟩ (.int .u32 (IntKind.u32.wrap p.id))).setCell ⟨g3, 38, none⟩ (.int .i64 p.pl)).setCell ⟨g3, 39, none⟩ (.bool false)).drew)) := Lib.hid hkf
  clear hkf hHeld HK3 hu36 hu37 hu38 hu39 hz36 hz37 hz38 hz39 c1 c4 c6
  generalize ((((w3.setCell ⟨g3, 36, none⟩ (.bool true)).setCell ⟨g3, 37, none⟩ (.int .u32 (IntKind.u32.wrap p.id))).setCell ⟨g3, 38, none⟩ (.int .i64 p.pl)).setCell ⟨g3, 39, none⟩ (.bool false)).drew = w4 at *
  have hr0 := HK4.out.hd.range
  have hkc := HK4.out.tl.hd
  have htf : w4.there (w.heap.size + 1 + 1 + 1) 0 V1.toArray.size := hkc.there _ (by have := HL_V1.out; have := HL_Z.out; simp; omega)
  go_wp2_with (((with_reducible (change wpList _ _ _ _ _ _)); (first | (refine wpList_load_mid rfl 35 _ rfl (g3) 0 rfl (V1) _ hr0 Try.underlying35 rfl HI_V1.out ?_) | (refine wpList_store_mid rfl 35 _ _ rfl (w.heap.size + 1 + 1 + 1) 0 V1.toArray rfl rfl htf (by simpa using HI_V1.out) HO_V1.out ?_))))
  have hk5 := Bk.sets V1 0 _ _ hkc
  rw [puts_whole Z.toArray V1 (by have := HL_V1.out; have := HL_Z.out; simp; omega)] at hk5
  refine bodyPost_ret (v := .tuple #[.agg V1.toArray, .nilIface]) ?_ rfl ?_
  · exact results_cell2 rfl rfl rfl (run_loadVar_mid _ (w.heap.size + 1 + 1 + 1) 0 35 V1 _ hk5.range Try.underlying35 rfl HI_V1.out)
  · exact ⟨rfl, below_sets _ (by omega) 0 _ HK4.out.2.1⟩
end Go.Proofs.Ytkihhmnlefekoaa
