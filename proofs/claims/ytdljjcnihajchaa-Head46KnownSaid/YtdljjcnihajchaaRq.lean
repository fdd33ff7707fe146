/-
  Proved here: what the document's Head answers of a head that is out of range.
  Conditions: none.
  Proved here: what the document's Head answers of broken options, of a route, of a protocol that is none.
  Conditions: a text of at most 70000 bytes as options.
-/
import Derived.Test.YtdljjcnihajchaaExe
namespace Go.Proofs.Ytdljjcnihajchaa
open Go.RowKit

theorem Kp.some1 {w0 w : World} {B b : Nat} {T : TypeId} {V : List Value} {l : List (Nat × TypeId × List Value)} (h : Kp w0 B ((b, T, V) :: l) w) (i : Nat) (hi : i < V.length) : ∃ u, w.cell? ⟨b, i, none⟩ = some u ∧ w.frozen? ⟨b, i, none⟩ = false :=
  ⟨V[i], h.hd.at (List.getElem?_eq_getElem hi), h.hd.z i⟩
theorem Kp.sets1 {w0 w : World} {B b : Nat} {T : TypeId} {V V' : List Value} {l : List (Nat × TypeId × List Value)} (h : Kp w0 B ((b, T, V) :: l) w) (hne : ∀ x ∈ l, x.1 ≠ b) (hB : B ≤ b) (o : Nat) (vs : List Value) (hq : puts V.toArray o vs = V'.toArray) : Kp w0 B ((b, T, V') :: l) (w.setCells b o vs) := by
  have ht := h.tl.sets hne hB o vs
  refine ⟨fun x hx => ?_, ht.2⟩
  rcases List.mem_cons.1 hx with rfl | hx
  · have := Bk.sets vs o _ _ h.hd
    rw [hq] at this
    exact this
  · exact ht.1 x hx
set_option maxRecDepth 100000 in
set_option maxHeartbeats 4000000 in
theorem rhead_range_a (p : P4.Pkt) (F T : List UInt8) (hF : F.length = 16) (hT : T.length = 16) (w : World) (h0 : p.ttl < 2) :
    Calls Try.prog 11 #[.agg p.vals.toArray, .agg (bytV F).toArray, .agg (bytV T).toArray] w (fun e w' => e = .returned (.tuple #[.agg (pk0.vals (.slice none 0 0)).toArray, .int .i64 13]) ∧ Below w.heap.size w w') := by
  obtain ⟨Z, hZ⟩ : ∃ Z, Z = pk0.vals (.slice none 0 0) := ⟨_, rfl⟩
  have HBZ : Hid (∀ W, (Instr.build 27 #[]).run Try.prog W = .ok (.agg Z.toArray) W) := Lib.hid (fun W => by rw [hZ]; exact buildZ W)
  have HI_Z : Hid ((Try.prog.info? 27).map (·.size) = some Z.length) := Lib.hid (by rw [hZ]; exact Try.info6 _ _)
  have HO_Z : Hid (Z.toArray.all (·.oneCell') = true) := Lib.hid (by rw [hZ]; exact vals_one _ _ rfl)
  have HL_Z : Hid (Z.length = 42) := Lib.hid (by rw [hZ]; exact vals_len _ _)
  have hz0 : Z.toArray = #[.int .i64 0, .int .i64 0, .int .i64 0, .int .u8 0, .int .u8 0, .int .u8 0, .int .u8 0, .int .u8 0, .int .u8 0, .int .u8 0, .int .u8 0, .int .u8 0, .int .u8 0, .int .u8 0, .int .u8 0, .int .u8 0, .int .u8 0, .int .u8 0, .int .u8 0, .int .u8 0, .int .u8 0, .int .u8 0, .int .u8 0, .int .u8 0, .int .u8 0, .int .u8 0, .int .u8 0, .int .u8 0, .int .u8 0, .int .u8 0, .int .u8 0, .int .u8 0, .int .u8 0, .int .u8 0, .int .u8 0, .slice none 0 0, .bool false, .int .u32 0, .int .i64 0, .bool false, .int .i64 0, .string ⟨#[]⟩] := by rw [hZ]; exact pk0_vals
  have HZ := Lib.hid hZ
  have HZ0 := Lib.hid hz0
  clear hZ
  have HI_VP : Hid ((Try.prog.info? 35).map (·.size) = some (p.vals).length) := Lib.hid (P4.Try.infoIp _)
  have HO_VP : Hid ((p.vals).toArray.all (·.oneCell') = true) := Lib.hid (P4.vals_one _)
  have HL_VP : Hid ((p.vals).length = 17) := Lib.hid rfl
  have HI_VF : Hid ((Try.prog.info? 23).map (·.size) = some (bytV F).length) := Lib.hid (Try.infoV6 _ hF)
  have HO_VF : Hid ((bytV F).toArray.all (·.oneCell') = true) := Lib.hid (by rw [List.all_toArray, List.all_eq_true]; exact bytV_one _)
  have HL_VF : Hid ((bytV F).length = 16) := Lib.hid (by rw [bytV_len]; exact hF)
  have HI_VT : Hid ((Try.prog.info? 23).map (·.size) = some (bytV T).length) := Lib.hid (Try.infoV6 _ hT)
  have HO_VT : Hid ((bytV T).toArray.all (·.oneCell') = true) := Lib.hid (by rw [List.all_toArray, List.all_eq_true]; exact bytV_one _)
  have HL_VT : Hid ((bytV T).length = 16) := Lib.hid (by rw [bytV_len]; exact hT)
  have HC_VP_0 : Hid (p.vals[0]? = some (.int .i64 p.tos)) := Lib.hid rfl
  have HC_VP_1 : Hid (p.vals[1]? = some (.int .i64 p.id)) := Lib.hid rfl
  have HC_VP_2 : Hid (p.vals[2]? = some (.int .i64 p.ttl)) := Lib.hid rfl
  have HC_VP_3 : Hid (p.vals[3]? = some (.int .i64 p.proto)) := Lib.hid rfl
  have HC_VP_4 : Hid (p.vals[4]? = some (.int .i64 p.pl)) := Lib.hid rfl
  have HC_VP_5 : Hid (p.vals[5]? = some (.bool p.df)) := Lib.hid rfl
  have HC_VP_6 : Hid (p.vals[6]? = some (.bool p.more)) := Lib.hid rfl
  have HC_VP_15 : Hid (p.vals[15]? = some (.string p.opts)) := Lib.hid rfl
  have HC_VP_16 : Hid (p.vals[16]? = some (.string p.data)) := Lib.hid rfl
  have HK1 : Hid (Kp w w.heap.size [(w.heap.size + 1 + 1 + 1, 27, Z), (w.heap.size + 1 + 1, 23, bytV T), (w.heap.size + 1, 23, bytV F), (w.heap.size, 35, p.vals)] ((((w.alloc (.cells p.vals.toArray 35)).alloc (.cells (bytV F).toArray 23)).alloc (.cells (bytV T).toArray 23)).alloc (.cells Z.toArray 27))) := Lib.hid (by
    have h := (((Kp.start w).new 35 p.vals).new 23 (bytV F)).new 23 (bytV T)
    have e1 : (w.alloc (.cells p.vals.toArray 35)).heap.size = w.heap.size + 1 := by simp
    have e2 : ((w.alloc (.cells p.vals.toArray 35)).alloc (.cells (bytV F).toArray 23)).heap.size = w.heap.size + 1 + 1 := by simp
    have e3 : (((w.alloc (.cells p.vals.toArray 35)).alloc (.cells (bytV F).toArray 23)).alloc (.cells (bytV T).toArray 23)).heap.size = w.heap.size + 1 + 1 + 1 := by simp
    rw [e1, e2] at h
    have h2 := h.new 27 Z
    rwa [e3] at h2)
  generalize p.vals = VP at *
  generalize bytV F = VF at *
  generalize bytV T = VT at *
  generalize hw1 : (((w.alloc (.cells VP.toArray 35)).alloc (.cells VF.toArray 23)).alloc (.cells VT.toArray 23)).alloc (.cells Z.toArray 27) = w1 at *
  rw [hz0] at hw1
  go_enter Try.func11, Try.ntmps11
  go_upto_region 1 with (fail)
  clear hw1 hz0
  have ht := (bk_new w1 27 ([.int .i64 0, .int .i64 0, .int .i64 0, .int .u8 0, .int .u8 0, .int .u8 0, .int .u8 0, .int .u8 0, .int .u8 0, .int .u8 0, .int .u8 0, .int .u8 0, .int .u8 0, .int .u8 0, .int .u8 0, .int .u8 0, .int .u8 0, .int .u8 0, .int .u8 0, .int .u8 0, .int .u8 0, .int .u8 0, .int .u8 0, .int .u8 0, .int .u8 0, .int .u8 0, .int .u8 0, .int .u8 0, .int .u8 0, .int .u8 0, .int .u8 0, .int .u8 0, .int .u8 0, .int .u8 0, .int .u8 0, .slice none 0 0, .bool false, .int .u32 0, .int .i64 0, .bool false, .int .i64 0, .string ⟨#[]⟩] : List Value).toArray).there Z.toArray.size (by have := HL_Z.out; simp; omega)
  go_upto_region 2 with (((with_reducible (change wpList _ _ _ _ _ _)); (first | (refine Great.wpList_readTo rfl _ rfl (.agg Z.toArray) (run_execN (T := 27) (l := #[]) (m := #[]) rfl (by simp) (HBZ.out _)) ?_) | (refine wpList_store_mid rfl 27 _ _ rfl (w1.heap.size) 0 Z.toArray rfl rfl ht (by simpa using HI_Z.out) HO_Z.out ?_))))
  have HK2 := Lib.hid (HK1.out.put 27 ([.int .i64 0, .int .i64 0, .int .i64 0, .int .u8 0, .int .u8 0, .int .u8 0, .int .u8 0, .int .u8 0, .int .u8 0, .int .u8 0, .int .u8 0, .int .u8 0, .int .u8 0, .int .u8 0, .int .u8 0, .int .u8 0, .int .u8 0, .int .u8 0, .int .u8 0, .int .u8 0, .int .u8 0, .int .u8 0, .int .u8 0, .int .u8 0, .int .u8 0, .int .u8 0, .int .u8 0, .int .u8 0, .int .u8 0, .int .u8 0, .int .u8 0, .int .u8 0, .int .u8 0, .int .u8 0, .int .u8 0, .slice none 0 0, .bool false, .int .u32 0, .int .i64 0, .bool false, .int .i64 0, .string ⟨#[]⟩] : List Value).toArray Z (by have := HL_Z.out; simp; omega))
  clear ht HK1
  generalize (w1.alloc (.cells ([.int .i64 0, .int .i64 0, .int .i64 0, .int .u8 0, .int .u8 0, .int .u8 0, .int .u8 0, .int .u8 0, .int .u8 0, .int .u8 0, .int .u8 0, .int .u8 0, .int .u8 0, .int .u8 0, .int .u8 0, .int .u8 0, .int .u8 0, .int .u8 0, .int .u8 0, .int .u8 0, .int .u8 0, .int .u8 0, .int .u8 0, .int .u8 0, .int .u8 0, .int .u8 0, .int .u8 0, .int .u8 0, .int .u8 0, .int .u8 0, .int .u8 0, .int .u8 0, .int .u8 0, .int .u8 0, .int .u8 0, .slice none 0 0, .bool false, .int .u32 0, .int .i64 0, .bool false, .int .i64 0, .string ⟨#[]⟩] : List Value).toArray 27)).setCells w1.heap.size 0 Z = w2 at *
  generalize w1.heap.size = g0 at *
  have c2 : w2.cell? ⟨w.heap.size, 2, none⟩ = some (.int .i64 p.ttl) := HK2.out.tl.tl.tl.tl.hd.at HC_VP_2.out
  go_upto_region 3 with (fail)
  have hr0 := HK2.out.hd.range
  have hkc := HK2.out.tl.hd
  have htf : w2.there (w.heap.size + 1 + 1 + 1) 0 Z.toArray.size := hkc.there _ (Nat.le_refl _)
  go_wp2_with (((with_reducible (change wpList _ _ _ _ _ _)); (first | (refine wpList_load_mid rfl 27 _ rfl (g0) 0 rfl (Z) _ hr0 Try.underlying27 rfl HI_Z.out ?_) | (refine wpList_store_mid rfl 27 _ _ rfl (w.heap.size + 1 + 1 + 1) 0 Z.toArray rfl rfl htf (by simpa using HI_Z.out) HO_Z.out ?_))))
  have hk5 := Bk.sets Z 0 _ _ hkc
  rw [puts_whole Z.toArray Z (by simp)] at hk5
  refine bodyPost_ret (v := .tuple #[.agg Z.toArray, .int .i64 13]) ?_ rfl ?_
  · exact results_cell2 rfl rfl rfl (run_loadVar_mid _ (w.heap.size + 1 + 1 + 1) 0 27 Z _ hk5.range Try.underlying27 rfl HI_Z.out)
  · exact ⟨by rw [HZ.out], below_sets _ (by omega) 0 _ HK2.out.2.1⟩
set_option maxRecDepth 100000 in
set_option maxHeartbeats 4000000 in
theorem rhead_range_b (p : P4.Pkt) (F T : List UInt8) (hF : F.length = 16) (hT : T.length = 16) (w : World) (h0 : ¬ p.ttl < 2) (h1 : 255 < p.ttl) :
    Calls Try.prog 11 #[.agg p.vals.toArray, .agg (bytV F).toArray, .agg (bytV T).toArray] w (fun e w' => e = .returned (.tuple #[.agg (pk0.vals (.slice none 0 0)).toArray, .int .i64 13]) ∧ Below w.heap.size w w') := by
  obtain ⟨Z, hZ⟩ : ∃ Z, Z = pk0.vals (.slice none 0 0) := ⟨_, rfl⟩
  have HBZ : Hid (∀ W, (Instr.build 27 #[]).run Try.prog W = .ok (.agg Z.toArray) W) := Lib.hid (fun W => by rw [hZ]; exact buildZ W)
  have HI_Z : Hid ((Try.prog.info? 27).map (·.size) = some Z.length) := Lib.hid (by rw [hZ]; exact Try.info6 _ _)
  have HO_Z : Hid (Z.toArray.all (·.oneCell') = true) := Lib.hid (by rw [hZ]; exact vals_one _ _ rfl)
  have HL_Z : Hid (Z.length = 42) := Lib.hid (by rw [hZ]; exact vals_len _ _)
  have hz0 : Z.toArray = #[.int .i64 0, .int .i64 0, .int .i64 0, .int .u8 0, .int .u8 0, .int .u8 0, .int .u8 0, .int .u8 0, .int .u8 0, .int .u8 0, .int .u8 0, .int .u8 0, .int .u8 0, .int .u8 0, .int .u8 0, .int .u8 0, .int .u8 0, .int .u8 0, .int .u8 0, .int .u8 0, .int .u8 0, .int .u8 0, .int .u8 0, .int .u8 0, .int .u8 0, .int .u8 0, .int .u8 0, .int .u8 0, .int .u8 0, .int .u8 0, .int .u8 0, .int .u8 0, .int .u8 0, .int .u8 0, .int .u8 0, .slice none 0 0, .bool false, .int .u32 0, .int .i64 0, .bool false, .int .i64 0, .string ⟨#[]⟩] := by rw [hZ]; exact pk0_vals
  have HZ := Lib.hid hZ
  have HZ0 := Lib.hid hz0
  clear hZ
  have HI_VP : Hid ((Try.prog.info? 35).map (·.size) = some (p.vals).length) := Lib.hid (P4.Try.infoIp _)
  have HO_VP : Hid ((p.vals).toArray.all (·.oneCell') = true) := Lib.hid (P4.vals_one _)
  have HL_VP : Hid ((p.vals).length = 17) := Lib.hid rfl
  have HI_VF : Hid ((Try.prog.info? 23).map (·.size) = some (bytV F).length) := Lib.hid (Try.infoV6 _ hF)
  have HO_VF : Hid ((bytV F).toArray.all (·.oneCell') = true) := Lib.hid (by rw [List.all_toArray, List.all_eq_true]; exact bytV_one _)
  have HL_VF : Hid ((bytV F).length = 16) := Lib.hid (by rw [bytV_len]; exact hF)
  have HI_VT : Hid ((Try.prog.info? 23).map (·.size) = some (bytV T).length) := Lib.hid (Try.infoV6 _ hT)
  have HO_VT : Hid ((bytV T).toArray.all (·.oneCell') = true) := Lib.hid (by rw [List.all_toArray, List.all_eq_true]; exact bytV_one _)
  have HL_VT : Hid ((bytV T).length = 16) := Lib.hid (by rw [bytV_len]; exact hT)
  have HC_VP_0 : Hid (p.vals[0]? = some (.int .i64 p.tos)) := Lib.hid rfl
  have HC_VP_1 : Hid (p.vals[1]? = some (.int .i64 p.id)) := Lib.hid rfl
  have HC_VP_2 : Hid (p.vals[2]? = some (.int .i64 p.ttl)) := Lib.hid rfl
  have HC_VP_3 : Hid (p.vals[3]? = some (.int .i64 p.proto)) := Lib.hid rfl
  have HC_VP_4 : Hid (p.vals[4]? = some (.int .i64 p.pl)) := Lib.hid rfl
  have HC_VP_5 : Hid (p.vals[5]? = some (.bool p.df)) := Lib.hid rfl
  have HC_VP_6 : Hid (p.vals[6]? = some (.bool p.more)) := Lib.hid rfl
  have HC_VP_15 : Hid (p.vals[15]? = some (.string p.opts)) := Lib.hid rfl
  have HC_VP_16 : Hid (p.vals[16]? = some (.string p.data)) := Lib.hid rfl
  have HK1 : Hid (Kp w w.heap.size [(w.heap.size + 1 + 1 + 1, 27, Z), (w.heap.size + 1 + 1, 23, bytV T), (w.heap.size + 1, 23, bytV F), (w.heap.size, 35, p.vals)] ((((w.alloc (.cells p.vals.toArray 35)).alloc (.cells (bytV F).toArray 23)).alloc (.cells (bytV T).toArray 23)).alloc (.cells Z.toArray 27))) := Lib.hid (by
    have h := (((Kp.start w).new 35 p.vals).new 23 (bytV F)).new 23 (bytV T)
    have e1 : (w.alloc (.cells p.vals.toArray 35)).heap.size = w.heap.size + 1 := by simp
    have e2 : ((w.alloc (.cells p.vals.toArray 35)).alloc (.cells (bytV F).toArray 23)).heap.size = w.heap.size + 1 + 1 := by simp
    have e3 : (((w.alloc (.cells p.vals.toArray 35)).alloc (.cells (bytV F).toArray 23)).alloc (.cells (bytV T).toArray 23)).heap.size = w.heap.size + 1 + 1 + 1 := by simp
    rw [e1, e2] at h
    have h2 := h.new 27 Z
    rwa [e3] at h2)
  generalize p.vals = VP at *
  generalize bytV F = VF at *
  generalize bytV T = VT at *
  generalize hw1 : (((w.alloc (.cells VP.toArray 35)).alloc (.cells VF.toArray 23)).alloc (.cells VT.toArray 23)).alloc (.cells Z.toArray 27) = w1 at *
  rw [hz0] at hw1
  go_enter Try.func11, Try.ntmps11
  go_upto_region 1 with (fail)
  clear hw1 hz0
  have ht := (bk_new w1 27 ([.int .i64 0, .int .i64 0, .int .i64 0, .int .u8 0, .int .u8 0, .int .u8 0, .int .u8 0, .int .u8 0, .int .u8 0, .int .u8 0, .int .u8 0, .int .u8 0, .int .u8 0, .int .u8 0, .int .u8 0, .int .u8 0, .int .u8 0, .int .u8 0, .int .u8 0, .int .u8 0, .int .u8 0, .int .u8 0, .int .u8 0, .int .u8 0, .int .u8 0, .int .u8 0, .int .u8 0, .int .u8 0, .int .u8 0, .int .u8 0, .int .u8 0, .int .u8 0, .int .u8 0, .int .u8 0, .int .u8 0, .slice none 0 0, .bool false, .int .u32 0, .int .i64 0, .bool false, .int .i64 0, .string ⟨#[]⟩] : List Value).toArray).there Z.toArray.size (by have := HL_Z.out; simp; omega)
  go_upto_region 2 with (((with_reducible (change wpList _ _ _ _ _ _)); (first | (refine Great.wpList_readTo rfl _ rfl (.agg Z.toArray) (run_execN (T := 27) (l := #[]) (m := #[]) rfl (by simp) (HBZ.out _)) ?_) | (refine wpList_store_mid rfl 27 _ _ rfl (w1.heap.size) 0 Z.toArray rfl rfl ht (by simpa using HI_Z.out) HO_Z.out ?_))))
  have HK2 := Lib.hid (HK1.out.put 27 ([.int .i64 0, .int .i64 0, .int .i64 0, .int .u8 0, .int .u8 0, .int .u8 0, .int .u8 0, .int .u8 0, .int .u8 0, .int .u8 0, .int .u8 0, .int .u8 0, .int .u8 0, .int .u8 0, .int .u8 0, .int .u8 0, .int .u8 0, .int .u8 0, .int .u8 0, .int .u8 0, .int .u8 0, .int .u8 0, .int .u8 0, .int .u8 0, .int .u8 0, .int .u8 0, .int .u8 0, .int .u8 0, .int .u8 0, .int .u8 0, .int .u8 0, .int .u8 0, .int .u8 0, .int .u8 0, .int .u8 0, .slice none 0 0, .bool false, .int .u32 0, .int .i64 0, .bool false, .int .i64 0, .string ⟨#[]⟩] : List Value).toArray Z (by have := HL_Z.out; simp; omega))
  clear ht HK1
  generalize (w1.alloc (.cells ([.int .i64 0, .int .i64 0, .int .i64 0, .int .u8 0, .int .u8 0, .int .u8 0, .int .u8 0, .int .u8 0, .int .u8 0, .int .u8 0, .int .u8 0, .int .u8 0, .int .u8 0, .int .u8 0, .int .u8 0, .int .u8 0, .int .u8 0, .int .u8 0, .int .u8 0, .int .u8 0, .int .u8 0, .int .u8 0, .int .u8 0, .int .u8 0, .int .u8 0, .int .u8 0, .int .u8 0, .int .u8 0, .int .u8 0, .int .u8 0, .int .u8 0, .int .u8 0, .int .u8 0, .int .u8 0, .int .u8 0, .slice none 0 0, .bool false, .int .u32 0, .int .i64 0, .bool false, .int .i64 0, .string ⟨#[]⟩] : List Value).toArray 27)).setCells w1.heap.size 0 Z = w2 at *
  generalize w1.heap.size = g0 at *
  have c2 : w2.cell? ⟨w.heap.size, 2, none⟩ = some (.int .i64 p.ttl) := HK2.out.tl.tl.tl.tl.hd.at HC_VP_2.out
  go_upto_region 3 with (fail)
  have hr0 := HK2.out.hd.range
  have hkc := HK2.out.tl.hd
  have htf : w2.there (w.heap.size + 1 + 1 + 1) 0 Z.toArray.size := hkc.there _ (Nat.le_refl _)
  go_wp2_with (((with_reducible (change wpList _ _ _ _ _ _)); (first | (refine wpList_load_mid rfl 27 _ rfl (g0) 0 rfl (Z) _ hr0 Try.underlying27 rfl HI_Z.out ?_) | (refine wpList_store_mid rfl 27 _ _ rfl (w.heap.size + 1 + 1 + 1) 0 Z.toArray rfl rfl htf (by simpa using HI_Z.out) HO_Z.out ?_))))
  have hk5 := Bk.sets Z 0 _ _ hkc
  rw [puts_whole Z.toArray Z (by simp)] at hk5
  refine bodyPost_ret (v := .tuple #[.agg Z.toArray, .int .i64 13]) ?_ rfl ?_
  · exact results_cell2 rfl rfl rfl (run_loadVar_mid _ (w.heap.size + 1 + 1 + 1) 0 27 Z _ hk5.range Try.underlying27 rfl HI_Z.out)
  · exact ⟨by rw [HZ.out], below_sets _ (by omega) 0 _ HK2.out.2.1⟩
set_option maxRecDepth 100000 in
set_option maxHeartbeats 4000000 in
theorem rhead_range_c (p : P4.Pkt) (F T : List UInt8) (hF : F.length = 16) (hT : T.length = 16) (w : World) (h0 : ¬ p.ttl < 2) (h1 : ¬ 255 < p.ttl) (h2 : p.tos < 0) :
    Calls Try.prog 11 #[.agg p.vals.toArray, .agg (bytV F).toArray, .agg (bytV T).toArray] w (fun e w' => e = .returned (.tuple #[.agg (pk0.vals (.slice none 0 0)).toArray, .int .i64 13]) ∧ Below w.heap.size w w') := by
  obtain ⟨Z, hZ⟩ : ∃ Z, Z = pk0.vals (.slice none 0 0) := ⟨_, rfl⟩
  have HBZ : Hid (∀ W, (Instr.build 27 #[]).run Try.prog W = .ok (.agg Z.toArray) W) := Lib.hid (fun W => by rw [hZ]; exact buildZ W)
  have HI_Z : Hid ((Try.prog.info? 27).map (·.size) = some Z.length) := Lib.hid (by rw [hZ]; exact Try.info6 _ _)
  have HO_Z : Hid (Z.toArray.all (·.oneCell') = true) := Lib.hid (by rw [hZ]; exact vals_one _ _ rfl)
  have HL_Z : Hid (Z.length = 42) := Lib.hid (by rw [hZ]; exact vals_len _ _)
  have hz0 : Z.toArray = #[.int .i64 0, .int .i64 0, .int .i64 0, .int .u8 0, .int .u8 0, .int .u8 0, .int .u8 0, .int .u8 0, .int .u8 0, .int .u8 0, .int .u8 0, .int .u8 0, .int .u8 0, .int .u8 0, .int .u8 0, .int .u8 0, .int .u8 0, .int .u8 0, .int .u8 0, .int .u8 0, .int .u8 0, .int .u8 0, .int .u8 0, .int .u8 0, .int .u8 0, .int .u8 0, .int .u8 0, .int .u8 0, .int .u8 0, .int .u8 0, .int .u8 0, .int .u8 0, .int .u8 0, .int .u8 0, .int .u8 0, .slice none 0 0, .bool false, .int .u32 0, .int .i64 0, .bool false, .int .i64 0, .string ⟨#[]⟩] := by rw [hZ]; exact pk0_vals
  have HZ := Lib.hid hZ
  have HZ0 := Lib.hid hz0
  clear hZ
  have HI_VP : Hid ((Try.prog.info? 35).map (·.size) = some (p.vals).length) := Lib.hid (P4.Try.infoIp _)
  have HO_VP : Hid ((p.vals).toArray.all (·.oneCell') = true) := Lib.hid (P4.vals_one _)
  have HL_VP : Hid ((p.vals).length = 17) := Lib.hid rfl
  have HI_VF : Hid ((Try.prog.info? 23).map (·.size) = some (bytV F).length) := Lib.hid (Try.infoV6 _ hF)
  have HO_VF : Hid ((bytV F).toArray.all (·.oneCell') = true) := Lib.hid (by rw [List.all_toArray, List.all_eq_true]; exact bytV_one _)
  have HL_VF : Hid ((bytV F).length = 16) := Lib.hid (by rw [bytV_len]; exact hF)
  have HI_VT : Hid ((Try.prog.info? 23).map (·.size) = some (bytV T).length) := Lib.hid (Try.infoV6 _ hT)
  have HO_VT : Hid ((bytV T).toArray.all (·.oneCell') = true) := Lib.hid (by rw [List.all_toArray, List.all_eq_true]; exact bytV_one _)
  have HL_VT : Hid ((bytV T).length = 16) := Lib.hid (by rw [bytV_len]; exact hT)
  have HC_VP_0 : Hid (p.vals[0]? = some (.int .i64 p.tos)) := Lib.hid rfl
  have HC_VP_1 : Hid (p.vals[1]? = some (.int .i64 p.id)) := Lib.hid rfl
  have HC_VP_2 : Hid (p.vals[2]? = some (.int .i64 p.ttl)) := Lib.hid rfl
  have HC_VP_3 : Hid (p.vals[3]? = some (.int .i64 p.proto)) := Lib.hid rfl
  have HC_VP_4 : Hid (p.vals[4]? = some (.int .i64 p.pl)) := Lib.hid rfl
  have HC_VP_5 : Hid (p.vals[5]? = some (.bool p.df)) := Lib.hid rfl
  have HC_VP_6 : Hid (p.vals[6]? = some (.bool p.more)) := Lib.hid rfl
  have HC_VP_15 : Hid (p.vals[15]? = some (.string p.opts)) := Lib.hid rfl
  have HC_VP_16 : Hid (p.vals[16]? = some (.string p.data)) := Lib.hid rfl
  have HK1 : Hid (Kp w w.heap.size [(w.heap.size + 1 + 1 + 1, 27, Z), (w.heap.size + 1 + 1, 23, bytV T), (w.heap.size + 1, 23, bytV F), (w.heap.size, 35, p.vals)] ((((w.alloc (.cells p.vals.toArray 35)).alloc (.cells (bytV F).toArray 23)).alloc (.cells (bytV T).toArray 23)).alloc (.cells Z.toArray 27))) := Lib.hid (by
    have h := (((Kp.start w).new 35 p.vals).new 23 (bytV F)).new 23 (bytV T)
    have e1 : (w.alloc (.cells p.vals.toArray 35)).heap.size = w.heap.size + 1 := by simp
    have e2 : ((w.alloc (.cells p.vals.toArray 35)).alloc (.cells (bytV F).toArray 23)).heap.size = w.heap.size + 1 + 1 := by simp
    have e3 : (((w.alloc (.cells p.vals.toArray 35)).alloc (.cells (bytV F).toArray 23)).alloc (.cells (bytV T).toArray 23)).heap.size = w.heap.size + 1 + 1 + 1 := by simp
    rw [e1, e2] at h
    have h2 := h.new 27 Z
    rwa [e3] at h2)
  generalize p.vals = VP at *
  generalize bytV F = VF at *
  generalize bytV T = VT at *
  generalize hw1 : (((w.alloc (.cells VP.toArray 35)).alloc (.cells VF.toArray 23)).alloc (.cells VT.toArray 23)).alloc (.cells Z.toArray 27) = w1 at *
  rw [hz0] at hw1
  go_enter Try.func11, Try.ntmps11
  go_upto_region 1 with (fail)
  clear hw1 hz0
  have ht := (bk_new w1 27 ([.int .i64 0, .int .i64 0, .int .i64 0, .int .u8 0, .int .u8 0, .int .u8 0, .int .u8 0, .int .u8 0, .int .u8 0, .int .u8 0, .int .u8 0, .int .u8 0, .int .u8 0, .int .u8 0, .int .u8 0, .int .u8 0, .int .u8 0, .int .u8 0, .int .u8 0, .int .u8 0, .int .u8 0, .int .u8 0, .int .u8 0, .int .u8 0, .int .u8 0, .int .u8 0, .int .u8 0, .int .u8 0, .int .u8 0, .int .u8 0, .int .u8 0, .int .u8 0, .int .u8 0, .int .u8 0, .int .u8 0, .slice none 0 0, .bool false, .int .u32 0, .int .i64 0, .bool false, .int .i64 0, .string ⟨#[]⟩] : List Value).toArray).there Z.toArray.size (by have := HL_Z.out; simp; omega)
  go_upto_region 2 with (((with_reducible (change wpList _ _ _ _ _ _)); (first | (refine Great.wpList_readTo rfl _ rfl (.agg Z.toArray) (run_execN (T := 27) (l := #[]) (m := #[]) rfl (by simp) (HBZ.out _)) ?_) | (refine wpList_store_mid rfl 27 _ _ rfl (w1.heap.size) 0 Z.toArray rfl rfl ht (by simpa using HI_Z.out) HO_Z.out ?_))))
  have HK2 := Lib.hid (HK1.out.put 27 ([.int .i64 0, .int .i64 0, .int .i64 0, .int .u8 0, .int .u8 0, .int .u8 0, .int .u8 0, .int .u8 0, .int .u8 0, .int .u8 0, .int .u8 0, .int .u8 0, .int .u8 0, .int .u8 0, .int .u8 0, .int .u8 0, .int .u8 0, .int .u8 0, .int .u8 0, .int .u8 0, .int .u8 0, .int .u8 0, .int .u8 0, .int .u8 0, .int .u8 0, .int .u8 0, .int .u8 0, .int .u8 0, .int .u8 0, .int .u8 0, .int .u8 0, .int .u8 0, .int .u8 0, .int .u8 0, .int .u8 0, .slice none 0 0, .bool false, .int .u32 0, .int .i64 0, .bool false, .int .i64 0, .string ⟨#[]⟩] : List Value).toArray Z (by have := HL_Z.out; simp; omega))
  clear ht HK1
  generalize (w1.alloc (.cells ([.int .i64 0, .int .i64 0, .int .i64 0, .int .u8 0, .int .u8 0, .int .u8 0, .int .u8 0, .int .u8 0, .int .u8 0, .int .u8 0, .int .u8 0, .int .u8 0, .int .u8 0, .int .u8 0, .int .u8 0, .int .u8 0, .int .u8 0, .int .u8 0, .int .u8 0, .int .u8 0, .int .u8 0, .int .u8 0, .int .u8 0, .int .u8 0, .int .u8 0, .int .u8 0, .int .u8 0, .int .u8 0, .int .u8 0, .int .u8 0, .int .u8 0, .int .u8 0, .int .u8 0, .int .u8 0, .int .u8 0, .slice none 0 0, .bool false, .int .u32 0, .int .i64 0, .bool false, .int .i64 0, .string ⟨#[]⟩] : List Value).toArray 27)).setCells w1.heap.size 0 Z = w2 at *
  generalize w1.heap.size = g0 at *
  have c2 : w2.cell? ⟨w.heap.size, 2, none⟩ = some (.int .i64 p.ttl) := HK2.out.tl.tl.tl.tl.hd.at HC_VP_2.out
  have c0 : w2.cell? ⟨w.heap.size, 0, none⟩ = some (.int .i64 p.tos) := HK2.out.tl.tl.tl.tl.hd.at HC_VP_0.out
  go_upto_region 3 with (fail)
  have hr0 := HK2.out.hd.range
  have hkc := HK2.out.tl.hd
  have htf : w2.there (w.heap.size + 1 + 1 + 1) 0 Z.toArray.size := hkc.there _ (Nat.le_refl _)
  go_wp2_with (((with_reducible (change wpList _ _ _ _ _ _)); (first | (refine wpList_load_mid rfl 27 _ rfl (g0) 0 rfl (Z) _ hr0 Try.underlying27 rfl HI_Z.out ?_) | (refine wpList_store_mid rfl 27 _ _ rfl (w.heap.size + 1 + 1 + 1) 0 Z.toArray rfl rfl htf (by simpa using HI_Z.out) HO_Z.out ?_))))
  have hk5 := Bk.sets Z 0 _ _ hkc
  rw [puts_whole Z.toArray Z (by simp)] at hk5
  refine bodyPost_ret (v := .tuple #[.agg Z.toArray, .int .i64 13]) ?_ rfl ?_
  · exact results_cell2 rfl rfl rfl (run_loadVar_mid _ (w.heap.size + 1 + 1 + 1) 0 27 Z _ hk5.range Try.underlying27 rfl HI_Z.out)
  · exact ⟨by rw [HZ.out], below_sets _ (by omega) 0 _ HK2.out.2.1⟩
set_option maxRecDepth 100000 in
set_option maxHeartbeats 4000000 in
theorem rhead_range_d (p : P4.Pkt) (F T : List UInt8) (hF : F.length = 16) (hT : T.length = 16) (w : World) (h0 : ¬ p.ttl < 2) (h1 : ¬ 255 < p.ttl) (h2 : ¬ p.tos < 0) (h3 : 255 < p.tos) :
    Calls Try.prog 11 #[.agg p.vals.toArray, .agg (bytV F).toArray, .agg (bytV T).toArray] w (fun e w' => e = .returned (.tuple #[.agg (pk0.vals (.slice none 0 0)).toArray, .int .i64 13]) ∧ Below w.heap.size w w') := by
  obtain ⟨Z, hZ⟩ : ∃ Z, Z = pk0.vals (.slice none 0 0) := ⟨_, rfl⟩
  have HBZ : Hid (∀ W, (Instr.build 27 #[]).run Try.prog W = .ok (.agg Z.toArray) W) := Lib.hid (fun W => by rw [hZ]; exact buildZ W)
  have HI_Z : Hid ((Try.prog.info? 27).map (·.size) = some Z.length) := Lib.hid (by rw [hZ]; exact Try.info6 _ _)
  have HO_Z : Hid (Z.toArray.all (·.oneCell') = true) := Lib.hid (by rw [hZ]; exact vals_one _ _ rfl)
  have HL_Z : Hid (Z.length = 42) := Lib.hid (by rw [hZ]; exact vals_len _ _)
  have hz0 : Z.toArray = #[.int .i64 0, .int .i64 0, .int .i64 0, .int .u8 0, .int .u8 0, .int .u8 0, .int .u8 0, .int .u8 0, .int .u8 0, .int .u8 0, .int .u8 0, .int .u8 0, .int .u8 0, .int .u8 0, .int .u8 0, .int .u8 0, .int .u8 0, .int .u8 0, .int .u8 0, .int .u8 0, .int .u8 0, .int .u8 0, .int .u8 0, .int .u8 0, .int .u8 0, .int .u8 0, .int .u8 0, .int .u8 0, .int .u8 0, .int .u8 0, .int .u8 0, .int .u8 0, .int .u8 0, .int .u8 0, .int .u8 0, .slice none 0 0, .bool false, .int .u32 0, .int .i64 0, .bool false, .int .i64 0, .string ⟨#[]⟩] := by rw [hZ]; exact pk0_vals
  have HZ := Lib.hid hZ
  have HZ0 := Lib.hid hz0
  clear hZ
  have HI_VP : Hid ((Try.prog.info? 35).map (·.size) = some (p.vals).length) := Lib.hid (P4.Try.infoIp _)
  have HO_VP : Hid ((p.vals).toArray.all (·.oneCell') = true) := Lib.hid (P4.vals_one _)
  have HL_VP : Hid ((p.vals).length = 17) := Lib.hid rfl
  have HI_VF : Hid ((Try.prog.info? 23).map (·.size) = some (bytV F).length) := Lib.hid (Try.infoV6 _ hF)
  have HO_VF : Hid ((bytV F).toArray.all (·.oneCell') = true) := Lib.hid (by rw [List.all_toArray, List.all_eq_true]; exact bytV_one _)
  have HL_VF : Hid ((bytV F).length = 16) := Lib.hid (by rw [bytV_len]; exact hF)
  have HI_VT : Hid ((Try.prog.info? 23).map (·.size) = some (bytV T).length) := Lib.hid (Try.infoV6 _ hT)
  have HO_VT : Hid ((bytV T).toArray.all (·.oneCell') = true) := Lib.hid (by rw [List.all_toArray, List.all_eq_true]; exact bytV_one _)
  have HL_VT : Hid ((bytV T).length = 16) := Lib.hid (by rw [bytV_len]; exact hT)
  have HC_VP_0 : Hid (p.vals[0]? = some (.int .i64 p.tos)) := Lib.hid rfl
  have HC_VP_1 : Hid (p.vals[1]? = some (.int .i64 p.id)) := Lib.hid rfl
  have HC_VP_2 : Hid (p.vals[2]? = some (.int .i64 p.ttl)) := Lib.hid rfl
  have HC_VP_3 : Hid (p.vals[3]? = some (.int .i64 p.proto)) := Lib.hid rfl
  have HC_VP_4 : Hid (p.vals[4]? = some (.int .i64 p.pl)) := Lib.hid rfl
  have HC_VP_5 : Hid (p.vals[5]? = some (.bool p.df)) := Lib.hid rfl
  have HC_VP_6 : Hid (p.vals[6]? = some (.bool p.more)) := Lib.hid rfl
  have HC_VP_15 : Hid (p.vals[15]? = some (.string p.opts)) := Lib.hid rfl
  have HC_VP_16 : Hid (p.vals[16]? = some (.string p.data)) := Lib.hid rfl
  have HK1 : Hid (Kp w w.heap.size [(w.heap.size + 1 + 1 + 1, 27, Z), (w.heap.size + 1 + 1, 23, bytV T), (w.heap.size + 1, 23, bytV F), (w.heap.size, 35, p.vals)] ((((w.alloc (.cells p.vals.toArray 35)).alloc (.cells (bytV F).toArray 23)).alloc (.cells (bytV T).toArray 23)).alloc (.cells Z.toArray 27))) := Lib.hid (by
    have h := (((Kp.start w).new 35 p.vals).new 23 (bytV F)).new 23 (bytV T)
    have e1 : (w.alloc (.cells p.vals.toArray 35)).heap.size = w.heap.size + 1 := by simp
    have e2 : ((w.alloc (.cells p.vals.toArray 35)).alloc (.cells (bytV F).toArray 23)).heap.size = w.heap.size + 1 + 1 := by simp
    have e3 : (((w.alloc (.cells p.vals.toArray 35)).alloc (.cells (bytV F).toArray 23)).alloc (.cells (bytV T).toArray 23)).heap.size = w.heap.size + 1 + 1 + 1 := by simp
    rw [e1, e2] at h
    have h2 := h.new 27 Z
    rwa [e3] at h2)
  generalize p.vals = VP at *
  generalize bytV F = VF at *
  generalize bytV T = VT at *
  generalize hw1 : (((w.alloc (.cells VP.toArray 35)).alloc (.cells VF.toArray 23)).alloc (.cells VT.toArray 23)).alloc (.cells Z.toArray 27) = w1 at *
  rw [hz0] at hw1
  go_enter Try.func11, Try.ntmps11
  go_upto_region 1 with (fail)
  clear hw1 hz0
  have ht := (bk_new w1 27 ([.int .i64 0, .int .i64 0, .int .i64 0, .int .u8 0, .int .u8 0, .int .u8 0, .int .u8 0, .int .u8 0, .int .u8 0, .int .u8 0, .int .u8 0, .int .u8 0, .int .u8 0, .int .u8 0, .int .u8 0, .int .u8 0, .int .u8 0, .int .u8 0, .int .u8 0, .int .u8 0, .int .u8 0, .int .u8 0, .int .u8 0, .int .u8 0, .int .u8 0, .int .u8 0, .int .u8 0, .int .u8 0, .int .u8 0, .int .u8 0, .int .u8 0, .int .u8 0, .int .u8 0, .int .u8 0, .int .u8 0, .slice none 0 0, .bool false, .int .u32 0, .int .i64 0, .bool false, .int .i64 0, .string ⟨#[]⟩] : List Value).toArray).there Z.toArray.size (by have := HL_Z.out; simp; omega)
  go_upto_region 2 with (((with_reducible (change wpList _ _ _ _ _ _)); (first | (refine Great.wpList_readTo rfl _ rfl (.agg Z.toArray) (run_execN (T := 27) (l := #[]) (m := #[]) rfl (by simp) (HBZ.out _)) ?_) | (refine wpList_store_mid rfl 27 _ _ rfl (w1.heap.size) 0 Z.toArray rfl rfl ht (by simpa using HI_Z.out) HO_Z.out ?_))))
  have HK2 := Lib.hid (HK1.out.put 27 ([.int .i64 0, .int .i64 0, .int .i64 0, .int .u8 0, .int .u8 0, .int .u8 0, .int .u8 0, .int .u8 0, .int .u8 0, .int .u8 0, .int .u8 0, .int .u8 0, .int .u8 0, .int .u8 0, .int .u8 0, .int .u8 0, .int .u8 0, .int .u8 0, .int .u8 0, .int .u8 0, .int .u8 0, .int .u8 0, .int .u8 0, .int .u8 0, .int .u8 0, .int .u8 0, .int .u8 0, .int .u8 0, .int .u8 0, .int .u8 0, .int .u8 0, .int .u8 0, .int .u8 0, .int .u8 0, .int .u8 0, .slice none 0 0, .bool false, .int .u32 0, .int .i64 0, .bool false, .int .i64 0, .string ⟨#[]⟩] : List Value).toArray Z (by have := HL_Z.out; simp; omega))
  clear ht HK1
  generalize (w1.alloc (.cells ([.int .i64 0, .int .i64 0, .int .i64 0, .int .u8 0, .int .u8 0, .int .u8 0, .int .u8 0, .int .u8 0, .int .u8 0, .int .u8 0, .int .u8 0, .int .u8 0, .int .u8 0, .int .u8 0, .int .u8 0, .int .u8 0, .int .u8 0, .int .u8 0, .int .u8 0, .int .u8 0, .int .u8 0, .int .u8 0, .int .u8 0, .int .u8 0, .int .u8 0, .int .u8 0, .int .u8 0, .int .u8 0, .int .u8 0, .int .u8 0, .int .u8 0, .int .u8 0, .int .u8 0, .int .u8 0, .int .u8 0, .slice none 0 0, .bool false, .int .u32 0, .int .i64 0, .bool false, .int .i64 0, .string ⟨#[]⟩] : List Value).toArray 27)).setCells w1.heap.size 0 Z = w2 at *
  generalize w1.heap.size = g0 at *
  have c2 : w2.cell? ⟨w.heap.size, 2, none⟩ = some (.int .i64 p.ttl) := HK2.out.tl.tl.tl.tl.hd.at HC_VP_2.out
  have c0 : w2.cell? ⟨w.heap.size, 0, none⟩ = some (.int .i64 p.tos) := HK2.out.tl.tl.tl.tl.hd.at HC_VP_0.out
  go_upto_region 3 with (fail)
  have hr0 := HK2.out.hd.range
  have hkc := HK2.out.tl.hd
  have htf : w2.there (w.heap.size + 1 + 1 + 1) 0 Z.toArray.size := hkc.there _ (Nat.le_refl _)
  go_wp2_with (((with_reducible (change wpList _ _ _ _ _ _)); (first | (refine wpList_load_mid rfl 27 _ rfl (g0) 0 rfl (Z) _ hr0 Try.underlying27 rfl HI_Z.out ?_) | (refine wpList_store_mid rfl 27 _ _ rfl (w.heap.size + 1 + 1 + 1) 0 Z.toArray rfl rfl htf (by simpa using HI_Z.out) HO_Z.out ?_))))
  have hk5 := Bk.sets Z 0 _ _ hkc
  rw [puts_whole Z.toArray Z (by simp)] at hk5
  refine bodyPost_ret (v := .tuple #[.agg Z.toArray, .int .i64 13]) ?_ rfl ?_
  · exact results_cell2 rfl rfl rfl (run_loadVar_mid _ (w.heap.size + 1 + 1 + 1) 0 27 Z _ hk5.range Try.underlying27 rfl HI_Z.out)
  · exact ⟨by rw [HZ.out], below_sets _ (by omega) 0 _ HK2.out.2.1⟩

theorem rrtd_none (s : ByteArray) (w : World) (hs : s.size ≤ 70000) (h : P4.rtE s.data.toList false = none) : Calls Try.prog 17 #[.string s] w fun e w' => e = .returned (.tuple #[.bool false, .int .i64 8]) ∧ Below w.heap.size w w' := by
  have := P4.rrouted_any s w hs
  rw [h] at this
  exact this
theorem rrtd_some (s : ByteArray) (b : Bool) (w : World) (hs : s.size ≤ 70000) (h : P4.rtE s.data.toList false = some b) : Calls Try.prog 17 #[.string s] w fun e w' => e = .returned (.tuple #[.bool b, .int .i64 0]) ∧ Below w.heap.size w w' := by
  have := P4.rrouted_any s w hs
  rw [h] at this
  exact this
set_option maxRecDepth 100000 in
set_option maxHeartbeats 4000000 in
theorem rhead_form (p : P4.Pkt) (F T : List UInt8) (hF : F.length = 16) (hT : T.length = 16) (w : World) (h0 : ¬ p.ttl < 2) (h1 : ¬ 255 < p.ttl) (h2 : ¬ p.tos < 0) (h3 : ¬ 255 < p.tos) (hs : p.opts.size ≤ 70000) (hr : P4.rtE p.opts.data.toList false = none) :
    Calls Try.prog 11 #[.agg p.vals.toArray, .agg (bytV F).toArray, .agg (bytV T).toArray] w (fun e w' => e = .returned (.tuple #[.agg (pk0.vals (.slice none 0 0)).toArray, .int .i64 8]) ∧ Below w.heap.size w w') := by
  have HR := Lib.hid (fun W => rrtd_none p.opts W hs hr)
  clear hr hs
  obtain ⟨Z, hZ⟩ : ∃ Z, Z = pk0.vals (.slice none 0 0) := ⟨_, rfl⟩
  have HBZ : Hid (∀ W, (Instr.build 27 #[]).run Try.prog W = .ok (.agg Z.toArray) W) := Lib.hid (fun W => by rw [hZ]; exact buildZ W)
  have HI_Z : Hid ((Try.prog.info? 27).map (·.size) = some Z.length) := Lib.hid (by rw [hZ]; exact Try.info6 _ _)
  have HO_Z : Hid (Z.toArray.all (·.oneCell') = true) := Lib.hid (by rw [hZ]; exact vals_one _ _ rfl)
  have HL_Z : Hid (Z.length = 42) := Lib.hid (by rw [hZ]; exact vals_len _ _)
  have hz0 : Z.toArray = #[.int .i64 0, .int .i64 0, .int .i64 0, .int .u8 0, .int .u8 0, .int .u8 0, .int .u8 0, .int .u8 0, .int .u8 0, .int .u8 0, .int .u8 0, .int .u8 0, .int .u8 0, .int .u8 0, .int .u8 0, .int .u8 0, .int .u8 0, .int .u8 0, .int .u8 0, .int .u8 0, .int .u8 0, .int .u8 0, .int .u8 0, .int .u8 0, .int .u8 0, .int .u8 0, .int .u8 0, .int .u8 0, .int .u8 0, .int .u8 0, .int .u8 0, .int .u8 0, .int .u8 0, .int .u8 0, .int .u8 0, .slice none 0 0, .bool false, .int .u32 0, .int .i64 0, .bool false, .int .i64 0, .string ⟨#[]⟩] := by rw [hZ]; exact pk0_vals
  have HZ := Lib.hid hZ
  have HZ0 := Lib.hid hz0
  clear hZ
  have HI_VP : Hid ((Try.prog.info? 35).map (·.size) = some (p.vals).length) := Lib.hid (P4.Try.infoIp _)
  have HO_VP : Hid ((p.vals).toArray.all (·.oneCell') = true) := Lib.hid (P4.vals_one _)
  have HL_VP : Hid ((p.vals).length = 17) := Lib.hid rfl
  have HI_VF : Hid ((Try.prog.info? 23).map (·.size) = some (bytV F).length) := Lib.hid (Try.infoV6 _ hF)
  have HO_VF : Hid ((bytV F).toArray.all (·.oneCell') = true) := Lib.hid (by rw [List.all_toArray, List.all_eq_true]; exact bytV_one _)
  have HL_VF : Hid ((bytV F).length = 16) := Lib.hid (by rw [bytV_len]; exact hF)
  have HI_VT : Hid ((Try.prog.info? 23).map (·.size) = some (bytV T).length) := Lib.hid (Try.infoV6 _ hT)
  have HO_VT : Hid ((bytV T).toArray.all (·.oneCell') = true) := Lib.hid (by rw [List.all_toArray, List.all_eq_true]; exact bytV_one _)
  have HL_VT : Hid ((bytV T).length = 16) := Lib.hid (by rw [bytV_len]; exact hT)
  have HC_VP_0 : Hid (p.vals[0]? = some (.int .i64 p.tos)) := Lib.hid rfl
  have HC_VP_1 : Hid (p.vals[1]? = some (.int .i64 p.id)) := Lib.hid rfl
  have HC_VP_2 : Hid (p.vals[2]? = some (.int .i64 p.ttl)) := Lib.hid rfl
  have HC_VP_3 : Hid (p.vals[3]? = some (.int .i64 p.proto)) := Lib.hid rfl
  have HC_VP_4 : Hid (p.vals[4]? = some (.int .i64 p.pl)) := Lib.hid rfl
  have HC_VP_5 : Hid (p.vals[5]? = some (.bool p.df)) := Lib.hid rfl
  have HC_VP_6 : Hid (p.vals[6]? = some (.bool p.more)) := Lib.hid rfl
  have HC_VP_15 : Hid (p.vals[15]? = some (.string p.opts)) := Lib.hid rfl
  have HC_VP_16 : Hid (p.vals[16]? = some (.string p.data)) := Lib.hid rfl
  have HK1 : Hid (Kp w w.heap.size [(w.heap.size + 1 + 1 + 1, 27, Z), (w.heap.size + 1 + 1, 23, bytV T), (w.heap.size + 1, 23, bytV F), (w.heap.size, 35, p.vals)] ((((w.alloc (.cells p.vals.toArray 35)).alloc (.cells (bytV F).toArray 23)).alloc (.cells (bytV T).toArray 23)).alloc (.cells Z.toArray 27))) := Lib.hid (by
    have h := (((Kp.start w).new 35 p.vals).new 23 (bytV F)).new 23 (bytV T)
    have e1 : (w.alloc (.cells p.vals.toArray 35)).heap.size = w.heap.size + 1 := by simp
    have e2 : ((w.alloc (.cells p.vals.toArray 35)).alloc (.cells (bytV F).toArray 23)).heap.size = w.heap.size + 1 + 1 := by simp
    have e3 : (((w.alloc (.cells p.vals.toArray 35)).alloc (.cells (bytV F).toArray 23)).alloc (.cells (bytV T).toArray 23)).heap.size = w.heap.size + 1 + 1 + 1 := by simp
    rw [e1, e2] at h
    have h2 := h.new 27 Z
    rwa [e3] at h2)
  generalize p.vals = VP at *
  generalize bytV F = VF at *
  generalize bytV T = VT at *
  generalize hw1 : (((w.alloc (.cells VP.toArray 35)).alloc (.cells VF.toArray 23)).alloc (.cells VT.toArray 23)).alloc (.cells Z.toArray 27) = w1 at *
  rw [hz0] at hw1
  go_enter Try.func11, Try.ntmps11
  go_upto_region 1 with (fail)
  clear hw1 hz0
  have ht := (bk_new w1 27 ([.int .i64 0, .int .i64 0, .int .i64 0, .int .u8 0, .int .u8 0, .int .u8 0, .int .u8 0, .int .u8 0, .int .u8 0, .int .u8 0, .int .u8 0, .int .u8 0, .int .u8 0, .int .u8 0, .int .u8 0, .int .u8 0, .int .u8 0, .int .u8 0, .int .u8 0, .int .u8 0, .int .u8 0, .int .u8 0, .int .u8 0, .int .u8 0, .int .u8 0, .int .u8 0, .int .u8 0, .int .u8 0, .int .u8 0, .int .u8 0, .int .u8 0, .int .u8 0, .int .u8 0, .int .u8 0, .int .u8 0, .slice none 0 0, .bool false, .int .u32 0, .int .i64 0, .bool false, .int .i64 0, .string ⟨#[]⟩] : List Value).toArray).there Z.toArray.size (by have := HL_Z.out; simp; omega)
  go_upto_region 2 with (((with_reducible (change wpList _ _ _ _ _ _)); (first | (refine Great.wpList_readTo rfl _ rfl (.agg Z.toArray) (run_execN (T := 27) (l := #[]) (m := #[]) rfl (by simp) (HBZ.out _)) ?_) | (refine wpList_store_mid rfl 27 _ _ rfl (w1.heap.size) 0 Z.toArray rfl rfl ht (by simpa using HI_Z.out) HO_Z.out ?_))))
  have HK2 := Lib.hid (HK1.out.put 27 ([.int .i64 0, .int .i64 0, .int .i64 0, .int .u8 0, .int .u8 0, .int .u8 0, .int .u8 0, .int .u8 0, .int .u8 0, .int .u8 0, .int .u8 0, .int .u8 0, .int .u8 0, .int .u8 0, .int .u8 0, .int .u8 0, .int .u8 0, .int .u8 0, .int .u8 0, .int .u8 0, .int .u8 0, .int .u8 0, .int .u8 0, .int .u8 0, .int .u8 0, .int .u8 0, .int .u8 0, .int .u8 0, .int .u8 0, .int .u8 0, .int .u8 0, .int .u8 0, .int .u8 0, .int .u8 0, .int .u8 0, .slice none 0 0, .bool false, .int .u32 0, .int .i64 0, .bool false, .int .i64 0, .string ⟨#[]⟩] : List Value).toArray Z (by have := HL_Z.out; simp; omega))
  clear ht HK1
  generalize (w1.alloc (.cells ([.int .i64 0, .int .i64 0, .int .i64 0, .int .u8 0, .int .u8 0, .int .u8 0, .int .u8 0, .int .u8 0, .int .u8 0, .int .u8 0, .int .u8 0, .int .u8 0, .int .u8 0, .int .u8 0, .int .u8 0, .int .u8 0, .int .u8 0, .int .u8 0, .int .u8 0, .int .u8 0, .int .u8 0, .int .u8 0, .int .u8 0, .int .u8 0, .int .u8 0, .int .u8 0, .int .u8 0, .int .u8 0, .int .u8 0, .int .u8 0, .int .u8 0, .int .u8 0, .int .u8 0, .int .u8 0, .int .u8 0, .slice none 0 0, .bool false, .int .u32 0, .int .i64 0, .bool false, .int .i64 0, .string ⟨#[]⟩] : List Value).toArray 27)).setCells w1.heap.size 0 Z = w2 at *
  generalize w1.heap.size = g0 at *
  have c2 : w2.cell? ⟨w.heap.size, 2, none⟩ = some (.int .i64 p.ttl) := HK2.out.tl.tl.tl.tl.hd.at HC_VP_2.out
  have c0 : w2.cell? ⟨w.heap.size, 0, none⟩ = some (.int .i64 p.tos) := HK2.out.tl.tl.tl.tl.hd.at HC_VP_0.out
  have c15 : w2.cell? ⟨w.heap.size, 15, none⟩ = some (.string p.opts) := HK2.out.tl.tl.tl.tl.hd.at HC_VP_15.out
  go_wp2_with (fail)
  clear c2 c0 c15
  refine (HR.out _).mono ?_
  rintro e w3 ⟨rfl, bb⟩
  have HK3 := Lib.hid (HK2.out.below bb (Nat.le_refl _))
  clear bb HK2
  have hr0 := HK3.out.hd.range
  have hkc := HK3.out.tl.hd
  have htf : w3.there (w.heap.size + 1 + 1 + 1) 0 Z.toArray.size := hkc.there _ (Nat.le_refl _)
  go_wp2_with (((with_reducible (change wpList _ _ _ _ _ _)); (first | (refine wpList_load_mid rfl 27 _ rfl (g0) 0 rfl (Z) _ hr0 Try.underlying27 rfl HI_Z.out ?_) | (refine wpList_store_mid rfl 27 _ _ rfl (w.heap.size + 1 + 1 + 1) 0 Z.toArray rfl rfl htf (by simpa using HI_Z.out) HO_Z.out ?_))))
  have hk5 := Bk.sets Z 0 _ _ hkc
  rw [puts_whole Z.toArray Z (by simp)] at hk5
  refine bodyPost_ret (v := .tuple #[.agg Z.toArray, .int .i64 8]) ?_ rfl ?_
  · exact results_cell2 rfl rfl rfl (run_loadVar_mid _ (w.heap.size + 1 + 1 + 1) 0 27 Z _ hk5.range Try.underlying27 rfl HI_Z.out)
  · exact ⟨by rw [HZ.out], below_sets _ (by omega) 0 _ HK3.out.2.1⟩
set_option maxRecDepth 100000 in
set_option maxHeartbeats 4000000 in
theorem rhead_kind_r (p : P4.Pkt) (F T : List UInt8) (hF : F.length = 16) (hT : T.length = 16) (w : World) (h0 : ¬ p.ttl < 2) (h1 : ¬ 255 < p.ttl) (h2 : ¬ p.tos < 0) (h3 : ¬ 255 < p.tos) (hs : p.opts.size ≤ 70000) (hr : P4.rtE p.opts.data.toList false = some true) :
    Calls Try.prog 11 #[.agg p.vals.toArray, .agg (bytV F).toArray, .agg (bytV T).toArray] w (fun e w' => e = .returned (.tuple #[.agg (pk0.vals (.slice none 0 0)).toArray, .int .i64 10]) ∧ Below w.heap.size w w') := by
  have HR := Lib.hid (fun W => rrtd_some p.opts true W hs hr)
  clear hr hs
  obtain ⟨Z, hZ⟩ : ∃ Z, Z = pk0.vals (.slice none 0 0) := ⟨_, rfl⟩
  have HBZ : Hid (∀ W, (Instr.build 27 #[]).run Try.prog W = .ok (.agg Z.toArray) W) := Lib.hid (fun W => by rw [hZ]; exact buildZ W)
  have HI_Z : Hid ((Try.prog.info? 27).map (·.size) = some Z.length) := Lib.hid (by rw [hZ]; exact Try.info6 _ _)
  have HO_Z : Hid (Z.toArray.all (·.oneCell') = true) := Lib.hid (by rw [hZ]; exact vals_one _ _ rfl)
  have HL_Z : Hid (Z.length = 42) := Lib.hid (by rw [hZ]; exact vals_len _ _)
  have hz0 : Z.toArray = #[.int .i64 0, .int .i64 0, .int .i64 0, .int .u8 0, .int .u8 0, .int .u8 0, .int .u8 0, .int .u8 0, .int .u8 0, .int .u8 0, .int .u8 0, .int .u8 0, .int .u8 0, .int .u8 0, .int .u8 0, .int .u8 0, .int .u8 0, .int .u8 0, .int .u8 0, .int .u8 0, .int .u8 0, .int .u8 0, .int .u8 0, .int .u8 0, .int .u8 0, .int .u8 0, .int .u8 0, .int .u8 0, .int .u8 0, .int .u8 0, .int .u8 0, .int .u8 0, .int .u8 0, .int .u8 0, .int .u8 0, .slice none 0 0, .bool false, .int .u32 0, .int .i64 0, .bool false, .int .i64 0, .string ⟨#[]⟩] := by rw [hZ]; exact pk0_vals
  have HZ := Lib.hid hZ
  have HZ0 := Lib.hid hz0
  clear hZ
  have HI_VP : Hid ((Try.prog.info? 35).map (·.size) = some (p.vals).length) := Lib.hid (P4.Try.infoIp _)
  have HO_VP : Hid ((p.vals).toArray.all (·.oneCell') = true) := Lib.hid (P4.vals_one _)
  have HL_VP : Hid ((p.vals).length = 17) := Lib.hid rfl
  have HI_VF : Hid ((Try.prog.info? 23).map (·.size) = some (bytV F).length) := Lib.hid (Try.infoV6 _ hF)
  have HO_VF : Hid ((bytV F).toArray.all (·.oneCell') = true) := Lib.hid (by rw [List.all_toArray, List.all_eq_true]; exact bytV_one _)
  have HL_VF : Hid ((bytV F).length = 16) := Lib.hid (by rw [bytV_len]; exact hF)
  have HI_VT : Hid ((Try.prog.info? 23).map (·.size) = some (bytV T).length) := Lib.hid (Try.infoV6 _ hT)
  have HO_VT : Hid ((bytV T).toArray.all (·.oneCell') = true) := Lib.hid (by rw [List.all_toArray, List.all_eq_true]; exact bytV_one _)
  have HL_VT : Hid ((bytV T).length = 16) := Lib.hid (by rw [bytV_len]; exact hT)
  have HC_VP_0 : Hid (p.vals[0]? = some (.int .i64 p.tos)) := Lib.hid rfl
  have HC_VP_1 : Hid (p.vals[1]? = some (.int .i64 p.id)) := Lib.hid rfl
  have HC_VP_2 : Hid (p.vals[2]? = some (.int .i64 p.ttl)) := Lib.hid rfl
  have HC_VP_3 : Hid (p.vals[3]? = some (.int .i64 p.proto)) := Lib.hid rfl
  have HC_VP_4 : Hid (p.vals[4]? = some (.int .i64 p.pl)) := Lib.hid rfl
  have HC_VP_5 : Hid (p.vals[5]? = some (.bool p.df)) := Lib.hid rfl
  have HC_VP_6 : Hid (p.vals[6]? = some (.bool p.more)) := Lib.hid rfl
  have HC_VP_15 : Hid (p.vals[15]? = some (.string p.opts)) := Lib.hid rfl
  have HC_VP_16 : Hid (p.vals[16]? = some (.string p.data)) := Lib.hid rfl
  have HK1 : Hid (Kp w w.heap.size [(w.heap.size + 1 + 1 + 1, 27, Z), (w.heap.size + 1 + 1, 23, bytV T), (w.heap.size + 1, 23, bytV F), (w.heap.size, 35, p.vals)] ((((w.alloc (.cells p.vals.toArray 35)).alloc (.cells (bytV F).toArray 23)).alloc (.cells (bytV T).toArray 23)).alloc (.cells Z.toArray 27))) := Lib.hid (by
    have h := (((Kp.start w).new 35 p.vals).new 23 (bytV F)).new 23 (bytV T)
    have e1 : (w.alloc (.cells p.vals.toArray 35)).heap.size = w.heap.size + 1 := by simp
    have e2 : ((w.alloc (.cells p.vals.toArray 35)).alloc (.cells (bytV F).toArray 23)).heap.size = w.heap.size + 1 + 1 := by simp
    have e3 : (((w.alloc (.cells p.vals.toArray 35)).alloc (.cells (bytV F).toArray 23)).alloc (.cells (bytV T).toArray 23)).heap.size = w.heap.size + 1 + 1 + 1 := by simp
    rw [e1, e2] at h
    have h2 := h.new 27 Z
    rwa [e3] at h2)
  generalize p.vals = VP at *
  generalize bytV F = VF at *
  generalize bytV T = VT at *
  generalize hw1 : (((w.alloc (.cells VP.toArray 35)).alloc (.cells VF.toArray 23)).alloc (.cells VT.toArray 23)).alloc (.cells Z.toArray 27) = w1 at *
  rw [hz0] at hw1
  go_enter Try.func11, Try.ntmps11
  go_upto_region 1 with (fail)
  clear hw1 hz0
  have ht := (bk_new w1 27 ([.int .i64 0, .int .i64 0, .int .i64 0, .int .u8 0, .int .u8 0, .int .u8 0, .int .u8 0, .int .u8 0, .int .u8 0, .int .u8 0, .int .u8 0, .int .u8 0, .int .u8 0, .int .u8 0, .int .u8 0, .int .u8 0, .int .u8 0, .int .u8 0, .int .u8 0, .int .u8 0, .int .u8 0, .int .u8 0, .int .u8 0, .int .u8 0, .int .u8 0, .int .u8 0, .int .u8 0, .int .u8 0, .int .u8 0, .int .u8 0, .int .u8 0, .int .u8 0, .int .u8 0, .int .u8 0, .int .u8 0, .slice none 0 0, .bool false, .int .u32 0, .int .i64 0, .bool false, .int .i64 0, .string ⟨#[]⟩] : List Value).toArray).there Z.toArray.size (by have := HL_Z.out; simp; omega)
  go_upto_region 2 with (((with_reducible (change wpList _ _ _ _ _ _)); (first | (refine Great.wpList_readTo rfl _ rfl (.agg Z.toArray) (run_execN (T := 27) (l := #[]) (m := #[]) rfl (by simp) (HBZ.out _)) ?_) | (refine wpList_store_mid rfl 27 _ _ rfl (w1.heap.size) 0 Z.toArray rfl rfl ht (by simpa using HI_Z.out) HO_Z.out ?_))))
  have HK2 := Lib.hid (HK1.out.put 27 ([.int .i64 0, .int .i64 0, .int .i64 0, .int .u8 0, .int .u8 0, .int .u8 0, .int .u8 0, .int .u8 0, .int .u8 0, .int .u8 0, .int .u8 0, .int .u8 0, .int .u8 0, .int .u8 0, .int .u8 0, .int .u8 0, .int .u8 0, .int .u8 0, .int .u8 0, .int .u8 0, .int .u8 0, .int .u8 0, .int .u8 0, .int .u8 0, .int .u8 0, .int .u8 0, .int .u8 0, .int .u8 0, .int .u8 0, .int .u8 0, .int .u8 0, .int .u8 0, .int .u8 0, .int .u8 0, .int .u8 0, .slice none 0 0, .bool false, .int .u32 0, .int .i64 0, .bool false, .int .i64 0, .string ⟨#[]⟩] : List Value).toArray Z (by have := HL_Z.out; simp; omega))
  clear ht HK1
  generalize (w1.alloc (.cells ([.int .i64 0, .int .i64 0, .int .i64 0, .int .u8 0, .int .u8 0, .int .u8 0, .int .u8 0, .int .u8 0, .int .u8 0, .int .u8 0, .int .u8 0, .int .u8 0, .int .u8 0, .int .u8 0, .int .u8 0, .int .u8 0, .int .u8 0, .int .u8 0, .int .u8 0, .int .u8 0, .int .u8 0, .int .u8 0, .int .u8 0, .int .u8 0, .int .u8 0, .int .u8 0, .int .u8 0, .int .u8 0, .int .u8 0, .int .u8 0, .int .u8 0, .int .u8 0, .int .u8 0, .int .u8 0, .int .u8 0, .slice none 0 0, .bool false, .int .u32 0, .int .i64 0, .bool false, .int .i64 0, .string ⟨#[]⟩] : List Value).toArray 27)).setCells w1.heap.size 0 Z = w2 at *
  generalize w1.heap.size = g0 at *
  have c2 : w2.cell? ⟨w.heap.size, 2, none⟩ = some (.int .i64 p.ttl) := HK2.out.tl.tl.tl.tl.hd.at HC_VP_2.out
  have c0 : w2.cell? ⟨w.heap.size, 0, none⟩ = some (.int .i64 p.tos) := HK2.out.tl.tl.tl.tl.hd.at HC_VP_0.out
  have c15 : w2.cell? ⟨w.heap.size, 15, none⟩ = some (.string p.opts) := HK2.out.tl.tl.tl.tl.hd.at HC_VP_15.out
  go_wp2_with (fail)
  clear c2 c0 c15
  refine (HR.out _).mono ?_
  rintro e w3 ⟨rfl, bb⟩
  have HK3 := Lib.hid (HK2.out.below bb (Nat.le_refl _))
  clear bb HK2
  have hr0 := HK3.out.hd.range
  have hkc := HK3.out.tl.hd
  have htf : w3.there (w.heap.size + 1 + 1 + 1) 0 Z.toArray.size := hkc.there _ (Nat.le_refl _)
  go_wp2_with (((with_reducible (change wpList _ _ _ _ _ _)); (first | (refine wpList_load_mid rfl 27 _ rfl (g0) 0 rfl (Z) _ hr0 Try.underlying27 rfl HI_Z.out ?_) | (refine wpList_store_mid rfl 27 _ _ rfl (w.heap.size + 1 + 1 + 1) 0 Z.toArray rfl rfl htf (by simpa using HI_Z.out) HO_Z.out ?_))))
  have hk5 := Bk.sets Z 0 _ _ hkc
  rw [puts_whole Z.toArray Z (by simp)] at hk5
  refine bodyPost_ret (v := .tuple #[.agg Z.toArray, .int .i64 10]) ?_ rfl ?_
  · exact results_cell2 rfl rfl rfl (run_loadVar_mid _ (w.heap.size + 1 + 1 + 1) 0 27 Z _ hk5.range Try.underlying27 rfl HI_Z.out)
  · exact ⟨by rw [HZ.out], below_sets _ (by omega) 0 _ HK3.out.2.1⟩
set_option maxRecDepth 100000 in
set_option maxHeartbeats 4000000 in
theorem rhead_kind_p (p : P4.Pkt) (F T : List UInt8) (hF : F.length = 16) (hT : T.length = 16) (w : World) (h0 : ¬ p.ttl < 2) (h1 : ¬ 255 < p.ttl) (h2 : ¬ p.tos < 0) (h3 : ¬ 255 < p.tos) (hs : p.opts.size ≤ 70000) (hr : P4.rtE p.opts.data.toList false = some false) (hp : prOk p.proto = false) :
    Calls Try.prog 11 #[.agg p.vals.toArray, .agg (bytV F).toArray, .agg (bytV T).toArray] w (fun e w' => e = .returned (.tuple #[.agg (pk0.vals (.slice none 0 0)).toArray, .int .i64 10]) ∧ Below w.heap.size w w') := by
  have HR := Lib.hid (fun W => rrtd_some p.opts false W hs hr)
  have HP : Hid (∀ W, Calls Try.prog 13 #[.int .i64 p.proto] W fun e w' => e = .returned (.tuple #[.int .i64 (pr46 p.proto), .bool false]) ∧ W = w') := Lib.hid (fun W => by rw [← hp]; exact rproto_any p.proto W)
  clear hp
  clear hr hs
  generalize pr46 p.proto = pr at *
  obtain ⟨Z, hZ⟩ : ∃ Z, Z = pk0.vals (.slice none 0 0) := ⟨_, rfl⟩
  have HBZ : Hid (∀ W, (Instr.build 27 #[]).run Try.prog W = .ok (.agg Z.toArray) W) := Lib.hid (fun W => by rw [hZ]; exact buildZ W)
  have HI_Z : Hid ((Try.prog.info? 27).map (·.size) = some Z.length) := Lib.hid (by rw [hZ]; exact Try.info6 _ _)
  have HO_Z : Hid (Z.toArray.all (·.oneCell') = true) := Lib.hid (by rw [hZ]; exact vals_one _ _ rfl)
  have HL_Z : Hid (Z.length = 42) := Lib.hid (by rw [hZ]; exact vals_len _ _)
  have hz0 : Z.toArray = #[.int .i64 0, .int .i64 0, .int .i64 0, .int .u8 0, .int .u8 0, .int .u8 0, .int .u8 0, .int .u8 0, .int .u8 0, .int .u8 0, .int .u8 0, .int .u8 0, .int .u8 0, .int .u8 0, .int .u8 0, .int .u8 0, .int .u8 0, .int .u8 0, .int .u8 0, .int .u8 0, .int .u8 0, .int .u8 0, .int .u8 0, .int .u8 0, .int .u8 0, .int .u8 0, .int .u8 0, .int .u8 0, .int .u8 0, .int .u8 0, .int .u8 0, .int .u8 0, .int .u8 0, .int .u8 0, .int .u8 0, .slice none 0 0, .bool false, .int .u32 0, .int .i64 0, .bool false, .int .i64 0, .string ⟨#[]⟩] := by rw [hZ]; exact pk0_vals
  have HZ := Lib.hid hZ
  have HZ0 := Lib.hid hz0
  clear hZ
  have HI_VP : Hid ((Try.prog.info? 35).map (·.size) = some (p.vals).length) := Lib.hid (P4.Try.infoIp _)
  have HO_VP : Hid ((p.vals).toArray.all (·.oneCell') = true) := Lib.hid (P4.vals_one _)
  have HL_VP : Hid ((p.vals).length = 17) := Lib.hid rfl
  have HI_VF : Hid ((Try.prog.info? 23).map (·.size) = some (bytV F).length) := Lib.hid (Try.infoV6 _ hF)
  have HO_VF : Hid ((bytV F).toArray.all (·.oneCell') = true) := Lib.hid (by rw [List.all_toArray, List.all_eq_true]; exact bytV_one _)
  have HL_VF : Hid ((bytV F).length = 16) := Lib.hid (by rw [bytV_len]; exact hF)
  have HI_VT : Hid ((Try.prog.info? 23).map (·.size) = some (bytV T).length) := Lib.hid (Try.infoV6 _ hT)
  have HO_VT : Hid ((bytV T).toArray.all (·.oneCell') = true) := Lib.hid (by rw [List.all_toArray, List.all_eq_true]; exact bytV_one _)
  have HL_VT : Hid ((bytV T).length = 16) := Lib.hid (by rw [bytV_len]; exact hT)
  have HC_VP_0 : Hid (p.vals[0]? = some (.int .i64 p.tos)) := Lib.hid rfl
  have HC_VP_1 : Hid (p.vals[1]? = some (.int .i64 p.id)) := Lib.hid rfl
  have HC_VP_2 : Hid (p.vals[2]? = some (.int .i64 p.ttl)) := Lib.hid rfl
  have HC_VP_3 : Hid (p.vals[3]? = some (.int .i64 p.proto)) := Lib.hid rfl
  have HC_VP_4 : Hid (p.vals[4]? = some (.int .i64 p.pl)) := Lib.hid rfl
  have HC_VP_5 : Hid (p.vals[5]? = some (.bool p.df)) := Lib.hid rfl
  have HC_VP_6 : Hid (p.vals[6]? = some (.bool p.more)) := Lib.hid rfl
  have HC_VP_15 : Hid (p.vals[15]? = some (.string p.opts)) := Lib.hid rfl
  have HC_VP_16 : Hid (p.vals[16]? = some (.string p.data)) := Lib.hid rfl
  have HK1 : Hid (Kp w w.heap.size [(w.heap.size + 1 + 1 + 1, 27, Z), (w.heap.size + 1 + 1, 23, bytV T), (w.heap.size + 1, 23, bytV F), (w.heap.size, 35, p.vals)] ((((w.alloc (.cells p.vals.toArray 35)).alloc (.cells (bytV F).toArray 23)).alloc (.cells (bytV T).toArray 23)).alloc (.cells Z.toArray 27))) := Lib.hid (by
    have h := (((Kp.start w).new 35 p.vals).new 23 (bytV F)).new 23 (bytV T)
    have e1 : (w.alloc (.cells p.vals.toArray 35)).heap.size = w.heap.size + 1 := by simp
    have e2 : ((w.alloc (.cells p.vals.toArray 35)).alloc (.cells (bytV F).toArray 23)).heap.size = w.heap.size + 1 + 1 := by simp
    have e3 : (((w.alloc (.cells p.vals.toArray 35)).alloc (.cells (bytV F).toArray 23)).alloc (.cells (bytV T).toArray 23)).heap.size = w.heap.size + 1 + 1 + 1 := by simp
    rw [e1, e2] at h
    have h2 := h.new 27 Z
    rwa [e3] at h2)
  generalize p.vals = VP at *
  generalize bytV F = VF at *
  generalize bytV T = VT at *
  generalize hw1 : (((w.alloc (.cells VP.toArray 35)).alloc (.cells VF.toArray 23)).alloc (.cells VT.toArray 23)).alloc (.cells Z.toArray 27) = w1 at *
  rw [hz0] at hw1
  go_enter Try.func11, Try.ntmps11
  go_upto_region 1 with (fail)
  clear hw1 hz0
  have ht := (bk_new w1 27 ([.int .i64 0, .int .i64 0, .int .i64 0, .int .u8 0, .int .u8 0, .int .u8 0, .int .u8 0, .int .u8 0, .int .u8 0, .int .u8 0, .int .u8 0, .int .u8 0, .int .u8 0, .int .u8 0, .int .u8 0, .int .u8 0, .int .u8 0, .int .u8 0, .int .u8 0, .int .u8 0, .int .u8 0, .int .u8 0, .int .u8 0, .int .u8 0, .int .u8 0, .int .u8 0, .int .u8 0, .int .u8 0, .int .u8 0, .int .u8 0, .int .u8 0, .int .u8 0, .int .u8 0, .int .u8 0, .int .u8 0, .slice none 0 0, .bool false, .int .u32 0, .int .i64 0, .bool false, .int .i64 0, .string ⟨#[]⟩] : List Value).toArray).there Z.toArray.size (by have := HL_Z.out; simp; omega)
  go_upto_region 2 with (((with_reducible (change wpList _ _ _ _ _ _)); (first | (refine Great.wpList_readTo rfl _ rfl (.agg Z.toArray) (run_execN (T := 27) (l := #[]) (m := #[]) rfl (by simp) (HBZ.out _)) ?_) | (refine wpList_store_mid rfl 27 _ _ rfl (w1.heap.size) 0 Z.toArray rfl rfl ht (by simpa using HI_Z.out) HO_Z.out ?_))))
  have HK2 := Lib.hid (HK1.out.put 27 ([.int .i64 0, .int .i64 0, .int .i64 0, .int .u8 0, .int .u8 0, .int .u8 0, .int .u8 0, .int .u8 0, .int .u8 0, .int .u8 0, .int .u8 0, .int .u8 0, .int .u8 0, .int .u8 0, .int .u8 0, .int .u8 0, .int .u8 0, .int .u8 0, .int .u8 0, .int .u8 0, .int .u8 0, .int .u8 0, .int .u8 0, .int .u8 0, .int .u8 0, .int .u8 0, .int .u8 0, .int .u8 0, .int .u8 0, .int .u8 0, .int .u8 0, .int .u8 0, .int .u8 0, .int .u8 0, .int .u8 0, .slice none 0 0, .bool false, .int .u32 0, .int .i64 0, .bool false, .int .i64 0, .string ⟨#[]⟩] : List Value).toArray Z (by have := HL_Z.out; simp; omega))
  clear ht HK1
  generalize (w1.alloc (.cells ([.int .i64 0, .int .i64 0, .int .i64 0, .int .u8 0, .int .u8 0, .int .u8 0, .int .u8 0, .int .u8 0, .int .u8 0, .int .u8 0, .int .u8 0, .int .u8 0, .int .u8 0, .int .u8 0, .int .u8 0, .int .u8 0, .int .u8 0, .int .u8 0, .int .u8 0, .int .u8 0, .int .u8 0, .int .u8 0, .int .u8 0, .int .u8 0, .int .u8 0, .int .u8 0, .int .u8 0, .int .u8 0, .int .u8 0, .int .u8 0, .int .u8 0, .int .u8 0, .int .u8 0, .int .u8 0, .int .u8 0, .slice none 0 0, .bool false, .int .u32 0, .int .i64 0, .bool false, .int .i64 0, .string ⟨#[]⟩] : List Value).toArray 27)).setCells w1.heap.size 0 Z = w2 at *
  generalize w1.heap.size = g0 at *
  have c2 : w2.cell? ⟨w.heap.size, 2, none⟩ = some (.int .i64 p.ttl) := HK2.out.tl.tl.tl.tl.hd.at HC_VP_2.out
  have c0 : w2.cell? ⟨w.heap.size, 0, none⟩ = some (.int .i64 p.tos) := HK2.out.tl.tl.tl.tl.hd.at HC_VP_0.out
  have c15 : w2.cell? ⟨w.heap.size, 15, none⟩ = some (.string p.opts) := HK2.out.tl.tl.tl.tl.hd.at HC_VP_15.out
  go_wp2_with (fail)
  clear c2 c0 c15
  refine (HR.out _).mono ?_
  rintro e w3 ⟨rfl, bb⟩
  have HK3 := Lib.hid (HK2.out.below bb (Nat.le_refl _))
  clear bb HK2
  have c3 : w3.cell? ⟨w.heap.size, 3, none⟩ = some (.int .i64 p.proto) := HK3.out.tl.tl.tl.tl.hd.at HC_VP_3.out
  go_wp2_with (fail)
  clear c3
  refine (HP.out _).mono ?_
  rintro e w9 ⟨rfl, rfl⟩
  have hr0 := HK3.out.hd.range
  have hkc := HK3.out.tl.hd
  have htf : w3.there (w.heap.size + 1 + 1 + 1) 0 Z.toArray.size := hkc.there _ (Nat.le_refl _)
  go_wp2_with (((with_reducible (change wpList _ _ _ _ _ _)); (first | (refine wpList_load_mid rfl 27 _ rfl (g0) 0 rfl (Z) _ hr0 Try.underlying27 rfl HI_Z.out ?_) | (refine wpList_store_mid rfl 27 _ _ rfl (w.heap.size + 1 + 1 + 1) 0 Z.toArray rfl rfl htf (by simpa using HI_Z.out) HO_Z.out ?_))))
  have hk5 := Bk.sets Z 0 _ _ hkc
  rw [puts_whole Z.toArray Z (by simp)] at hk5
  refine bodyPost_ret (v := .tuple #[.agg Z.toArray, .int .i64 10]) ?_ rfl ?_
  · exact results_cell2 rfl rfl rfl (run_loadVar_mid _ (w.heap.size + 1 + 1 + 1) 0 27 Z _ hk5.range Try.underlying27 rfl HI_Z.out)
  · exact ⟨by rw [HZ.out], below_sets _ (by omega) 0 _ HK3.out.2.1⟩
end Go.Proofs.Ytdljjcnihajchaa
