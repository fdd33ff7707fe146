/-
  Proved here: what the document's To6 answers of pointers.
  Conditions: none.
-/
import Derived.Test.YtnehabpdpkjaeaaDoorR6a
namespace Go.Proofs.YtnehabpdpkjaeaaDoor
open Go.RowKit

def toL : List Int := [0, 1, 4, 4, -1, -1, -1, -1, 7, 6, -1, -1, 8, 8, 8, 8, 24, 24, 24, 24]
theorem to_at (k : Nat) (h : k < 20) : (#[.int .i64 0, .int .i64 1, .int .i64 4, .int .i64 4, .int .i64 (-1), .int .i64 (-1), .int .i64 (-1), .int .i64 (-1), .int .i64 7, .int .i64 6, .int .i64 (-1), .int .i64 (-1), .int .i64 8, .int .i64 8, .int .i64 8, .int .i64 8, .int .i64 24, .int .i64 24, .int .i64 24, .int .i64 24] : Array Value)[k]? = some (.int .i64 (ptr6 k)) := by
  match k, h with
  | 0, _ => rfl
  | 1, _ => rfl
  | 2, _ => rfl
  | 3, _ => rfl
  | 4, _ => rfl
  | 5, _ => rfl
  | 6, _ => rfl
  | 7, _ => rfl
  | 8, _ => rfl
  | 9, _ => rfl
  | 10, _ => rfl
  | 11, _ => rfl
  | 12, _ => rfl
  | 13, _ => rfl
  | 14, _ => rfl
  | 15, _ => rfl
  | 16, _ => rfl
  | 17, _ => rfl
  | 18, _ => rfl
  | 19, _ => rfl
  | n + 20, h => exact absurd h (by omega)
theorem to_far (p : Int) (h : 20 ≤ p) : ptr6 p < 0 := by unfold ptr6; omega
set_option maxRecDepth 100000 in
set_option maxHeartbeats 4000000 in
theorem rsix_ptr0_far (m : Mg) (a b len : Int) (w : World) (hr : 0 ≤ m.rs ∧ m.rs < 4294967296) (hb : mtus a b = true) (h1 : m.kd = 12) (h2 : m.cd = 0) (hp : 20 ≤ m.rs / 16777216) : Calls Tryd.prog 15 #[.agg m.vals.toArray, .int .i64 a, .int .i64 b, .int .i64 len] w (fun e w' => e = .returned (.tuple #[.agg (six m a b len).1.vals.toArray, .bool (six m a b len).2]) ∧ Below w.heap.size w w') := by
  have HS : Hid (six m a b len = (mg0, false)) := Lib.hid (by unfold six; rw [hb, if_neg (by simp), if_neg (by omega), if_pos ⟨h1, .inl h2⟩, if_pos (to_far _ hp)])
  have HBn : Hid (∀ W, Calls Tryd.prog 23 #[.int .i64 a, .int .i64 b] W fun e w' => e = .returned (.bool true) ∧ W = w') := Lib.hid (fun W => by rw [← hb]; exact rbounds_any a b W)
  clear hb
  obtain ⟨k, hk⟩ : ∃ k : Nat, m.rs / 16777216 = (k : Int) := ⟨(m.rs / 16777216).toNat, by omega⟩
  have kq : m.rs.tdiv 16777216 = (k : Int) := by rw [Int.tdiv_eq_ediv_of_nonneg hr.1, hk]
  have k256 : k < 256 := by omega
  have kid : IntKind.i64.wrap (k : Int) = (k : Int) := IntWalk.i64_in _ (by omega)
  have kid2 : IntKind.u32.wrap (k : Int) = (k : Int) := by rw [IntKind.wrap_u32]; omega
  rw [hk] at hp
  have HN := Lib.hid (And.intro kq (And.intro kid kid2))
  clear kq kid kid2 hk
  obtain ⟨V0, hV0⟩ : ∃ V, V = mg0.vals := ⟨_, rfl⟩
  have HB0 : Hid (∀ W, (Instr.build 24 #[]).run Tryd.prog W = .ok (.agg V0.toArray) W) := Lib.hid (fun W => by rw [hV0]; exact mgBuild W)
  have HI_V0 : Hid ((Tryd.prog.info? 24).map (·.size) = some V0.length) := Lib.hid (by rw [hV0]; exact Tryd.infoMg _)
  have HO_V0 : Hid (V0.toArray.all (·.oneCell') = true) := Lib.hid (by rw [hV0]; exact mg_one _)
  have HL_V0 : Hid (V0.length = 4) := Lib.hid (by rw [hV0]; rfl)
  have hz0 : V0.toArray = #[.int .i64 0, .int .i64 0, .int .u32 0, .string ⟨#[]⟩] := by rw [hV0]; rfl
  have HV0 := Lib.hid hV0
  clear hV0
  have HI_VM : Hid ((Tryd.prog.info? 24).map (·.size) = some m.vals.length) := Lib.hid (Tryd.infoMg _)
  have HM0 : Hid (m.vals[0]? = some (.int .i64 12)) := Lib.hid (by rw [← h1]; rfl)
  have HM1 : Hid (m.vals[1]? = some (.int .i64 0)) := Lib.hid (by rw [← h2]; rfl)
  have HM2 : Hid (m.vals[2]? = some (.int .u32 m.rs)) := Lib.hid (by exact rfl)
  have HM3 : Hid (m.vals[3]? = some (.string m.da)) := Lib.hid (by exact rfl)
  have HK1 : Hid (Kp w w.heap.size [(w.heap.size + 1, 24, V0), (w.heap.size, 24, m.vals)] ((w.alloc (.cells m.vals.toArray 24)).alloc (.cells V0.toArray 24))) := Lib.hid (by
    have h := (Kp.start w).new 24 m.vals
    have e1 : (w.alloc (.cells m.vals.toArray 24)).heap.size = w.heap.size + 1 := by simp
    have h2 := h.new 24 V0
    rwa [e1] at h2)
  generalize m.vals = VM at *
  generalize hw1 : (w.alloc (.cells VM.toArray 24)).alloc (.cells V0.toArray 24) = w1 at *
  rw [hz0] at hw1
  go_enter Tryd.func15, Tryd.ntmps15
  go_upto_region 1 with (fail)
  clear hw1 hz0
  go_wp2_with (fail)
  refine (HBn.out _).mono ?_
  rintro e w99 ⟨rfl, rfl⟩
  have c0 : w1.cell? ⟨w.heap.size, 0, none⟩ = some (.int .i64 12) := HK1.out.tl.hd.at HM0.out
  have c1 : w1.cell? ⟨w.heap.size, 1, none⟩ = some (.int .i64 0) := HK1.out.tl.hd.at HM1.out
  go_upto_region 16 with (fail)
  clear c0 c1
  have hk2 := HK1.out.new 3 [.int .i64 0, .int .i64 1, .int .i64 4, .int .i64 4, .int .i64 (-1), .int .i64 (-1), .int .i64 (-1), .int .i64 (-1), .int .i64 7, .int .i64 6, .int .i64 (-1), .int .i64 (-1), .int .i64 8, .int .i64 8, .int .i64 8, .int .i64 8, .int .i64 24, .int .i64 24, .int .i64 24, .int .i64 24]
  have hg1 := HK1.out.hd.lt
  generalize hw2 : w1.alloc (.cells #[.int .i64 0, .int .i64 1, .int .i64 4, .int .i64 4, .int .i64 (-1), .int .i64 (-1), .int .i64 (-1), .int .i64 (-1), .int .i64 7, .int .i64 6, .int .i64 (-1), .int .i64 (-1), .int .i64 8, .int .i64 8, .int .i64 8, .int .i64 8, .int .i64 24, .int .i64 24, .int .i64 24, .int .i64 24] 3) = w2 at *
  obtain ⟨g, hg⟩ : ∃ g, g = w1.heap.size := ⟨_, rfl⟩
  rw [← hg] at hk2 hg1
  have HK2 := Lib.hid hk2
  have HG := Lib.hid hg1
  clear HK1 hk2 hg1
  go_upto_region 17 with (fail)
  try rw [hw2]
  try rw [← hg]
  clear hw2 hg
  have c2 : w2.cell? ⟨w.heap.size, 2, none⟩ = some (.int .u32 m.rs) := HK2.out.tl.tl.hd.at HM2.out
  obtain ⟨kq, kid, kid2⟩ := HN.out
  go_upto_region 18 with (fail)
  clear c2
  go_upto_region 19 with (fail)
  have hkc := HK2.out.tl.hd
  have htf := hkc.there V0.toArray.size (Nat.le_refl _)
  go_wp2_with (((with_reducible (change wpList _ _ _ _ _ _)); (first | (refine Great.wpList_readTo rfl _ rfl (.agg V0.toArray) (run_execN (T := 24) (l := #[]) (m := #[]) rfl (by simp) (HB0.out _)) ?_) | (refine wpList_store_mid rfl 24 _ _ rfl (w.heap.size + 1) 0 V0.toArray rfl rfl htf (by simpa using HI_V0.out) HO_V0.out ?_))))
  have hk5 := Bk.sets V0 0 _ _ hkc
  rw [puts_whole V0.toArray V0 (by simp)] at hk5
  refine bodyPost_ret (v := .tuple #[.agg V0.toArray, .bool false]) ?_ rfl ?_
  · exact results_cell2 rfl rfl rfl (run_loadVar_mid _ (w.heap.size + 1) 0 24 V0 _ hk5.range Tryd.underlying24 rfl HI_V0.out)
  · rw [HS.out]
    exact ⟨by rw [HV0.out], below_sets _ (by omega) 0 _ HK2.out.2.1⟩
set_option maxRecDepth 100000 in
set_option maxHeartbeats 4000000 in
theorem rsix_ptr0_none (m : Mg) (a b len : Int) (w : World) (hr : 0 ≤ m.rs ∧ m.rs < 4294967296) (hb : mtus a b = true) (h1 : m.kd = 12) (h2 : m.cd = 0) (hp : m.rs / 16777216 < 20) (hn : ptr6 (m.rs / 16777216) < 0) : Calls Tryd.prog 15 #[.agg m.vals.toArray, .int .i64 a, .int .i64 b, .int .i64 len] w (fun e w' => e = .returned (.tuple #[.agg (six m a b len).1.vals.toArray, .bool (six m a b len).2]) ∧ Below w.heap.size w w') := by
  have HS : Hid (six m a b len = (mg0, false)) := Lib.hid (by unfold six; rw [hb, if_neg (by simp), if_neg (by omega), if_pos ⟨h1, .inl h2⟩, if_pos hn])
  have HBn : Hid (∀ W, Calls Tryd.prog 23 #[.int .i64 a, .int .i64 b] W fun e w' => e = .returned (.bool true) ∧ W = w') := Lib.hid (fun W => by rw [← hb]; exact rbounds_any a b W)
  clear hb
  obtain ⟨k, hk⟩ : ∃ k : Nat, m.rs / 16777216 = (k : Int) := ⟨(m.rs / 16777216).toNat, by omega⟩
  have kq : m.rs.tdiv 16777216 = (k : Int) := by rw [Int.tdiv_eq_ediv_of_nonneg hr.1, hk]
  have k256 : k < 256 := by omega
  have kid : IntKind.i64.wrap (k : Int) = (k : Int) := IntWalk.i64_in _ (by omega)
  have kid2 : IntKind.u32.wrap (k : Int) = (k : Int) := by rw [IntKind.wrap_u32]; omega
  rw [hk] at hp hn
  have hkk : k < 20 := by omega
  have HTO := Lib.hid (to_at k hkk)
  have hpb : -1 ≤ ptr6 (k : Int) ∧ ptr6 (k : Int) ≤ 24 := by unfold ptr6; omega
  have HN := Lib.hid (And.intro kq (And.intro kid kid2))
  clear kq kid kid2 hk
  obtain ⟨V0, hV0⟩ : ∃ V, V = mg0.vals := ⟨_, rfl⟩
  have HB0 : Hid (∀ W, (Instr.build 24 #[]).run Tryd.prog W = .ok (.agg V0.toArray) W) := Lib.hid (fun W => by rw [hV0]; exact mgBuild W)
  have HI_V0 : Hid ((Tryd.prog.info? 24).map (·.size) = some V0.length) := Lib.hid (by rw [hV0]; exact Tryd.infoMg _)
  have HO_V0 : Hid (V0.toArray.all (·.oneCell') = true) := Lib.hid (by rw [hV0]; exact mg_one _)
  have HL_V0 : Hid (V0.length = 4) := Lib.hid (by rw [hV0]; rfl)
  have hz0 : V0.toArray = #[.int .i64 0, .int .i64 0, .int .u32 0, .string ⟨#[]⟩] := by rw [hV0]; rfl
  have HV0 := Lib.hid hV0
  clear hV0
  have HI_VM : Hid ((Tryd.prog.info? 24).map (·.size) = some m.vals.length) := Lib.hid (Tryd.infoMg _)
  have HM0 : Hid (m.vals[0]? = some (.int .i64 12)) := Lib.hid (by rw [← h1]; rfl)
  have HM1 : Hid (m.vals[1]? = some (.int .i64 0)) := Lib.hid (by rw [← h2]; rfl)
  have HM2 : Hid (m.vals[2]? = some (.int .u32 m.rs)) := Lib.hid (by exact rfl)
  have HM3 : Hid (m.vals[3]? = some (.string m.da)) := Lib.hid (by exact rfl)
  have HK1 : Hid (Kp w w.heap.size [(w.heap.size + 1, 24, V0), (w.heap.size, 24, m.vals)] ((w.alloc (.cells m.vals.toArray 24)).alloc (.cells V0.toArray 24))) := Lib.hid (by
    have h := (Kp.start w).new 24 m.vals
    have e1 : (w.alloc (.cells m.vals.toArray 24)).heap.size = w.heap.size + 1 := by simp
    have h2 := h.new 24 V0
    rwa [e1] at h2)
  generalize m.vals = VM at *
  generalize hw1 : (w.alloc (.cells VM.toArray 24)).alloc (.cells V0.toArray 24) = w1 at *
  rw [hz0] at hw1
  go_enter Tryd.func15, Tryd.ntmps15
  go_upto_region 1 with (fail)
  clear hw1 hz0
  go_wp2_with (fail)
  refine (HBn.out _).mono ?_
  rintro e w99 ⟨rfl, rfl⟩
  have c0 : w1.cell? ⟨w.heap.size, 0, none⟩ = some (.int .i64 12) := HK1.out.tl.hd.at HM0.out
  have c1 : w1.cell? ⟨w.heap.size, 1, none⟩ = some (.int .i64 0) := HK1.out.tl.hd.at HM1.out
  go_upto_region 16 with (fail)
  clear c0 c1
  have hk2 := HK1.out.new 3 [.int .i64 0, .int .i64 1, .int .i64 4, .int .i64 4, .int .i64 (-1), .int .i64 (-1), .int .i64 (-1), .int .i64 (-1), .int .i64 7, .int .i64 6, .int .i64 (-1), .int .i64 (-1), .int .i64 8, .int .i64 8, .int .i64 8, .int .i64 8, .int .i64 24, .int .i64 24, .int .i64 24, .int .i64 24]
  have hg1 := HK1.out.hd.lt
  generalize hw2 : w1.alloc (.cells #[.int .i64 0, .int .i64 1, .int .i64 4, .int .i64 4, .int .i64 (-1), .int .i64 (-1), .int .i64 (-1), .int .i64 (-1), .int .i64 7, .int .i64 6, .int .i64 (-1), .int .i64 (-1), .int .i64 8, .int .i64 8, .int .i64 8, .int .i64 8, .int .i64 24, .int .i64 24, .int .i64 24, .int .i64 24] 3) = w2 at *
  obtain ⟨g, hg⟩ : ∃ g, g = w1.heap.size := ⟨_, rfl⟩
  rw [← hg] at hk2 hg1
  have HK2 := Lib.hid hk2
  have HG := Lib.hid hg1
  clear HK1 hk2 hg1
  go_upto_region 17 with (fail)
  try rw [hw2]
  try rw [← hg]
  clear hw2 hg
  have c2 : w2.cell? ⟨w.heap.size, 2, none⟩ = some (.int .u32 m.rs) := HK2.out.tl.tl.hd.at HM2.out
  obtain ⟨kq, kid, kid2⟩ := HN.out
  go_upto_region 18 with (fail)
  clear c2
  have hto := HK2.out.hd.c k _ HTO.out
  have hpi : (k : Int) < 20 := by omega
  generalize ptr6 (k : Int) = pt at *
  go_upto_region 19 with (fail)
  have hkc := HK2.out.tl.hd
  have htf := hkc.there V0.toArray.size (Nat.le_refl _)
  go_wp2_with (((with_reducible (change wpList _ _ _ _ _ _)); (first | (refine Great.wpList_readTo rfl _ rfl (.agg V0.toArray) (run_execN (T := 24) (l := #[]) (m := #[]) rfl (by simp) (HB0.out _)) ?_) | (refine wpList_store_mid rfl 24 _ _ rfl (w.heap.size + 1) 0 V0.toArray rfl rfl htf (by simpa using HI_V0.out) HO_V0.out ?_))))
  have hk5 := Bk.sets V0 0 _ _ hkc
  rw [puts_whole V0.toArray V0 (by simp)] at hk5
  refine bodyPost_ret (v := .tuple #[.agg V0.toArray, .bool false]) ?_ rfl ?_
  · exact results_cell2 rfl rfl rfl (run_loadVar_mid _ (w.heap.size + 1) 0 24 V0 _ hk5.range Tryd.underlying24 rfl HI_V0.out)
  · rw [HS.out]
    exact ⟨by rw [HV0.out], below_sets _ (by omega) 0 _ HK2.out.2.1⟩
set_option maxRecDepth 100000 in
set_option maxHeartbeats 4000000 in
theorem rsix_ptr0_some (m : Mg) (a b len : Int) (w : World) (hr : 0 ≤ m.rs ∧ m.rs < 4294967296) (hb : mtus a b = true) (h1 : m.kd = 12) (h2 : m.cd = 0) (hp : m.rs / 16777216 < 20) (hn : ¬ ptr6 (m.rs / 16777216) < 0) : Calls Tryd.prog 15 #[.agg m.vals.toArray, .int .i64 a, .int .i64 b, .int .i64 len] w (fun e w' => e = .returned (.tuple #[.agg (six m a b len).1.vals.toArray, .bool (six m a b len).2]) ∧ Below w.heap.size w w') := by
  have HS : Hid (six m a b len = (⟨4, 0, ptr6 (m.rs / 16777216), m.da⟩, true)) := Lib.hid (by unfold six; rw [hb, if_neg (by simp), if_neg (by omega), if_pos ⟨h1, .inl h2⟩, if_neg hn])
  have HBn : Hid (∀ W, Calls Tryd.prog 23 #[.int .i64 a, .int .i64 b] W fun e w' => e = .returned (.bool true) ∧ W = w') := Lib.hid (fun W => by rw [← hb]; exact rbounds_any a b W)
  clear hb
  obtain ⟨k, hk⟩ : ∃ k : Nat, m.rs / 16777216 = (k : Int) := ⟨(m.rs / 16777216).toNat, by omega⟩
  have kq : m.rs.tdiv 16777216 = (k : Int) := by rw [Int.tdiv_eq_ediv_of_nonneg hr.1, hk]
  have k256 : k < 256 := by omega
  have kid : IntKind.i64.wrap (k : Int) = (k : Int) := IntWalk.i64_in _ (by omega)
  have kid2 : IntKind.u32.wrap (k : Int) = (k : Int) := by rw [IntKind.wrap_u32]; omega
  rw [hk] at HS hp hn
  have hkk : k < 20 := by omega
  have HTO := Lib.hid (to_at k hkk)
  have hpb : -1 ≤ ptr6 (k : Int) ∧ ptr6 (k : Int) ≤ 24 := by unfold ptr6; omega
  have HN := Lib.hid (And.intro kq (And.intro kid kid2))
  clear kq kid kid2 hk
  obtain ⟨V0, hV0⟩ : ∃ V, V = mg0.vals := ⟨_, rfl⟩
  have HB0 : Hid (∀ W, (Instr.build 24 #[]).run Tryd.prog W = .ok (.agg V0.toArray) W) := Lib.hid (fun W => by rw [hV0]; exact mgBuild W)
  have HI_V0 : Hid ((Tryd.prog.info? 24).map (·.size) = some V0.length) := Lib.hid (by rw [hV0]; exact Tryd.infoMg _)
  have HO_V0 : Hid (V0.toArray.all (·.oneCell') = true) := Lib.hid (by rw [hV0]; exact mg_one _)
  have HL_V0 : Hid (V0.length = 4) := Lib.hid (by rw [hV0]; rfl)
  have hz0 : V0.toArray = #[.int .i64 0, .int .i64 0, .int .u32 0, .string ⟨#[]⟩] := by rw [hV0]; rfl
  have HV0 := Lib.hid hV0
  clear hV0
  have HI_VM : Hid ((Tryd.prog.info? 24).map (·.size) = some m.vals.length) := Lib.hid (Tryd.infoMg _)
  have HM0 : Hid (m.vals[0]? = some (.int .i64 12)) := Lib.hid (by rw [← h1]; rfl)
  have HM1 : Hid (m.vals[1]? = some (.int .i64 0)) := Lib.hid (by rw [← h2]; rfl)
  have HM2 : Hid (m.vals[2]? = some (.int .u32 m.rs)) := Lib.hid (by exact rfl)
  have HM3 : Hid (m.vals[3]? = some (.string m.da)) := Lib.hid (by exact rfl)
  have HK1 : Hid (Kp w w.heap.size [(w.heap.size + 1, 24, V0), (w.heap.size, 24, m.vals)] ((w.alloc (.cells m.vals.toArray 24)).alloc (.cells V0.toArray 24))) := Lib.hid (by
    have h := (Kp.start w).new 24 m.vals
    have e1 : (w.alloc (.cells m.vals.toArray 24)).heap.size = w.heap.size + 1 := by simp
    have h2 := h.new 24 V0
    rwa [e1] at h2)
  generalize m.vals = VM at *
  generalize hw1 : (w.alloc (.cells VM.toArray 24)).alloc (.cells V0.toArray 24) = w1 at *
  rw [hz0] at hw1
  go_enter Tryd.func15, Tryd.ntmps15
  go_upto_region 1 with (fail)
  clear hw1 hz0
  go_wp2_with (fail)
  refine (HBn.out _).mono ?_
  rintro e w99 ⟨rfl, rfl⟩
  have c0 : w1.cell? ⟨w.heap.size, 0, none⟩ = some (.int .i64 12) := HK1.out.tl.hd.at HM0.out
  have c1 : w1.cell? ⟨w.heap.size, 1, none⟩ = some (.int .i64 0) := HK1.out.tl.hd.at HM1.out
  go_upto_region 16 with (fail)
  clear c0 c1
  have hk2 := HK1.out.new 3 [.int .i64 0, .int .i64 1, .int .i64 4, .int .i64 4, .int .i64 (-1), .int .i64 (-1), .int .i64 (-1), .int .i64 (-1), .int .i64 7, .int .i64 6, .int .i64 (-1), .int .i64 (-1), .int .i64 8, .int .i64 8, .int .i64 8, .int .i64 8, .int .i64 24, .int .i64 24, .int .i64 24, .int .i64 24]
  have hg1 := HK1.out.hd.lt
  generalize hw2 : w1.alloc (.cells #[.int .i64 0, .int .i64 1, .int .i64 4, .int .i64 4, .int .i64 (-1), .int .i64 (-1), .int .i64 (-1), .int .i64 (-1), .int .i64 7, .int .i64 6, .int .i64 (-1), .int .i64 (-1), .int .i64 8, .int .i64 8, .int .i64 8, .int .i64 8, .int .i64 24, .int .i64 24, .int .i64 24, .int .i64 24] 3) = w2 at *
  obtain ⟨g, hg⟩ : ∃ g, g = w1.heap.size := ⟨_, rfl⟩
  rw [← hg] at hk2 hg1
  have HK2 := Lib.hid hk2
  have HG := Lib.hid hg1
  clear HK1 hk2 hg1
  go_upto_region 17 with (fail)
  try rw [hw2]
  try rw [← hg]
  clear hw2 hg
  have c2 : w2.cell? ⟨w.heap.size, 2, none⟩ = some (.int .u32 m.rs) := HK2.out.tl.tl.hd.at HM2.out
  obtain ⟨kq, kid, kid2⟩ := HN.out
  go_upto_region 18 with (fail)
  clear c2
  have hto := HK2.out.hd.c k _ HTO.out
  have hpi : (k : Int) < 20 := by omega
  generalize ptr6 (k : Int) = pt at *
  go_upto_region 20 with (fail)
  have kN : IntKind.u32.wrap pt = pt := by rw [IntKind.wrap_u32]; omega
  have c3 : w2.cell? ⟨w.heap.size, 3, none⟩ = some (.string m.da) := HK2.out.tl.tl.hd.at HM3.out
  have HKG : Hid (Kp w w.heap.size [(g, 3, [.int .i64 0, .int .i64 1, .int .i64 4, .int .i64 4, .int .i64 (-1), .int .i64 (-1), .int .i64 (-1), .int .i64 (-1), .int .i64 7, .int .i64 6, .int .i64 (-1), .int .i64 (-1), .int .i64 8, .int .i64 8, .int .i64 8, .int .i64 8, .int .i64 24, .int .i64 24, .int .i64 24, .int .i64 24]), (w.heap.size, 24, VM)] w2) := Lib.hid ⟨fun x hx => HK2.out.1 x (by simp only [List.mem_cons, List.not_mem_nil, or_false] at hx ⊢; rcases hx with h | h <;> simp [h]), HK2.out.2⟩
  have HKR : Hid (∀ W : World, Kp w w.heap.size [(g, 3, [.int .i64 0, .int .i64 1, .int .i64 4, .int .i64 4, .int .i64 (-1), .int .i64 (-1), .int .i64 (-1), .int .i64 (-1), .int .i64 7, .int .i64 6, .int .i64 (-1), .int .i64 (-1), .int .i64 8, .int .i64 8, .int .i64 8, .int .i64 8, .int .i64 24, .int .i64 24, .int .i64 24, .int .i64 24]), (w.heap.size, 24, VM)] W → (fun w' => Kp w w.heap.size [(g, 3, [.int .i64 0, .int .i64 1, .int .i64 4, .int .i64 4, .int .i64 (-1), .int .i64 (-1), .int .i64 (-1), .int .i64 (-1), .int .i64 7, .int .i64 6, .int .i64 (-1), .int .i64 (-1), .int .i64 8, .int .i64 8, .int .i64 8, .int .i64 8, .int .i64 24, .int .i64 24, .int .i64 24, .int .i64 24]), (w.heap.size, 24, VM)] w' ∧ w'.cell? ⟨g, k, none⟩ = some (.int .i64 pt) ∧ w'.cell? ⟨w.heap.size, 3, none⟩ = some (.string m.da)) W) := Lib.hid (fun W h => ⟨h, h.hd.c k _ HTO.out, h.tl.hd.at HM3.out⟩)
  have HNE : Hid (∀ x ∈ ([(g, 3, [.int .i64 0, .int .i64 1, .int .i64 4, .int .i64 4, .int .i64 (-1), .int .i64 (-1), .int .i64 (-1), .int .i64 (-1), .int .i64 7, .int .i64 6, .int .i64 (-1), .int .i64 (-1), .int .i64 8, .int .i64 8, .int .i64 8, .int .i64 8, .int .i64 24, .int .i64 24, .int .i64 24, .int .i64 24]), (w.heap.size, 24, VM)] : List (Nat × TypeId × List Value)), x.1 ≠ w.heap.size + 1) := Lib.hid (by
    have hg := HG.out
    intro x hx
    simp only [List.mem_cons, List.not_mem_nil, or_false] at hx
    rcases hx with rfl | rfl <;> (show _ ≠ w.heap.size + 1; omega))
  have HIN : Hid ((Tryd.prog.info? 24).map (·.size) = some ([.int .i64 4, .int .i64 0, .int .u32 pt, .string m.da] : List Value).length) := Lib.hid (Tryd.infoMg (⟨4, 0, pt, m.da⟩ : Mg))
  have hkc := HK2.out.drew.tl.hd
  have HK5 := Lib.hid (Bk.sets [.int .i64 4, .int .i64 0, .int .u32 pt, .string m.da] 0 _ _ hkc)
  have HTF := Lib.hid (HK2.out.tl.hd.there 4 (by have := HL_V0.out; simp; omega))
  have HBB := Lib.hid HK2.out.drew.2.1
  refine wp_region_noPanic ?_
  refine wp_region_held_drew (S := fun w' => Kp w w.heap.size [(g, 3, [.int .i64 0, .int .i64 1, .int .i64 4, .int .i64 4, .int .i64 (-1), .int .i64 (-1), .int .i64 (-1), .int .i64 (-1), .int .i64 7, .int .i64 6, .int .i64 (-1), .int .i64 (-1), .int .i64 8, .int .i64 8, .int .i64 8, .int .i64 8, .int .i64 24, .int .i64 24, .int .i64 24, .int .i64 24]), (w.heap.size, 24, VM)] w' ∧ w'.cell? ⟨g, k, none⟩ = some (.int .i64 pt) ∧ w'.cell? ⟨w.heap.size, 3, none⟩ = some (.string m.da)) (by kernel_rfl) (HKR.out _ HKG.out.drew) (fun hHeld => ?_)
  refine wpAnyH_take (i := 0) (oi := { dst := some 86, op := Op.move (Operand.tmp 12), type := 40, pos := "ref.go:81", after := #[], guard := none }) (v := ?_) rfl (by kernel_rfl) (by kernel_rfl) (by kernel_rfl) (fun _ _ _ h => h) (Or.inl ⟨by rfl, ?_⟩) (by assumption) ?_
  rotate_left
  · (intro ww hSw; (try dsimp only at hSw); go_simp; try with_reducible rfl)
  (try simp only [Act.put, List.setIfInBounds_toArray, List.set_cons_zero, List.set_cons_succ])
  refine wpAnyH_take (i := 1) (oi := { dst := some 87, op := Op.move (Operand.tmp 13), type := 3, pos := "ref.go:81", after := #[], guard := none }) (v := ?_) rfl (by kernel_rfl) (by kernel_rfl) (by kernel_rfl) (fun _ _ _ h => h) (Or.inl ⟨by rfl, ?_⟩) (by assumption) ?_
  rotate_left
  · (intro ww hSw; (try dsimp only at hSw); go_simp; try with_reducible rfl)
  (try simp only [Act.put, List.setIfInBounds_toArray, List.set_cons_zero, List.set_cons_succ])
  refine wpAnyH_take (i := 2) (oi := { dst := some 88, op := Op.indexAddr 40 (Operand.tmp 86) (Operand.tmp 87), type := 0, pos := "ref.go:81", after := #[{ on := 0, ground := Ground.data }, { on := 1, ground := Ground.data }], guard := none }) (v := ?_) rfl (by kernel_rfl) (by kernel_rfl) (by kernel_rfl) (fun _ _ _ h => h) (Or.inl ⟨by rfl, ?_⟩) (by assumption) ?_
  rotate_left
  · (intro ww hSw; (try dsimp only at hSw); go_simp; try with_reducible rfl)
  (try simp only [Act.put, List.setIfInBounds_toArray, List.set_cons_zero, List.set_cons_succ])
  refine wpAnyH_take (i := 3) (oi := { dst := some 89, op := Op.load 3 (Operand.tmp 88), type := 3, pos := "ref.go:81", after := #[{ on := 2, ground := Ground.data }], guard := none }) (v := ?_) rfl (by kernel_rfl) (by kernel_rfl) (by kernel_rfl) (fun _ _ _ h => h) (Or.inl ⟨by rfl, ?_⟩) (by assumption) ?_
  rotate_left
  · (intro ww hSw; (try dsimp only at hSw); go_simp; try with_reducible rfl)
  (try simp only [Act.put, List.setIfInBounds_toArray, List.set_cons_zero, List.set_cons_succ])
  refine wpAnyH_take (i := 4) (oi := { dst := some 90, op := Op.convert 3 22 (Operand.tmp 89), type := 22, pos := "ref.go:81", after := #[{ on := 3, ground := Ground.data }], guard := none }) (v := ?_) rfl (by kernel_rfl) (by kernel_rfl) (by kernel_rfl) (fun _ _ _ h => h) (Or.inl ⟨by rfl, ?_⟩) (by assumption) ?_
  rotate_left
  · (intro ww hSw; (try dsimp only at hSw); go_simp; try with_reducible rfl)
  (try simp only [Act.put, List.setIfInBounds_toArray, List.set_cons_zero, List.set_cons_succ])
  refine wpAnyH_take (i := 5) (oi := { dst := some 91, op := Op.fieldAddr 24 (Operand.tmp 4) 3, type := 0, pos := "ref.go:81", after := #[], guard := none }) (v := ?_) rfl (by kernel_rfl) (by kernel_rfl) (by kernel_rfl) (fun _ _ _ h => h) (Or.inl ⟨by rfl, ?_⟩) (by assumption) ?_
  rotate_left
  · (intro ww hSw; (try dsimp only at hSw); go_simp; try with_reducible rfl)
  (try simp only [Act.put, List.setIfInBounds_toArray, List.set_cons_zero, List.set_cons_succ])
  refine wpAnyH_take (i := 6) (oi := { dst := some 92, op := Op.load 9 (Operand.tmp 91), type := 9, pos := "ref.go:81", after := #[{ on := 5, ground := Ground.data }], guard := none }) (v := ?_) rfl (by kernel_rfl) (by kernel_rfl) (by kernel_rfl) (fun _ _ _ h => h) (Or.inl ⟨by rfl, ?_⟩) (by assumption) ?_
  rotate_left
  · (intro ww hSw; (try dsimp only at hSw); go_simp; try with_reducible rfl)
  (try simp only [Act.put, List.setIfInBounds_toArray, List.set_cons_zero, List.set_cons_succ])
  refine wpAnyH_take (i := 7) (oi := { dst := some 93, op := Op.build 24 #[(0, Operand.const (Value.int IntKind.i64 4)), (2, Operand.tmp 90), (3, Operand.tmp 92)], type := 24, pos := "ref.go:81", after := #[{ on := 4, ground := Ground.data }, { on := 6, ground := Ground.data }], guard := none }) (v := ?_) rfl (by kernel_rfl) (by kernel_rfl) (by kernel_rfl) (fun _ _ _ h => h) (Or.inl ⟨by rfl, ?_⟩) (by assumption) ?_
  rotate_left
  · (intro ww hSw; (try dsimp only at hSw); go_simp; try with_reducible rfl)
  (try simp only [Act.put, List.setIfInBounds_toArray, List.set_cons_zero, List.set_cons_succ])
  refine wpAnyH_ready (rs := [8]) (by kernel_rfl) (by simp) ?_
  refine AllReadyH.cons (o := { dst := none, op := Op.store 24 (Operand.tmp 8) (Operand.tmp 93), type := 0, pos := "ref.go:81", after := #[{ on := 7, ground := Ground.data }, { on := 0, ground := Ground.phase }, { on := 1, ground := Ground.phase }, { on := 2, ground := Ground.phase }, { on := 3, ground := Ground.phase }, { on := 4, ground := Ground.phase }, { on := 5, ground := Ground.phase }, { on := 6, ground := Ground.phase }, { on := 7, ground := Ground.phase }], guard := none }) rfl (fun K hK => ?_) AllReadyH.nil
  rw [if_pos (by rfl)]
  refine wp_store_mid 24 _ _ rfl (w.heap.size + 1) 0 ([.int .i64 4, .int .i64 0, .int .u32 pt, .string m.da] : List Value).toArray rfl rfl HTF.out (by simpa using HIN.out) (by simp [Value.oneCell']) ?_
  refine hK.out _ _ (HKR.out _ ((And.left hHeld).sets HNE.out (by omega) 0 _)) (fun hHeld => ?_)
  clear hK K
  (try simp only [Act.put])
  refine wpAnyH_take (i := 9) (oi := { dst := some 9, op := Op.assign (Operand.const (Value.bool true)), type := 4, pos := "ref.go:81", after := #[{ on := 8, ground := Ground.chain }, { on := 0, ground := Ground.phase }, { on := 1, ground := Ground.phase }, { on := 2, ground := Ground.phase }, { on := 3, ground := Ground.phase }, { on := 4, ground := Ground.phase }, { on := 5, ground := Ground.phase }, { on := 6, ground := Ground.phase }, { on := 7, ground := Ground.phase }, { on := 8, ground := Ground.phase }], guard := none }) (v := ?_) rfl (by kernel_rfl) (by kernel_rfl) (by kernel_rfl) (fun _ _ _ h => h) (Or.inl ⟨by rfl, ?_⟩) (by assumption) ?_
  rotate_left
  · (intro ww hSw; (try dsimp only at hSw); go_simp; try with_reducible rfl)
  (try simp only [Act.put, List.setIfInBounds_toArray, List.set_cons_zero, List.set_cons_succ])
  refine wpAnyH_done (by kernel_rfl) ?_ _
  refine NoPanic.normal ?_
  have hk5 := HK5.out
  rw [puts_whole V0.toArray [.int .i64 4, .int .i64 0, .int .u32 pt, .string m.da] (by have := HL_V0.out; simp; omega)] at hk5
  go_wp2_with fail
  refine bodyPost_ret (v := .tuple #[.agg ([.int .i64 4, .int .i64 0, .int .u32 pt, .string m.da] : List Value).toArray, .bool true]) ?_ rfl ?_
  · exact results_cell2 rfl rfl rfl (run_loadVar_mid _ (w.heap.size + 1) 0 24 [.int .i64 4, .int .i64 0, .int .u32 pt, .string m.da] _ hk5.range Tryd.underlying24 rfl HIN.out)
  · rw [HS.out]
    exact ⟨rfl, below_sets _ (by omega) 0 _ HBB.out⟩
set_option maxRecDepth 100000 in
set_option maxHeartbeats 4000000 in
theorem rsix_ptr2_far (m : Mg) (a b len : Int) (w : World) (hr : 0 ≤ m.rs ∧ m.rs < 4294967296) (hb : mtus a b = true) (h1 : m.kd = 12) (h2 : m.cd = 2) (hp : 20 ≤ m.rs / 16777216) : Calls Tryd.prog 15 #[.agg m.vals.toArray, .int .i64 a, .int .i64 b, .int .i64 len] w (fun e w' => e = .returned (.tuple #[.agg (six m a b len).1.vals.toArray, .bool (six m a b len).2]) ∧ Below w.heap.size w w') := by
  have HS : Hid (six m a b len = (mg0, false)) := Lib.hid (by unfold six; rw [hb, if_neg (by simp), if_neg (by omega), if_pos ⟨h1, .inr h2⟩, if_pos (to_far _ hp)])
  have HBn : Hid (∀ W, Calls Tryd.prog 23 #[.int .i64 a, .int .i64 b] W fun e w' => e = .returned (.bool true) ∧ W = w') := Lib.hid (fun W => by rw [← hb]; exact rbounds_any a b W)
  clear hb
  obtain ⟨k, hk⟩ : ∃ k : Nat, m.rs / 16777216 = (k : Int) := ⟨(m.rs / 16777216).toNat, by omega⟩
  have kq : m.rs.tdiv 16777216 = (k : Int) := by rw [Int.tdiv_eq_ediv_of_nonneg hr.1, hk]
  have k256 : k < 256 := by omega
  have kid : IntKind.i64.wrap (k : Int) = (k : Int) := IntWalk.i64_in _ (by omega)
  have kid2 : IntKind.u32.wrap (k : Int) = (k : Int) := by rw [IntKind.wrap_u32]; omega
  rw [hk] at hp
  have HN := Lib.hid (And.intro kq (And.intro kid kid2))
  clear kq kid kid2 hk
  obtain ⟨V0, hV0⟩ : ∃ V, V = mg0.vals := ⟨_, rfl⟩
  have HB0 : Hid (∀ W, (Instr.build 24 #[]).run Tryd.prog W = .ok (.agg V0.toArray) W) := Lib.hid (fun W => by rw [hV0]; exact mgBuild W)
  have HI_V0 : Hid ((Tryd.prog.info? 24).map (·.size) = some V0.length) := Lib.hid (by rw [hV0]; exact Tryd.infoMg _)
  have HO_V0 : Hid (V0.toArray.all (·.oneCell') = true) := Lib.hid (by rw [hV0]; exact mg_one _)
  have HL_V0 : Hid (V0.length = 4) := Lib.hid (by rw [hV0]; rfl)
  have hz0 : V0.toArray = #[.int .i64 0, .int .i64 0, .int .u32 0, .string ⟨#[]⟩] := by rw [hV0]; rfl
  have HV0 := Lib.hid hV0
  clear hV0
  have HI_VM : Hid ((Tryd.prog.info? 24).map (·.size) = some m.vals.length) := Lib.hid (Tryd.infoMg _)
  have HM0 : Hid (m.vals[0]? = some (.int .i64 12)) := Lib.hid (by rw [← h1]; rfl)
  have HM1 : Hid (m.vals[1]? = some (.int .i64 2)) := Lib.hid (by rw [← h2]; rfl)
  have HM2 : Hid (m.vals[2]? = some (.int .u32 m.rs)) := Lib.hid (by exact rfl)
  have HM3 : Hid (m.vals[3]? = some (.string m.da)) := Lib.hid (by exact rfl)
  have HK1 : Hid (Kp w w.heap.size [(w.heap.size + 1, 24, V0), (w.heap.size, 24, m.vals)] ((w.alloc (.cells m.vals.toArray 24)).alloc (.cells V0.toArray 24))) := Lib.hid (by
    have h := (Kp.start w).new 24 m.vals
    have e1 : (w.alloc (.cells m.vals.toArray 24)).heap.size = w.heap.size + 1 := by simp
    have h2 := h.new 24 V0
    rwa [e1] at h2)
  generalize m.vals = VM at *
  generalize hw1 : (w.alloc (.cells VM.toArray 24)).alloc (.cells V0.toArray 24) = w1 at *
  rw [hz0] at hw1
  go_enter Tryd.func15, Tryd.ntmps15
  go_upto_region 1 with (fail)
  clear hw1 hz0
  go_wp2_with (fail)
  refine (HBn.out _).mono ?_
  rintro e w99 ⟨rfl, rfl⟩
  have c0 : w1.cell? ⟨w.heap.size, 0, none⟩ = some (.int .i64 12) := HK1.out.tl.hd.at HM0.out
  have c1 : w1.cell? ⟨w.heap.size, 1, none⟩ = some (.int .i64 2) := HK1.out.tl.hd.at HM1.out
  go_upto_region 16 with (fail)
  clear c0 c1
  have hk2 := HK1.out.new 3 [.int .i64 0, .int .i64 1, .int .i64 4, .int .i64 4, .int .i64 (-1), .int .i64 (-1), .int .i64 (-1), .int .i64 (-1), .int .i64 7, .int .i64 6, .int .i64 (-1), .int .i64 (-1), .int .i64 8, .int .i64 8, .int .i64 8, .int .i64 8, .int .i64 24, .int .i64 24, .int .i64 24, .int .i64 24]
  have hg1 := HK1.out.hd.lt
  generalize hw2 : w1.alloc (.cells #[.int .i64 0, .int .i64 1, .int .i64 4, .int .i64 4, .int .i64 (-1), .int .i64 (-1), .int .i64 (-1), .int .i64 (-1), .int .i64 7, .int .i64 6, .int .i64 (-1), .int .i64 (-1), .int .i64 8, .int .i64 8, .int .i64 8, .int .i64 8, .int .i64 24, .int .i64 24, .int .i64 24, .int .i64 24] 3) = w2 at *
  obtain ⟨g, hg⟩ : ∃ g, g = w1.heap.size := ⟨_, rfl⟩
  rw [← hg] at hk2 hg1
  have HK2 := Lib.hid hk2
  have HG := Lib.hid hg1
  clear HK1 hk2 hg1
  go_upto_region 17 with (fail)
  try rw [hw2]
  try rw [← hg]
  clear hw2 hg
  have c2 : w2.cell? ⟨w.heap.size, 2, none⟩ = some (.int .u32 m.rs) := HK2.out.tl.tl.hd.at HM2.out
  obtain ⟨kq, kid, kid2⟩ := HN.out
  go_upto_region 18 with (fail)
  clear c2
  go_upto_region 19 with (fail)
  have hkc := HK2.out.tl.hd
  have htf := hkc.there V0.toArray.size (Nat.le_refl _)
  go_wp2_with (((with_reducible (change wpList _ _ _ _ _ _)); (first | (refine Great.wpList_readTo rfl _ rfl (.agg V0.toArray) (run_execN (T := 24) (l := #[]) (m := #[]) rfl (by simp) (HB0.out _)) ?_) | (refine wpList_store_mid rfl 24 _ _ rfl (w.heap.size + 1) 0 V0.toArray rfl rfl htf (by simpa using HI_V0.out) HO_V0.out ?_))))
  have hk5 := Bk.sets V0 0 _ _ hkc
  rw [puts_whole V0.toArray V0 (by simp)] at hk5
  refine bodyPost_ret (v := .tuple #[.agg V0.toArray, .bool false]) ?_ rfl ?_
  · exact results_cell2 rfl rfl rfl (run_loadVar_mid _ (w.heap.size + 1) 0 24 V0 _ hk5.range Tryd.underlying24 rfl HI_V0.out)
  · rw [HS.out]
    exact ⟨by rw [HV0.out], below_sets _ (by omega) 0 _ HK2.out.2.1⟩
set_option maxRecDepth 100000 in
set_option maxHeartbeats 4000000 in
theorem rsix_ptr2_none (m : Mg) (a b len : Int) (w : World) (hr : 0 ≤ m.rs ∧ m.rs < 4294967296) (hb : mtus a b = true) (h1 : m.kd = 12) (h2 : m.cd = 2) (hp : m.rs / 16777216 < 20) (hn : ptr6 (m.rs / 16777216) < 0) : Calls Tryd.prog 15 #[.agg m.vals.toArray, .int .i64 a, .int .i64 b, .int .i64 len] w (fun e w' => e = .returned (.tuple #[.agg (six m a b len).1.vals.toArray, .bool (six m a b len).2]) ∧ Below w.heap.size w w') := by
  have HS : Hid (six m a b len = (mg0, false)) := Lib.hid (by unfold six; rw [hb, if_neg (by simp), if_neg (by omega), if_pos ⟨h1, .inr h2⟩, if_pos hn])
  have HBn : Hid (∀ W, Calls Tryd.prog 23 #[.int .i64 a, .int .i64 b] W fun e w' => e = .returned (.bool true) ∧ W = w') := Lib.hid (fun W => by rw [← hb]; exact rbounds_any a b W)
  clear hb
  obtain ⟨k, hk⟩ : ∃ k : Nat, m.rs / 16777216 = (k : Int) := ⟨(m.rs / 16777216).toNat, by omega⟩
  have kq : m.rs.tdiv 16777216 = (k : Int) := by rw [Int.tdiv_eq_ediv_of_nonneg hr.1, hk]
  have k256 : k < 256 := by omega
  have kid : IntKind.i64.wrap (k : Int) = (k : Int) := IntWalk.i64_in _ (by omega)
  have kid2 : IntKind.u32.wrap (k : Int) = (k : Int) := by rw [IntKind.wrap_u32]; omega
  rw [hk] at hp hn
  have hkk : k < 20 := by omega
  have HTO := Lib.hid (to_at k hkk)
  have hpb : -1 ≤ ptr6 (k : Int) ∧ ptr6 (k : Int) ≤ 24 := by unfold ptr6; omega
  have HN := Lib.hid (And.intro kq (And.intro kid kid2))
  clear kq kid kid2 hk
  obtain ⟨V0, hV0⟩ : ∃ V, V = mg0.vals := ⟨_, rfl⟩
  have HB0 : Hid (∀ W, (Instr.build 24 #[]).run Tryd.prog W = .ok (.agg V0.toArray) W) := Lib.hid (fun W => by rw [hV0]; exact mgBuild W)
  have HI_V0 : Hid ((Tryd.prog.info? 24).map (·.size) = some V0.length) := Lib.hid (by rw [hV0]; exact Tryd.infoMg _)
  have HO_V0 : Hid (V0.toArray.all (·.oneCell') = true) := Lib.hid (by rw [hV0]; exact mg_one _)
  have HL_V0 : Hid (V0.length = 4) := Lib.hid (by rw [hV0]; rfl)
  have hz0 : V0.toArray = #[.int .i64 0, .int .i64 0, .int .u32 0, .string ⟨#[]⟩] := by rw [hV0]; rfl
  have HV0 := Lib.hid hV0
  clear hV0
  have HI_VM : Hid ((Tryd.prog.info? 24).map (·.size) = some m.vals.length) := Lib.hid (Tryd.infoMg _)
  have HM0 : Hid (m.vals[0]? = some (.int .i64 12)) := Lib.hid (by rw [← h1]; rfl)
  have HM1 : Hid (m.vals[1]? = some (.int .i64 2)) := Lib.hid (by rw [← h2]; rfl)
  have HM2 : Hid (m.vals[2]? = some (.int .u32 m.rs)) := Lib.hid (by exact rfl)
  have HM3 : Hid (m.vals[3]? = some (.string m.da)) := Lib.hid (by exact rfl)
  have HK1 : Hid (Kp w w.heap.size [(w.heap.size + 1, 24, V0), (w.heap.size, 24, m.vals)] ((w.alloc (.cells m.vals.toArray 24)).alloc (.cells V0.toArray 24))) := Lib.hid (by
    have h := (Kp.start w).new 24 m.vals
    have e1 : (w.alloc (.cells m.vals.toArray 24)).heap.size = w.heap.size + 1 := by simp
    have h2 := h.new 24 V0
    rwa [e1] at h2)
  generalize m.vals = VM at *
  generalize hw1 : (w.alloc (.cells VM.toArray 24)).alloc (.cells V0.toArray 24) = w1 at *
  rw [hz0] at hw1
  go_enter Tryd.func15, Tryd.ntmps15
  go_upto_region 1 with (fail)
  clear hw1 hz0
  go_wp2_with (fail)
  refine (HBn.out _).mono ?_
  rintro e w99 ⟨rfl, rfl⟩
  have c0 : w1.cell? ⟨w.heap.size, 0, none⟩ = some (.int .i64 12) := HK1.out.tl.hd.at HM0.out
  have c1 : w1.cell? ⟨w.heap.size, 1, none⟩ = some (.int .i64 2) := HK1.out.tl.hd.at HM1.out
  go_upto_region 16 with (fail)
  clear c0 c1
  have hk2 := HK1.out.new 3 [.int .i64 0, .int .i64 1, .int .i64 4, .int .i64 4, .int .i64 (-1), .int .i64 (-1), .int .i64 (-1), .int .i64 (-1), .int .i64 7, .int .i64 6, .int .i64 (-1), .int .i64 (-1), .int .i64 8, .int .i64 8, .int .i64 8, .int .i64 8, .int .i64 24, .int .i64 24, .int .i64 24, .int .i64 24]
  have hg1 := HK1.out.hd.lt
  generalize hw2 : w1.alloc (.cells #[.int .i64 0, .int .i64 1, .int .i64 4, .int .i64 4, .int .i64 (-1), .int .i64 (-1), .int .i64 (-1), .int .i64 (-1), .int .i64 7, .int .i64 6, .int .i64 (-1), .int .i64 (-1), .int .i64 8, .int .i64 8, .int .i64 8, .int .i64 8, .int .i64 24, .int .i64 24, .int .i64 24, .int .i64 24] 3) = w2 at *
  obtain ⟨g, hg⟩ : ∃ g, g = w1.heap.size := ⟨_, rfl⟩
  rw [← hg] at hk2 hg1
  have HK2 := Lib.hid hk2
  have HG := Lib.hid hg1
  clear HK1 hk2 hg1
  go_upto_region 17 with (fail)
  try rw [hw2]
  try rw [← hg]
  clear hw2 hg
  have c2 : w2.cell? ⟨w.heap.size, 2, none⟩ = some (.int .u32 m.rs) := HK2.out.tl.tl.hd.at HM2.out
  obtain ⟨kq, kid, kid2⟩ := HN.out
  go_upto_region 18 with (fail)
  clear c2
  have hto := HK2.out.hd.c k _ HTO.out
  have hpi : (k : Int) < 20 := by omega
  generalize ptr6 (k : Int) = pt at *
  go_upto_region 19 with (fail)
  have hkc := HK2.out.tl.hd
  have htf := hkc.there V0.toArray.size (Nat.le_refl _)
  go_wp2_with (((with_reducible (change wpList _ _ _ _ _ _)); (first | (refine Great.wpList_readTo rfl _ rfl (.agg V0.toArray) (run_execN (T := 24) (l := #[]) (m := #[]) rfl (by simp) (HB0.out _)) ?_) | (refine wpList_store_mid rfl 24 _ _ rfl (w.heap.size + 1) 0 V0.toArray rfl rfl htf (by simpa using HI_V0.out) HO_V0.out ?_))))
  have hk5 := Bk.sets V0 0 _ _ hkc
  rw [puts_whole V0.toArray V0 (by simp)] at hk5
  refine bodyPost_ret (v := .tuple #[.agg V0.toArray, .bool false]) ?_ rfl ?_
  · exact results_cell2 rfl rfl rfl (run_loadVar_mid _ (w.heap.size + 1) 0 24 V0 _ hk5.range Tryd.underlying24 rfl HI_V0.out)
  · rw [HS.out]
    exact ⟨by rw [HV0.out], below_sets _ (by omega) 0 _ HK2.out.2.1⟩
set_option maxRecDepth 100000 in
set_option maxHeartbeats 4000000 in
theorem rsix_ptr2_some (m : Mg) (a b len : Int) (w : World) (hr : 0 ≤ m.rs ∧ m.rs < 4294967296) (hb : mtus a b = true) (h1 : m.kd = 12) (h2 : m.cd = 2) (hp : m.rs / 16777216 < 20) (hn : ¬ ptr6 (m.rs / 16777216) < 0) : Calls Tryd.prog 15 #[.agg m.vals.toArray, .int .i64 a, .int .i64 b, .int .i64 len] w (fun e w' => e = .returned (.tuple #[.agg (six m a b len).1.vals.toArray, .bool (six m a b len).2]) ∧ Below w.heap.size w w') := by
  have HS : Hid (six m a b len = (⟨4, 0, ptr6 (m.rs / 16777216), m.da⟩, true)) := Lib.hid (by unfold six; rw [hb, if_neg (by simp), if_neg (by omega), if_pos ⟨h1, .inr h2⟩, if_neg hn])
  have HBn : Hid (∀ W, Calls Tryd.prog 23 #[.int .i64 a, .int .i64 b] W fun e w' => e = .returned (.bool true) ∧ W = w') := Lib.hid (fun W => by rw [← hb]; exact rbounds_any a b W)
  clear hb
  obtain ⟨k, hk⟩ : ∃ k : Nat, m.rs / 16777216 = (k : Int) := ⟨(m.rs / 16777216).toNat, by omega⟩
  have kq : m.rs.tdiv 16777216 = (k : Int) := by rw [Int.tdiv_eq_ediv_of_nonneg hr.1, hk]
  have k256 : k < 256 := by omega
  have kid : IntKind.i64.wrap (k : Int) = (k : Int) := IntWalk.i64_in _ (by omega)
  have kid2 : IntKind.u32.wrap (k : Int) = (k : Int) := by rw [IntKind.wrap_u32]; omega
  rw [hk] at HS hp hn
  have hkk : k < 20 := by omega
  have HTO := Lib.hid (to_at k hkk)
  have hpb : -1 ≤ ptr6 (k : Int) ∧ ptr6 (k : Int) ≤ 24 := by unfold ptr6; omega
  have HN := Lib.hid (And.intro kq (And.intro kid kid2))
  clear kq kid kid2 hk
  obtain ⟨V0, hV0⟩ : ∃ V, V = mg0.vals := ⟨_, rfl⟩
  have HB0 : Hid (∀ W, (Instr.build 24 #[]).run Tryd.prog W = .ok (.agg V0.toArray) W) := Lib.hid (fun W => by rw [hV0]; exact mgBuild W)
  have HI_V0 : Hid ((Tryd.prog.info? 24).map (·.size) = some V0.length) := Lib.hid (by rw [hV0]; exact Tryd.infoMg _)
  have HO_V0 : Hid (V0.toArray.all (·.oneCell') = true) := Lib.hid (by rw [hV0]; exact mg_one _)
  have HL_V0 : Hid (V0.length = 4) := Lib.hid (by rw [hV0]; rfl)
  have hz0 : V0.toArray = #[.int .i64 0, .int .i64 0, .int .u32 0, .string ⟨#[]⟩] := by rw [hV0]; rfl
  have HV0 := Lib.hid hV0
  clear hV0
  have HI_VM : Hid ((Tryd.prog.info? 24).map (·.size) = some m.vals.length) := Lib.hid (Tryd.infoMg _)
  have HM0 : Hid (m.vals[0]? = some (.int .i64 12)) := Lib.hid (by rw [← h1]; rfl)
  have HM1 : Hid (m.vals[1]? = some (.int .i64 2)) := Lib.hid (by rw [← h2]; rfl)
  have HM2 : Hid (m.vals[2]? = some (.int .u32 m.rs)) := Lib.hid (by exact rfl)
  have HM3 : Hid (m.vals[3]? = some (.string m.da)) := Lib.hid (by exact rfl)
  have HK1 : Hid (Kp w w.heap.size [(w.heap.size + 1, 24, V0), (w.heap.size, 24, m.vals)] ((w.alloc (.cells m.vals.toArray 24)).alloc (.cells V0.toArray 24))) := Lib.hid (by
    have h := (Kp.start w).new 24 m.vals
    have e1 : (w.alloc (.cells m.vals.toArray 24)).heap.size = w.heap.size + 1 := by simp
    have h2 := h.new 24 V0
    rwa [e1] at h2)
  generalize m.vals = VM at *
  generalize hw1 : (w.alloc (.cells VM.toArray 24)).alloc (.cells V0.toArray 24) = w1 at *
  rw [hz0] at hw1
  go_enter Tryd.func15, Tryd.ntmps15
  go_upto_region 1 with (fail)
  clear hw1 hz0
  go_wp2_with (fail)
  refine (HBn.out _).mono ?_
  rintro e w99 ⟨rfl, rfl⟩
  have c0 : w1.cell? ⟨w.heap.size, 0, none⟩ = some (.int .i64 12) := HK1.out.tl.hd.at HM0.out
  have c1 : w1.cell? ⟨w.heap.size, 1, none⟩ = some (.int .i64 2) := HK1.out.tl.hd.at HM1.out
  go_upto_region 16 with (fail)
  clear c0 c1
  have hk2 := HK1.out.new 3 [.int .i64 0, .int .i64 1, .int .i64 4, .int .i64 4, .int .i64 (-1), .int .i64 (-1), .int .i64 (-1), .int .i64 (-1), .int .i64 7, .int .i64 6, .int .i64 (-1), .int .i64 (-1), .int .i64 8, .int .i64 8, .int .i64 8, .int .i64 8, .int .i64 24, .int .i64 24, .int .i64 24, .int .i64 24]
  have hg1 := HK1.out.hd.lt
  generalize hw2 : w1.alloc (.cells #[.int .i64 0, .int .i64 1, .int .i64 4, .int .i64 4, .int .i64 (-1), .int .i64 (-1), .int .i64 (-1), .int .i64 (-1), .int .i64 7, .int .i64 6, .int .i64 (-1), .int .i64 (-1), .int .i64 8, .int .i64 8, .int .i64 8, .int .i64 8, .int .i64 24, .int .i64 24, .int .i64 24, .int .i64 24] 3) = w2 at *
  obtain ⟨g, hg⟩ : ∃ g, g = w1.heap.size := ⟨_, rfl⟩
  rw [← hg] at hk2 hg1
  have HK2 := Lib.hid hk2
  have HG := Lib.hid hg1
  clear HK1 hk2 hg1
  go_upto_region 17 with (fail)
  try rw [hw2]
  try rw [← hg]
  clear hw2 hg
  have c2 : w2.cell? ⟨w.heap.size, 2, none⟩ = some (.int .u32 m.rs) := HK2.out.tl.tl.hd.at HM2.out
  obtain ⟨kq, kid, kid2⟩ := HN.out
  go_upto_region 18 with (fail)
  clear c2
  have hto := HK2.out.hd.c k _ HTO.out
  have hpi : (k : Int) < 20 := by omega
  generalize ptr6 (k : Int) = pt at *
  go_upto_region 20 with (fail)
  have kN : IntKind.u32.wrap pt = pt := by rw [IntKind.wrap_u32]; omega
  have c3 : w2.cell? ⟨w.heap.size, 3, none⟩ = some (.string m.da) := HK2.out.tl.tl.hd.at HM3.out
  have HKG : Hid (Kp w w.heap.size [(g, 3, [.int .i64 0, .int .i64 1, .int .i64 4, .int .i64 4, .int .i64 (-1), .int .i64 (-1), .int .i64 (-1), .int .i64 (-1), .int .i64 7, .int .i64 6, .int .i64 (-1), .int .i64 (-1), .int .i64 8, .int .i64 8, .int .i64 8, .int .i64 8, .int .i64 24, .int .i64 24, .int .i64 24, .int .i64 24]), (w.heap.size, 24, VM)] w2) := Lib.hid ⟨fun x hx => HK2.out.1 x (by simp only [List.mem_cons, List.not_mem_nil, or_false] at hx ⊢; rcases hx with h | h <;> simp [h]), HK2.out.2⟩
  have HKR : Hid (∀ W : World, Kp w w.heap.size [(g, 3, [.int .i64 0, .int .i64 1, .int .i64 4, .int .i64 4, .int .i64 (-1), .int .i64 (-1), .int .i64 (-1), .int .i64 (-1), .int .i64 7, .int .i64 6, .int .i64 (-1), .int .i64 (-1), .int .i64 8, .int .i64 8, .int .i64 8, .int .i64 8, .int .i64 24, .int .i64 24, .int .i64 24, .int .i64 24]), (w.heap.size, 24, VM)] W → (fun w' => Kp w w.heap.size [(g, 3, [.int .i64 0, .int .i64 1, .int .i64 4, .int .i64 4, .int .i64 (-1), .int .i64 (-1), .int .i64 (-1), .int .i64 (-1), .int .i64 7, .int .i64 6, .int .i64 (-1), .int .i64 (-1), .int .i64 8, .int .i64 8, .int .i64 8, .int .i64 8, .int .i64 24, .int .i64 24, .int .i64 24, .int .i64 24]), (w.heap.size, 24, VM)] w' ∧ w'.cell? ⟨g, k, none⟩ = some (.int .i64 pt) ∧ w'.cell? ⟨w.heap.size, 3, none⟩ = some (.string m.da)) W) := Lib.hid (fun W h => ⟨h, h.hd.c k _ HTO.out, h.tl.hd.at HM3.out⟩)
  have HNE : Hid (∀ x ∈ ([(g, 3, [.int .i64 0, .int .i64 1, .int .i64 4, .int .i64 4, .int .i64 (-1), .int .i64 (-1), .int .i64 (-1), .int .i64 (-1), .int .i64 7, .int .i64 6, .int .i64 (-1), .int .i64 (-1), .int .i64 8, .int .i64 8, .int .i64 8, .int .i64 8, .int .i64 24, .int .i64 24, .int .i64 24, .int .i64 24]), (w.heap.size, 24, VM)] : List (Nat × TypeId × List Value)), x.1 ≠ w.heap.size + 1) := Lib.hid (by
    have hg := HG.out
    intro x hx
    simp only [List.mem_cons, List.not_mem_nil, or_false] at hx
    rcases hx with rfl | rfl <;> (show _ ≠ w.heap.size + 1; omega))
  have HIN : Hid ((Tryd.prog.info? 24).map (·.size) = some ([.int .i64 4, .int .i64 0, .int .u32 pt, .string m.da] : List Value).length) := Lib.hid (Tryd.infoMg (⟨4, 0, pt, m.da⟩ : Mg))
  have hkc := HK2.out.drew.tl.hd
  have HK5 := Lib.hid (Bk.sets [.int .i64 4, .int .i64 0, .int .u32 pt, .string m.da] 0 _ _ hkc)
  have HTF := Lib.hid (HK2.out.tl.hd.there 4 (by have := HL_V0.out; simp; omega))
  have HBB := Lib.hid HK2.out.drew.2.1
  refine wp_region_noPanic ?_
  refine wp_region_held_drew (S := fun w' => Kp w w.heap.size [(g, 3, [.int .i64 0, .int .i64 1, .int .i64 4, .int .i64 4, .int .i64 (-1), .int .i64 (-1), .int .i64 (-1), .int .i64 (-1), .int .i64 7, .int .i64 6, .int .i64 (-1), .int .i64 (-1), .int .i64 8, .int .i64 8, .int .i64 8, .int .i64 8, .int .i64 24, .int .i64 24, .int .i64 24, .int .i64 24]), (w.heap.size, 24, VM)] w' ∧ w'.cell? ⟨g, k, none⟩ = some (.int .i64 pt) ∧ w'.cell? ⟨w.heap.size, 3, none⟩ = some (.string m.da)) (by kernel_rfl) (HKR.out _ HKG.out.drew) (fun hHeld => ?_)
  refine wpAnyH_take (i := 0) (oi := { dst := some 86, op := Op.move (Operand.tmp 12), type := 40, pos := "ref.go:81", after := #[], guard := none }) (v := ?_) rfl (by kernel_rfl) (by kernel_rfl) (by kernel_rfl) (fun _ _ _ h => h) (Or.inl ⟨by rfl, ?_⟩) (by assumption) ?_
  rotate_left
  · (intro ww hSw; (try dsimp only at hSw); go_simp; try with_reducible rfl)
  (try simp only [Act.put, List.setIfInBounds_toArray, List.set_cons_zero, List.set_cons_succ])
  refine wpAnyH_take (i := 1) (oi := { dst := some 87, op := Op.move (Operand.tmp 13), type := 3, pos := "ref.go:81", after := #[], guard := none }) (v := ?_) rfl (by kernel_rfl) (by kernel_rfl) (by kernel_rfl) (fun _ _ _ h => h) (Or.inl ⟨by rfl, ?_⟩) (by assumption) ?_
  rotate_left
  · (intro ww hSw; (try dsimp only at hSw); go_simp; try with_reducible rfl)
  (try simp only [Act.put, List.setIfInBounds_toArray, List.set_cons_zero, List.set_cons_succ])
  refine wpAnyH_take (i := 2) (oi := { dst := some 88, op := Op.indexAddr 40 (Operand.tmp 86) (Operand.tmp 87), type := 0, pos := "ref.go:81", after := #[{ on := 0, ground := Ground.data }, { on := 1, ground := Ground.data }], guard := none }) (v := ?_) rfl (by kernel_rfl) (by kernel_rfl) (by kernel_rfl) (fun _ _ _ h => h) (Or.inl ⟨by rfl, ?_⟩) (by assumption) ?_
  rotate_left
  · (intro ww hSw; (try dsimp only at hSw); go_simp; try with_reducible rfl)
  (try simp only [Act.put, List.setIfInBounds_toArray, List.set_cons_zero, List.set_cons_succ])
  refine wpAnyH_take (i := 3) (oi := { dst := some 89, op := Op.load 3 (Operand.tmp 88), type := 3, pos := "ref.go:81", after := #[{ on := 2, ground := Ground.data }], guard := none }) (v := ?_) rfl (by kernel_rfl) (by kernel_rfl) (by kernel_rfl) (fun _ _ _ h => h) (Or.inl ⟨by rfl, ?_⟩) (by assumption) ?_
  rotate_left
  · (intro ww hSw; (try dsimp only at hSw); go_simp; try with_reducible rfl)
  (try simp only [Act.put, List.setIfInBounds_toArray, List.set_cons_zero, List.set_cons_succ])
  refine wpAnyH_take (i := 4) (oi := { dst := some 90, op := Op.convert 3 22 (Operand.tmp 89), type := 22, pos := "ref.go:81", after := #[{ on := 3, ground := Ground.data }], guard := none }) (v := ?_) rfl (by kernel_rfl) (by kernel_rfl) (by kernel_rfl) (fun _ _ _ h => h) (Or.inl ⟨by rfl, ?_⟩) (by assumption) ?_
  rotate_left
  · (intro ww hSw; (try dsimp only at hSw); go_simp; try with_reducible rfl)
  (try simp only [Act.put, List.setIfInBounds_toArray, List.set_cons_zero, List.set_cons_succ])
  refine wpAnyH_take (i := 5) (oi := { dst := some 91, op := Op.fieldAddr 24 (Operand.tmp 4) 3, type := 0, pos := "ref.go:81", after := #[], guard := none }) (v := ?_) rfl (by kernel_rfl) (by kernel_rfl) (by kernel_rfl) (fun _ _ _ h => h) (Or.inl ⟨by rfl, ?_⟩) (by assumption) ?_
  rotate_left
  · (intro ww hSw; (try dsimp only at hSw); go_simp; try with_reducible rfl)
  (try simp only [Act.put, List.setIfInBounds_toArray, List.set_cons_zero, List.set_cons_succ])
  refine wpAnyH_take (i := 6) (oi := { dst := some 92, op := Op.load 9 (Operand.tmp 91), type := 9, pos := "ref.go:81", after := #[{ on := 5, ground := Ground.data }], guard := none }) (v := ?_) rfl (by kernel_rfl) (by kernel_rfl) (by kernel_rfl) (fun _ _ _ h => h) (Or.inl ⟨by rfl, ?_⟩) (by assumption) ?_
  rotate_left
  · (intro ww hSw; (try dsimp only at hSw); go_simp; try with_reducible rfl)
  (try simp only [Act.put, List.setIfInBounds_toArray, List.set_cons_zero, List.set_cons_succ])
  refine wpAnyH_take (i := 7) (oi := { dst := some 93, op := Op.build 24 #[(0, Operand.const (Value.int IntKind.i64 4)), (2, Operand.tmp 90), (3, Operand.tmp 92)], type := 24, pos := "ref.go:81", after := #[{ on := 4, ground := Ground.data }, { on := 6, ground := Ground.data }], guard := none }) (v := ?_) rfl (by kernel_rfl) (by kernel_rfl) (by kernel_rfl) (fun _ _ _ h => h) (Or.inl ⟨by rfl, ?_⟩) (by assumption) ?_
  rotate_left
  · (intro ww hSw; (try dsimp only at hSw); go_simp; try with_reducible rfl)
  (try simp only [Act.put, List.setIfInBounds_toArray, List.set_cons_zero, List.set_cons_succ])
  refine wpAnyH_ready (rs := [8]) (by kernel_rfl) (by simp) ?_
  refine AllReadyH.cons (o := { dst := none, op := Op.store 24 (Operand.tmp 8) (Operand.tmp 93), type := 0, pos := "ref.go:81", after := #[{ on := 7, ground := Ground.data }, { on := 0, ground := Ground.phase }, { on := 1, ground := Ground.phase }, { on := 2, ground := Ground.phase }, { on := 3, ground := Ground.phase }, { on := 4, ground := Ground.phase }, { on := 5, ground := Ground.phase }, { on := 6, ground := Ground.phase }, { on := 7, ground := Ground.phase }], guard := none }) rfl (fun K hK => ?_) AllReadyH.nil
  rw [if_pos (by rfl)]
  refine wp_store_mid 24 _ _ rfl (w.heap.size + 1) 0 ([.int .i64 4, .int .i64 0, .int .u32 pt, .string m.da] : List Value).toArray rfl rfl HTF.out (by simpa using HIN.out) (by simp [Value.oneCell']) ?_
  refine hK.out _ _ (HKR.out _ ((And.left hHeld).sets HNE.out (by omega) 0 _)) (fun hHeld => ?_)
  clear hK K
  (try simp only [Act.put])
  refine wpAnyH_take (i := 9) (oi := { dst := some 9, op := Op.assign (Operand.const (Value.bool true)), type := 4, pos := "ref.go:81", after := #[{ on := 8, ground := Ground.chain }, { on := 0, ground := Ground.phase }, { on := 1, ground := Ground.phase }, { on := 2, ground := Ground.phase }, { on := 3, ground := Ground.phase }, { on := 4, ground := Ground.phase }, { on := 5, ground := Ground.phase }, { on := 6, ground := Ground.phase }, { on := 7, ground := Ground.phase }, { on := 8, ground := Ground.phase }], guard := none }) (v := ?_) rfl (by kernel_rfl) (by kernel_rfl) (by kernel_rfl) (fun _ _ _ h => h) (Or.inl ⟨by rfl, ?_⟩) (by assumption) ?_
  rotate_left
  · (intro ww hSw; (try dsimp only at hSw); go_simp; try with_reducible rfl)
  (try simp only [Act.put, List.setIfInBounds_toArray, List.set_cons_zero, List.set_cons_succ])
  refine wpAnyH_done (by kernel_rfl) ?_ _
  refine NoPanic.normal ?_
  have hk5 := HK5.out
  rw [puts_whole V0.toArray [.int .i64 4, .int .i64 0, .int .u32 pt, .string m.da] (by have := HL_V0.out; simp; omega)] at hk5
  go_wp2_with fail
  refine bodyPost_ret (v := .tuple #[.agg ([.int .i64 4, .int .i64 0, .int .u32 pt, .string m.da] : List Value).toArray, .bool true]) ?_ rfl ?_
  · exact results_cell2 rfl rfl rfl (run_loadVar_mid _ (w.heap.size + 1) 0 24 [.int .i64 4, .int .i64 0, .int .u32 pt, .string m.da] _ hk5.range Tryd.underlying24 rfl HIN.out)
  · rw [HS.out]
    exact ⟨rfl, below_sets _ (by omega) 0 _ HBB.out⟩
end Go.Proofs.YtnehabpdpkjaeaaDoor
