/-
  Proved here: the law Head46Known answers true.
  Conditions: none.
-/
import Derived.Test.YtdljjcnihajchaaAwk
namespace Go.Proofs.Ytdljjcnihajchaa
open Go.RowKit

def knZ : List UInt8 := [0, 0, 0, 0, 0, 0, 0, 0, 0, 0, 0, 0, 0, 0, 0, 0]
theorem knZ_len : knZ.length = 16 := rfl
theorem knBZ (w : World) : (Instr.build 23 #[]).run Try.prog w = .ok (.agg (bytV knZ).toArray) w := by kernel_rfl
def kn1 : P4.Pkt := ⟨0, 7, 9, 17, 8, false, false, 0, 0, 0, 0, 0, 0, 0, 0, ⟨#[]⟩, ⟨#[104, 105]⟩⟩
theorem kn1_code : hcode kn1 = 0 := by decide +kernel
theorem knB1 (w : World) : (Instr.build 35 #[(2, .int .i64 9), (3, .int .i64 17), (1, .int .i64 7), (4, .int .i64 8), (10, .string ⟨#[104, 105]⟩)]).run Try.prog w = .ok (.agg kn1.vals.toArray) w := by kernel_rfl
def kn2 : P4.Pkt := ⟨0, 0, 1, 17, 0, false, false, 0, 0, 0, 0, 0, 0, 0, 0, ⟨#[]⟩, ⟨#[]⟩⟩
theorem kn2_code : hcode kn2 = 13 := by decide +kernel
theorem knB2 (w : World) : (Instr.build 35 #[(2, .int .i64 1), (3, .int .i64 17)]).run Try.prog w = .ok (.agg kn2.vals.toArray) w := by kernel_rfl
def kn3 : P4.Pkt := ⟨0, 0, 2, 44, 0, false, false, 0, 0, 0, 0, 0, 0, 0, 0, ⟨#[]⟩, ⟨#[]⟩⟩
theorem kn3_code : hcode kn3 = 10 := by decide +kernel
theorem knB3 (w : World) : (Instr.build 35 #[(2, .int .i64 2), (3, .int .i64 44)]).run Try.prog w = .ok (.agg kn3.vals.toArray) w := by kernel_rfl
def kn4 : P4.Pkt := ⟨0, 0, 2, 17, 0, false, false, 0, 0, 0, 0, 0, 0, 0, 0, ⟨#[131, 3, 3, 0]⟩, ⟨#[]⟩⟩
theorem kn4_code : hcode kn4 = 10 := by decide +kernel
theorem knB4 (w : World) : (Instr.build 35 #[(2, .int .i64 2), (3, .int .i64 17), (9, .string ⟨#[131, 3, 3, 0]⟩)]).run Try.prog w = .ok (.agg kn4.vals.toArray) w := by kernel_rfl
def kn5 : P4.Pkt := ⟨0, 0, 2, 17, 0, false, false, 0, 0, 0, 0, 0, 0, 0, 0, ⟨#[131]⟩, ⟨#[]⟩⟩
theorem kn5_code : hcode kn5 = 8 := by decide +kernel
theorem knB5 (w : World) : (Instr.build 35 #[(2, .int .i64 2), (3, .int .i64 17), (9, .string ⟨#[131]⟩)]).run Try.prog w = .ok (.agg kn5.vals.toArray) w := by kernel_rfl
def kn6 : P4.Pkt := ⟨0, 0, 2, 17, 0, false, false, 0, 0, 0, 0, 0, 0, 0, 0, ⟨#[131, 3, 4, 0]⟩, ⟨#[]⟩⟩
theorem kn6_code : hcode kn6 = 0 := by decide +kernel
theorem knB6 (w : World) : (Instr.build 35 #[(2, .int .i64 2), (3, .int .i64 17), (9, .string ⟨#[131, 3, 4, 0]⟩)]).run Try.prog w = .ok (.agg kn6.vals.toArray) w := by kernel_rfl
def knQ : Pk6 := ⟨0, 0, 8, knZ, knZ, [], true, 7, 8, false, 17, ⟨#[104, 105]⟩, knZ_len, knZ_len⟩
theorem kn1_out : hout kn1 knZ knZ knZ_len knZ_len = knQ := by rw [hout_ok kn1_code]; rfl
theorem knBQ (w : World) : (Instr.build 27 #[(2, .int .i64 8), (6, .bool true), (7, .int .u32 7), (8, .int .i64 8), (10, .int .i64 17), (11, .string ⟨#[104, 105]⟩)]).run Try.prog w = .ok (.agg (knQ.vals (.slice none 0 0)).toArray) w := by kernel_rfl
set_option maxRecDepth 100000 in
set_option maxHeartbeats 4000000 in
theorem head46Known_any (w : World) :
    Calls Try.prog 3 #[] w fun e w' => e = .returned (.bool true) ∧ Below w.heap.size w w' := by
  have HBZ := Lib.hid knBZ
  have HBQ := Lib.hid knBQ
  have CS : Hid (∀ W, Calls Try.prog 9 #[.agg (knQ.vals (.slice none 0 0)).toArray, .agg (knQ.vals (.slice none 0 0)).toArray] W fun e w' => e = .returned (.bool true) ∧ Below W.heap.size W w') := Lib.hid (fun W => rsame_nil knQ W rfl)
  have HB1 := Lib.hid knB1
  have CH1 : Hid (∀ W, Calls Try.prog 7 #[.agg kn1.vals.toArray, .agg (bytV knZ).toArray, .agg (bytV knZ).toArray] W fun e w' =>  e = .returned (.tuple #[.agg (knQ.vals (.slice none 0 0)).toArray, .nilIface]) ∧ Below W.heap.size W w') := Lib.hid (fun W => by
    refine (head_any kn1 knZ knZ knZ_len knZ_len W).mono ?_
    rintro e w' ⟨x, rfl, her, b⟩
    rw [kn1_code] at her
    rcases her with ⟨_, rfl⟩ | ⟨h, _⟩
    · exact ⟨by rw [kn1_out], b⟩
    · exact absurd rfl h)
  have HB2 := Lib.hid knB2
  obtain ⟨VQ2, hVQ2⟩ : ∃ V, V = (hout kn2 knZ knZ knZ_len knZ_len).vals (.slice none 0 0) := ⟨_, rfl⟩
  have CH2 : Hid (∀ W, Calls Try.prog 7 #[.agg kn2.vals.toArray, .agg (bytV knZ).toArray, .agg (bytV knZ).toArray] W fun e w' =>  ∃ x, e = .returned (.tuple #[.agg VQ2.toArray, x]) ∧ ErrV W.heap.size 13 x w' ∧ Below W.heap.size W w') := Lib.hid (fun W => by
    have := head_any kn2 knZ knZ knZ_len knZ_len W
    rw [kn2_code, ← hVQ2] at this
    exact this)
  have HI_VQ2 : Hid ((Try.prog.info? 27).map (·.size) = some (VQ2).length) := Lib.hid (by rw [hVQ2]; exact Try.info6 _ _)
  have HO_VQ2 : Hid ((VQ2).toArray.all (·.oneCell') = true) := Lib.hid (by rw [hVQ2]; exact vals_one _ _ rfl)
  have HL_VQ2 : Hid ((VQ2).length = 42) := Lib.hid (by rw [hVQ2]; exact vals_len _ _)
  clear hVQ2
  have HB3 := Lib.hid knB3
  obtain ⟨VQ3, hVQ3⟩ : ∃ V, V = (hout kn3 knZ knZ knZ_len knZ_len).vals (.slice none 0 0) := ⟨_, rfl⟩
  have CH3 : Hid (∀ W, Calls Try.prog 7 #[.agg kn3.vals.toArray, .agg (bytV knZ).toArray, .agg (bytV knZ).toArray] W fun e w' =>  ∃ x, e = .returned (.tuple #[.agg VQ3.toArray, x]) ∧ ErrV W.heap.size 10 x w' ∧ Below W.heap.size W w') := Lib.hid (fun W => by
    have := head_any kn3 knZ knZ knZ_len knZ_len W
    rw [kn3_code, ← hVQ3] at this
    exact this)
  have HI_VQ3 : Hid ((Try.prog.info? 27).map (·.size) = some (VQ3).length) := Lib.hid (by rw [hVQ3]; exact Try.info6 _ _)
  have HO_VQ3 : Hid ((VQ3).toArray.all (·.oneCell') = true) := Lib.hid (by rw [hVQ3]; exact vals_one _ _ rfl)
  have HL_VQ3 : Hid ((VQ3).length = 42) := Lib.hid (by rw [hVQ3]; exact vals_len _ _)
  clear hVQ3
  have HB4 := Lib.hid knB4
  obtain ⟨VQ4, hVQ4⟩ : ∃ V, V = (hout kn4 knZ knZ knZ_len knZ_len).vals (.slice none 0 0) := ⟨_, rfl⟩
  have CH4 : Hid (∀ W, Calls Try.prog 7 #[.agg kn4.vals.toArray, .agg (bytV knZ).toArray, .agg (bytV knZ).toArray] W fun e w' =>  ∃ x, e = .returned (.tuple #[.agg VQ4.toArray, x]) ∧ ErrV W.heap.size 10 x w' ∧ Below W.heap.size W w') := Lib.hid (fun W => by
    have := head_any kn4 knZ knZ knZ_len knZ_len W
    rw [kn4_code, ← hVQ4] at this
    exact this)
  have HI_VQ4 : Hid ((Try.prog.info? 27).map (·.size) = some (VQ4).length) := Lib.hid (by rw [hVQ4]; exact Try.info6 _ _)
  have HO_VQ4 : Hid ((VQ4).toArray.all (·.oneCell') = true) := Lib.hid (by rw [hVQ4]; exact vals_one _ _ rfl)
  have HL_VQ4 : Hid ((VQ4).length = 42) := Lib.hid (by rw [hVQ4]; exact vals_len _ _)
  clear hVQ4
  have HB5 := Lib.hid knB5
  obtain ⟨VQ5, hVQ5⟩ : ∃ V, V = (hout kn5 knZ knZ knZ_len knZ_len).vals (.slice none 0 0) := ⟨_, rfl⟩
  have CH5 : Hid (∀ W, Calls Try.prog 7 #[.agg kn5.vals.toArray, .agg (bytV knZ).toArray, .agg (bytV knZ).toArray] W fun e w' =>  ∃ x, e = .returned (.tuple #[.agg VQ5.toArray, x]) ∧ ErrV W.heap.size 8 x w' ∧ Below W.heap.size W w') := Lib.hid (fun W => by
    have := head_any kn5 knZ knZ knZ_len knZ_len W
    rw [kn5_code, ← hVQ5] at this
    exact this)
  have HI_VQ5 : Hid ((Try.prog.info? 27).map (·.size) = some (VQ5).length) := Lib.hid (by rw [hVQ5]; exact Try.info6 _ _)
  have HO_VQ5 : Hid ((VQ5).toArray.all (·.oneCell') = true) := Lib.hid (by rw [hVQ5]; exact vals_one _ _ rfl)
  have HL_VQ5 : Hid ((VQ5).length = 42) := Lib.hid (by rw [hVQ5]; exact vals_len _ _)
  clear hVQ5
  have HB6 := Lib.hid knB6
  obtain ⟨VQ6, hVQ6⟩ : ∃ V, V = (hout kn6 knZ knZ knZ_len knZ_len).vals (.slice none 0 0) := ⟨_, rfl⟩
  have CH6 : Hid (∀ W, Calls Try.prog 7 #[.agg kn6.vals.toArray, .agg (bytV knZ).toArray, .agg (bytV knZ).toArray] W fun e w' =>  e = .returned (.tuple #[.agg VQ6.toArray, .nilIface]) ∧ Below W.heap.size W w') := Lib.hid (fun W => by
    refine (head_any kn6 knZ knZ knZ_len knZ_len W).mono ?_
    rintro e w' ⟨x, rfl, her, b⟩
    rw [kn6_code] at her
    rcases her with ⟨_, rfl⟩ | ⟨h, _⟩
    · exact ⟨by rw [hVQ6], b⟩
    · exact absurd rfl h)
  have HI_VQ6 : Hid ((Try.prog.info? 27).map (·.size) = some (VQ6).length) := Lib.hid (by rw [hVQ6]; exact Try.info6 _ _)
  have HO_VQ6 : Hid ((VQ6).toArray.all (·.oneCell') = true) := Lib.hid (by rw [hVQ6]; exact vals_one _ _ rfl)
  have HL_VQ6 : Hid ((VQ6).length = 42) := Lib.hid (by rw [hVQ6]; exact vals_len _ _)
  clear hVQ6
  have HI_VQ1 : Hid ((Try.prog.info? 27).map (·.size) = some (knQ.vals (.slice none 0 0)).length) := Lib.hid (Try.info6 _ _)
  have HO_VQ1 : Hid ((knQ.vals (.slice none 0 0)).toArray.all (·.oneCell') = true) := Lib.hid (vals_one _ _ rfl)
  have HL_VQ1 : Hid ((knQ.vals (.slice none 0 0)).length = 42) := Lib.hid (vals_len _ _)
  generalize knQ.vals (.slice none 0 0) = VQ1 at *
  generalize bytV knZ = VZ at *
  generalize kn1.vals = VP1 at *
  generalize kn2.vals = VP2 at *
  generalize kn3.vals = VP3 at *
  generalize kn4.vals = VP4 at *
  generalize kn5.vals = VP5 at *
  generalize kn6.vals = VP6 at *
  have HK1 := Lib.hid (Kp.start w)
  obtain ⟨w1, hw1⟩ : ∃ w1, w1 = w := ⟨_, rfl⟩
  rw [← hw1] at HK1 ⊢
  clear hw1
  go_enter Try.func3, Try.ntmps3
  go_wp2_with (((with_reducible (change wpList _ _ _ _ _ _)); (first | (refine Great.wpList_readTo rfl _ rfl (.agg VZ.toArray) (run_execN (T := 23) (l := #[]) (m := #[]) rfl (by simp) (HBZ.out _)) ?_) | (refine Great.wpList_readTo rfl _ rfl (.agg VP1.toArray) (run_execN (T := 35) rfl (by rw [List.map_toArray]; rfl) (HB1.out _)) ?_))))
  refine (CH1.out _).mono ?_
  rintro e w2 ⟨rfl, bb⟩
  have HK2 := Lib.hid (HK1.out.below bb (Nat.le_refl _))
  clear bb HK1 
  have ht := (bk_new w2 27 ([.int .i64 0, .int .i64 0, .int .i64 0, .int .u8 0, .int .u8 0, .int .u8 0, .int .u8 0, .int .u8 0, .int .u8 0, .int .u8 0, .int .u8 0, .int .u8 0, .int .u8 0, .int .u8 0, .int .u8 0, .int .u8 0, .int .u8 0, .int .u8 0, .int .u8 0, .int .u8 0, .int .u8 0, .int .u8 0, .int .u8 0, .int .u8 0, .int .u8 0, .int .u8 0, .int .u8 0, .int .u8 0, .int .u8 0, .int .u8 0, .int .u8 0, .int .u8 0, .int .u8 0, .int .u8 0, .int .u8 0, .slice none 0 0, .bool false, .int .u32 0, .int .i64 0, .bool false, .int .i64 0, .string ⟨#[]⟩] : List Value).toArray).there VQ1.toArray.size (by have := HL_VQ1.out; simp; omega)
  go_upto_region 2 with (((with_reducible (change wpList _ _ _ _ _ _)); ((refine wpList_store_mid rfl 27 _ _ rfl (w2.heap.size) 0 VQ1.toArray rfl rfl ht (by simpa using HI_VQ1.out) HO_VQ1.out ?_))))
  have HK3 := Lib.hid (HK2.out.put 27 ([.int .i64 0, .int .i64 0, .int .i64 0, .int .u8 0, .int .u8 0, .int .u8 0, .int .u8 0, .int .u8 0, .int .u8 0, .int .u8 0, .int .u8 0, .int .u8 0, .int .u8 0, .int .u8 0, .int .u8 0, .int .u8 0, .int .u8 0, .int .u8 0, .int .u8 0, .int .u8 0, .int .u8 0, .int .u8 0, .int .u8 0, .int .u8 0, .int .u8 0, .int .u8 0, .int .u8 0, .int .u8 0, .int .u8 0, .int .u8 0, .int .u8 0, .int .u8 0, .int .u8 0, .int .u8 0, .int .u8 0, .slice none 0 0, .bool false, .int .u32 0, .int .i64 0, .bool false, .int .i64 0, .string ⟨#[]⟩] : List Value).toArray VQ1 (by have := HL_VQ1.out; simp; omega))
  clear ht HK2
  generalize (w2.alloc (.cells ([.int .i64 0, .int .i64 0, .int .i64 0, .int .u8 0, .int .u8 0, .int .u8 0, .int .u8 0, .int .u8 0, .int .u8 0, .int .u8 0, .int .u8 0, .int .u8 0, .int .u8 0, .int .u8 0, .int .u8 0, .int .u8 0, .int .u8 0, .int .u8 0, .int .u8 0, .int .u8 0, .int .u8 0, .int .u8 0, .int .u8 0, .int .u8 0, .int .u8 0, .int .u8 0, .int .u8 0, .int .u8 0, .int .u8 0, .int .u8 0, .int .u8 0, .int .u8 0, .int .u8 0, .int .u8 0, .int .u8 0, .slice none 0 0, .bool false, .int .u32 0, .int .i64 0, .bool false, .int .i64 0, .string ⟨#[]⟩] : List Value).toArray 27)).setCells w2.heap.size 0 VQ1 = w3 at *
  generalize w2.heap.size = g1 at *
  go_wp2_with (((with_reducible (change wpList _ _ _ _ _ _)); (first | (refine Great.wpList_readTo rfl _ rfl (.agg VZ.toArray) (run_execN (T := 23) (l := #[]) (m := #[]) rfl (by simp) (HBZ.out _)) ?_) | (refine Great.wpList_readTo rfl _ rfl (.agg VP2.toArray) (run_execN (T := 35) rfl (by rw [List.map_toArray]; rfl) (HB2.out _)) ?_))))
  refine (CH2.out _).mono ?_
  rintro e w4 ⟨x2, rfl, her, bb⟩
  have HK4 := Lib.hid (HK3.out.below bb (Nat.le_refl _))
  clear bb HK3 
  have HE2_4 := Lib.hid her
  clear her
  have hbp := below_sets VQ2 (Nat.le_refl w4.heap.size) 0 _ ((Below.refl w4.heap.size w4).alloc (Nat.le_refl _) (.cells ([.int .i64 0, .int .i64 0, .int .i64 0, .int .u8 0, .int .u8 0, .int .u8 0, .int .u8 0, .int .u8 0, .int .u8 0, .int .u8 0, .int .u8 0, .int .u8 0, .int .u8 0, .int .u8 0, .int .u8 0, .int .u8 0, .int .u8 0, .int .u8 0, .int .u8 0, .int .u8 0, .int .u8 0, .int .u8 0, .int .u8 0, .int .u8 0, .int .u8 0, .int .u8 0, .int .u8 0, .int .u8 0, .int .u8 0, .int .u8 0, .int .u8 0, .int .u8 0, .int .u8 0, .int .u8 0, .int .u8 0, .slice none 0 0, .bool false, .int .u32 0, .int .i64 0, .bool false, .int .i64 0, .string ⟨#[]⟩] : List Value).toArray 27))
  have HE2_5 := Lib.hid (HE2_4.out.below hbp (Nat.le_refl _))
  clear hbp HE2_4
  have ht := (bk_new w4 27 ([.int .i64 0, .int .i64 0, .int .i64 0, .int .u8 0, .int .u8 0, .int .u8 0, .int .u8 0, .int .u8 0, .int .u8 0, .int .u8 0, .int .u8 0, .int .u8 0, .int .u8 0, .int .u8 0, .int .u8 0, .int .u8 0, .int .u8 0, .int .u8 0, .int .u8 0, .int .u8 0, .int .u8 0, .int .u8 0, .int .u8 0, .int .u8 0, .int .u8 0, .int .u8 0, .int .u8 0, .int .u8 0, .int .u8 0, .int .u8 0, .int .u8 0, .int .u8 0, .int .u8 0, .int .u8 0, .int .u8 0, .slice none 0 0, .bool false, .int .u32 0, .int .i64 0, .bool false, .int .i64 0, .string ⟨#[]⟩] : List Value).toArray).there VQ2.toArray.size (by have := HL_VQ2.out; simp; omega)
  go_upto_region 3 with (((with_reducible (change wpList _ _ _ _ _ _)); ((refine wpList_store_mid rfl 27 _ _ rfl (w4.heap.size) 0 VQ2.toArray rfl rfl ht (by simpa using HI_VQ2.out) HO_VQ2.out ?_))))
  have HK5 := Lib.hid (HK4.out.put 27 ([.int .i64 0, .int .i64 0, .int .i64 0, .int .u8 0, .int .u8 0, .int .u8 0, .int .u8 0, .int .u8 0, .int .u8 0, .int .u8 0, .int .u8 0, .int .u8 0, .int .u8 0, .int .u8 0, .int .u8 0, .int .u8 0, .int .u8 0, .int .u8 0, .int .u8 0, .int .u8 0, .int .u8 0, .int .u8 0, .int .u8 0, .int .u8 0, .int .u8 0, .int .u8 0, .int .u8 0, .int .u8 0, .int .u8 0, .int .u8 0, .int .u8 0, .int .u8 0, .int .u8 0, .int .u8 0, .int .u8 0, .slice none 0 0, .bool false, .int .u32 0, .int .i64 0, .bool false, .int .i64 0, .string ⟨#[]⟩] : List Value).toArray VQ2 (by have := HL_VQ2.out; simp; omega))
  clear ht HK4
  generalize (w4.alloc (.cells ([.int .i64 0, .int .i64 0, .int .i64 0, .int .u8 0, .int .u8 0, .int .u8 0, .int .u8 0, .int .u8 0, .int .u8 0, .int .u8 0, .int .u8 0, .int .u8 0, .int .u8 0, .int .u8 0, .int .u8 0, .int .u8 0, .int .u8 0, .int .u8 0, .int .u8 0, .int .u8 0, .int .u8 0, .int .u8 0, .int .u8 0, .int .u8 0, .int .u8 0, .int .u8 0, .int .u8 0, .int .u8 0, .int .u8 0, .int .u8 0, .int .u8 0, .int .u8 0, .int .u8 0, .int .u8 0, .int .u8 0, .slice none 0 0, .bool false, .int .u32 0, .int .i64 0, .bool false, .int .i64 0, .string ⟨#[]⟩] : List Value).toArray 27)).setCells w4.heap.size 0 VQ2 = w5 at *
  generalize w4.heap.size = g2 at *
  go_wp2_with (((with_reducible (change wpList _ _ _ _ _ _)); (first | (refine Great.wpList_readTo rfl _ rfl (.agg VZ.toArray) (run_execN (T := 23) (l := #[]) (m := #[]) rfl (by simp) (HBZ.out _)) ?_) | (refine Great.wpList_readTo rfl _ rfl (.agg VP3.toArray) (run_execN (T := 35) rfl (by rw [List.map_toArray]; rfl) (HB3.out _)) ?_))))
  refine (CH3.out _).mono ?_
  rintro e w6 ⟨x3, rfl, her, bb⟩
  have HK6 := Lib.hid (HK5.out.below bb (Nat.le_refl _))
  have HE2_6 := Lib.hid (HE2_5.out.below bb (Nat.le_refl _))
  clear bb HK5 HE2_5
  have HE3_6 := Lib.hid her
  clear her
  have hbp := below_sets VQ3 (Nat.le_refl w6.heap.size) 0 _ ((Below.refl w6.heap.size w6).alloc (Nat.le_refl _) (.cells ([.int .i64 0, .int .i64 0, .int .i64 0, .int .u8 0, .int .u8 0, .int .u8 0, .int .u8 0, .int .u8 0, .int .u8 0, .int .u8 0, .int .u8 0, .int .u8 0, .int .u8 0, .int .u8 0, .int .u8 0, .int .u8 0, .int .u8 0, .int .u8 0, .int .u8 0, .int .u8 0, .int .u8 0, .int .u8 0, .int .u8 0, .int .u8 0, .int .u8 0, .int .u8 0, .int .u8 0, .int .u8 0, .int .u8 0, .int .u8 0, .int .u8 0, .int .u8 0, .int .u8 0, .int .u8 0, .int .u8 0, .slice none 0 0, .bool false, .int .u32 0, .int .i64 0, .bool false, .int .i64 0, .string ⟨#[]⟩] : List Value).toArray 27))
  have HE2_7 := Lib.hid (HE2_6.out.below hbp (Nat.le_refl _))
  have HE3_7 := Lib.hid (HE3_6.out.below hbp (Nat.le_refl _))
  clear hbp HE2_6 HE3_6
  have ht := (bk_new w6 27 ([.int .i64 0, .int .i64 0, .int .i64 0, .int .u8 0, .int .u8 0, .int .u8 0, .int .u8 0, .int .u8 0, .int .u8 0, .int .u8 0, .int .u8 0, .int .u8 0, .int .u8 0, .int .u8 0, .int .u8 0, .int .u8 0, .int .u8 0, .int .u8 0, .int .u8 0, .int .u8 0, .int .u8 0, .int .u8 0, .int .u8 0, .int .u8 0, .int .u8 0, .int .u8 0, .int .u8 0, .int .u8 0, .int .u8 0, .int .u8 0, .int .u8 0, .int .u8 0, .int .u8 0, .int .u8 0, .int .u8 0, .slice none 0 0, .bool false, .int .u32 0, .int .i64 0, .bool false, .int .i64 0, .string ⟨#[]⟩] : List Value).toArray).there VQ3.toArray.size (by have := HL_VQ3.out; simp; omega)
  go_upto_region 4 with (((with_reducible (change wpList _ _ _ _ _ _)); ((refine wpList_store_mid rfl 27 _ _ rfl (w6.heap.size) 0 VQ3.toArray rfl rfl ht (by simpa using HI_VQ3.out) HO_VQ3.out ?_))))
  have HK7 := Lib.hid (HK6.out.put 27 ([.int .i64 0, .int .i64 0, .int .i64 0, .int .u8 0, .int .u8 0, .int .u8 0, .int .u8 0, .int .u8 0, .int .u8 0, .int .u8 0, .int .u8 0, .int .u8 0, .int .u8 0, .int .u8 0, .int .u8 0, .int .u8 0, .int .u8 0, .int .u8 0, .int .u8 0, .int .u8 0, .int .u8 0, .int .u8 0, .int .u8 0, .int .u8 0, .int .u8 0, .int .u8 0, .int .u8 0, .int .u8 0, .int .u8 0, .int .u8 0, .int .u8 0, .int .u8 0, .int .u8 0, .int .u8 0, .int .u8 0, .slice none 0 0, .bool false, .int .u32 0, .int .i64 0, .bool false, .int .i64 0, .string ⟨#[]⟩] : List Value).toArray VQ3 (by have := HL_VQ3.out; simp; omega))
  clear ht HK6
  generalize (w6.alloc (.cells ([.int .i64 0, .int .i64 0, .int .i64 0, .int .u8 0, .int .u8 0, .int .u8 0, .int .u8 0, .int .u8 0, .int .u8 0, .int .u8 0, .int .u8 0, .int .u8 0, .int .u8 0, .int .u8 0, .int .u8 0, .int .u8 0, .int .u8 0, .int .u8 0, .int .u8 0, .int .u8 0, .int .u8 0, .int .u8 0, .int .u8 0, .int .u8 0, .int .u8 0, .int .u8 0, .int .u8 0, .int .u8 0, .int .u8 0, .int .u8 0, .int .u8 0, .int .u8 0, .int .u8 0, .int .u8 0, .int .u8 0, .slice none 0 0, .bool false, .int .u32 0, .int .i64 0, .bool false, .int .i64 0, .string ⟨#[]⟩] : List Value).toArray 27)).setCells w6.heap.size 0 VQ3 = w7 at *
  generalize w6.heap.size = g3 at *
  go_wp2_with (((with_reducible (change wpList _ _ _ _ _ _)); (first | (refine Great.wpList_readTo rfl _ rfl (.agg VZ.toArray) (run_execN (T := 23) (l := #[]) (m := #[]) rfl (by simp) (HBZ.out _)) ?_) | (refine Great.wpList_readTo rfl _ rfl (.agg VP4.toArray) (run_execN (T := 35) rfl (by rw [List.map_toArray]; rfl) (HB4.out _)) ?_))))
  refine (CH4.out _).mono ?_
  rintro e w8 ⟨x4, rfl, her, bb⟩
  have HK8 := Lib.hid (HK7.out.below bb (Nat.le_refl _))
  have HE2_8 := Lib.hid (HE2_7.out.below bb (Nat.le_refl _))
  have HE3_8 := Lib.hid (HE3_7.out.below bb (Nat.le_refl _))
  clear bb HK7 HE2_7 HE3_7
  have HE4_8 := Lib.hid her
  clear her
  have hbp := below_sets VQ4 (Nat.le_refl w8.heap.size) 0 _ ((Below.refl w8.heap.size w8).alloc (Nat.le_refl _) (.cells ([.int .i64 0, .int .i64 0, .int .i64 0, .int .u8 0, .int .u8 0, .int .u8 0, .int .u8 0, .int .u8 0, .int .u8 0, .int .u8 0, .int .u8 0, .int .u8 0, .int .u8 0, .int .u8 0, .int .u8 0, .int .u8 0, .int .u8 0, .int .u8 0, .int .u8 0, .int .u8 0, .int .u8 0, .int .u8 0, .int .u8 0, .int .u8 0, .int .u8 0, .int .u8 0, .int .u8 0, .int .u8 0, .int .u8 0, .int .u8 0, .int .u8 0, .int .u8 0, .int .u8 0, .int .u8 0, .int .u8 0, .slice none 0 0, .bool false, .int .u32 0, .int .i64 0, .bool false, .int .i64 0, .string ⟨#[]⟩] : List Value).toArray 27))
  have HE2_9 := Lib.hid (HE2_8.out.below hbp (Nat.le_refl _))
  have HE3_9 := Lib.hid (HE3_8.out.below hbp (Nat.le_refl _))
  have HE4_9 := Lib.hid (HE4_8.out.below hbp (Nat.le_refl _))
  clear hbp HE2_8 HE3_8 HE4_8
  have ht := (bk_new w8 27 ([.int .i64 0, .int .i64 0, .int .i64 0, .int .u8 0, .int .u8 0, .int .u8 0, .int .u8 0, .int .u8 0, .int .u8 0, .int .u8 0, .int .u8 0, .int .u8 0, .int .u8 0, .int .u8 0, .int .u8 0, .int .u8 0, .int .u8 0, .int .u8 0, .int .u8 0, .int .u8 0, .int .u8 0, .int .u8 0, .int .u8 0, .int .u8 0, .int .u8 0, .int .u8 0, .int .u8 0, .int .u8 0, .int .u8 0, .int .u8 0, .int .u8 0, .int .u8 0, .int .u8 0, .int .u8 0, .int .u8 0, .slice none 0 0, .bool false, .int .u32 0, .int .i64 0, .bool false, .int .i64 0, .string ⟨#[]⟩] : List Value).toArray).there VQ4.toArray.size (by have := HL_VQ4.out; simp; omega)
  go_upto_region 5 with (((with_reducible (change wpList _ _ _ _ _ _)); ((refine wpList_store_mid rfl 27 _ _ rfl (w8.heap.size) 0 VQ4.toArray rfl rfl ht (by simpa using HI_VQ4.out) HO_VQ4.out ?_))))
  have HK9 := Lib.hid (HK8.out.put 27 ([.int .i64 0, .int .i64 0, .int .i64 0, .int .u8 0, .int .u8 0, .int .u8 0, .int .u8 0, .int .u8 0, .int .u8 0, .int .u8 0, .int .u8 0, .int .u8 0, .int .u8 0, .int .u8 0, .int .u8 0, .int .u8 0, .int .u8 0, .int .u8 0, .int .u8 0, .int .u8 0, .int .u8 0, .int .u8 0, .int .u8 0, .int .u8 0, .int .u8 0, .int .u8 0, .int .u8 0, .int .u8 0, .int .u8 0, .int .u8 0, .int .u8 0, .int .u8 0, .int .u8 0, .int .u8 0, .int .u8 0, .slice none 0 0, .bool false, .int .u32 0, .int .i64 0, .bool false, .int .i64 0, .string ⟨#[]⟩] : List Value).toArray VQ4 (by have := HL_VQ4.out; simp; omega))
  clear ht HK8
  generalize (w8.alloc (.cells ([.int .i64 0, .int .i64 0, .int .i64 0, .int .u8 0, .int .u8 0, .int .u8 0, .int .u8 0, .int .u8 0, .int .u8 0, .int .u8 0, .int .u8 0, .int .u8 0, .int .u8 0, .int .u8 0, .int .u8 0, .int .u8 0, .int .u8 0, .int .u8 0, .int .u8 0, .int .u8 0, .int .u8 0, .int .u8 0, .int .u8 0, .int .u8 0, .int .u8 0, .int .u8 0, .int .u8 0, .int .u8 0, .int .u8 0, .int .u8 0, .int .u8 0, .int .u8 0, .int .u8 0, .int .u8 0, .int .u8 0, .slice none 0 0, .bool false, .int .u32 0, .int .i64 0, .bool false, .int .i64 0, .string ⟨#[]⟩] : List Value).toArray 27)).setCells w8.heap.size 0 VQ4 = w9 at *
  generalize w8.heap.size = g4 at *
  go_wp2_with (((with_reducible (change wpList _ _ _ _ _ _)); (first | (refine Great.wpList_readTo rfl _ rfl (.agg VZ.toArray) (run_execN (T := 23) (l := #[]) (m := #[]) rfl (by simp) (HBZ.out _)) ?_) | (refine Great.wpList_readTo rfl _ rfl (.agg VP5.toArray) (run_execN (T := 35) rfl (by rw [List.map_toArray]; rfl) (HB5.out _)) ?_))))
  refine (CH5.out _).mono ?_
  rintro e w10 ⟨x5, rfl, her, bb⟩
  have HK10 := Lib.hid (HK9.out.below bb (Nat.le_refl _))
  have HE2_10 := Lib.hid (HE2_9.out.below bb (Nat.le_refl _))
  have HE3_10 := Lib.hid (HE3_9.out.below bb (Nat.le_refl _))
  have HE4_10 := Lib.hid (HE4_9.out.below bb (Nat.le_refl _))
  clear bb HK9 HE2_9 HE3_9 HE4_9
  have HE5_10 := Lib.hid her
  clear her
  have hbp := below_sets VQ5 (Nat.le_refl w10.heap.size) 0 _ ((Below.refl w10.heap.size w10).alloc (Nat.le_refl _) (.cells ([.int .i64 0, .int .i64 0, .int .i64 0, .int .u8 0, .int .u8 0, .int .u8 0, .int .u8 0, .int .u8 0, .int .u8 0, .int .u8 0, .int .u8 0, .int .u8 0, .int .u8 0, .int .u8 0, .int .u8 0, .int .u8 0, .int .u8 0, .int .u8 0, .int .u8 0, .int .u8 0, .int .u8 0, .int .u8 0, .int .u8 0, .int .u8 0, .int .u8 0, .int .u8 0, .int .u8 0, .int .u8 0, .int .u8 0, .int .u8 0, .int .u8 0, .int .u8 0, .int .u8 0, .int .u8 0, .int .u8 0, .slice none 0 0, .bool false, .int .u32 0, .int .i64 0, .bool false, .int .i64 0, .string ⟨#[]⟩] : List Value).toArray 27))
  have HE2_11 := Lib.hid (HE2_10.out.below hbp (Nat.le_refl _))
  have HE3_11 := Lib.hid (HE3_10.out.below hbp (Nat.le_refl _))
  have HE4_11 := Lib.hid (HE4_10.out.below hbp (Nat.le_refl _))
  have HE5_11 := Lib.hid (HE5_10.out.below hbp (Nat.le_refl _))
  clear hbp HE2_10 HE3_10 HE4_10 HE5_10
  have ht := (bk_new w10 27 ([.int .i64 0, .int .i64 0, .int .i64 0, .int .u8 0, .int .u8 0, .int .u8 0, .int .u8 0, .int .u8 0, .int .u8 0, .int .u8 0, .int .u8 0, .int .u8 0, .int .u8 0, .int .u8 0, .int .u8 0, .int .u8 0, .int .u8 0, .int .u8 0, .int .u8 0, .int .u8 0, .int .u8 0, .int .u8 0, .int .u8 0, .int .u8 0, .int .u8 0, .int .u8 0, .int .u8 0, .int .u8 0, .int .u8 0, .int .u8 0, .int .u8 0, .int .u8 0, .int .u8 0, .int .u8 0, .int .u8 0, .slice none 0 0, .bool false, .int .u32 0, .int .i64 0, .bool false, .int .i64 0, .string ⟨#[]⟩] : List Value).toArray).there VQ5.toArray.size (by have := HL_VQ5.out; simp; omega)
  go_upto_region 6 with (((with_reducible (change wpList _ _ _ _ _ _)); ((refine wpList_store_mid rfl 27 _ _ rfl (w10.heap.size) 0 VQ5.toArray rfl rfl ht (by simpa using HI_VQ5.out) HO_VQ5.out ?_))))
  have HK11 := Lib.hid (HK10.out.put 27 ([.int .i64 0, .int .i64 0, .int .i64 0, .int .u8 0, .int .u8 0, .int .u8 0, .int .u8 0, .int .u8 0, .int .u8 0, .int .u8 0, .int .u8 0, .int .u8 0, .int .u8 0, .int .u8 0, .int .u8 0, .int .u8 0, .int .u8 0, .int .u8 0, .int .u8 0, .int .u8 0, .int .u8 0, .int .u8 0, .int .u8 0, .int .u8 0, .int .u8 0, .int .u8 0, .int .u8 0, .int .u8 0, .int .u8 0, .int .u8 0, .int .u8 0, .int .u8 0, .int .u8 0, .int .u8 0, .int .u8 0, .slice none 0 0, .bool false, .int .u32 0, .int .i64 0, .bool false, .int .i64 0, .string ⟨#[]⟩] : List Value).toArray VQ5 (by have := HL_VQ5.out; simp; omega))
  clear ht HK10
  generalize (w10.alloc (.cells ([.int .i64 0, .int .i64 0, .int .i64 0, .int .u8 0, .int .u8 0, .int .u8 0, .int .u8 0, .int .u8 0, .int .u8 0, .int .u8 0, .int .u8 0, .int .u8 0, .int .u8 0, .int .u8 0, .int .u8 0, .int .u8 0, .int .u8 0, .int .u8 0, .int .u8 0, .int .u8 0, .int .u8 0, .int .u8 0, .int .u8 0, .int .u8 0, .int .u8 0, .int .u8 0, .int .u8 0, .int .u8 0, .int .u8 0, .int .u8 0, .int .u8 0, .int .u8 0, .int .u8 0, .int .u8 0, .int .u8 0, .slice none 0 0, .bool false, .int .u32 0, .int .i64 0, .bool false, .int .i64 0, .string ⟨#[]⟩] : List Value).toArray 27)).setCells w10.heap.size 0 VQ5 = w11 at *
  generalize w10.heap.size = g5 at *
  go_wp2_with (((with_reducible (change wpList _ _ _ _ _ _)); (first | (refine Great.wpList_readTo rfl _ rfl (.agg VZ.toArray) (run_execN (T := 23) (l := #[]) (m := #[]) rfl (by simp) (HBZ.out _)) ?_) | (refine Great.wpList_readTo rfl _ rfl (.agg VP6.toArray) (run_execN (T := 35) rfl (by rw [List.map_toArray]; rfl) (HB6.out _)) ?_))))
  refine (CH6.out _).mono ?_
  rintro e w12 ⟨rfl, bb⟩
  have HK12 := Lib.hid (HK11.out.below bb (Nat.le_refl _))
  have HE2_12 := Lib.hid (HE2_11.out.below bb (Nat.le_refl _))
  have HE3_12 := Lib.hid (HE3_11.out.below bb (Nat.le_refl _))
  have HE4_12 := Lib.hid (HE4_11.out.below bb (Nat.le_refl _))
  have HE5_12 := Lib.hid (HE5_11.out.below bb (Nat.le_refl _))
  clear bb HK11 HE2_11 HE3_11 HE4_11 HE5_11
  have hbp := below_sets VQ6 (Nat.le_refl w12.heap.size) 0 _ ((Below.refl w12.heap.size w12).alloc (Nat.le_refl _) (.cells ([.int .i64 0, .int .i64 0, .int .i64 0, .int .u8 0, .int .u8 0, .int .u8 0, .int .u8 0, .int .u8 0, .int .u8 0, .int .u8 0, .int .u8 0, .int .u8 0, .int .u8 0, .int .u8 0, .int .u8 0, .int .u8 0, .int .u8 0, .int .u8 0, .int .u8 0, .int .u8 0, .int .u8 0, .int .u8 0, .int .u8 0, .int .u8 0, .int .u8 0, .int .u8 0, .int .u8 0, .int .u8 0, .int .u8 0, .int .u8 0, .int .u8 0, .int .u8 0, .int .u8 0, .int .u8 0, .int .u8 0, .slice none 0 0, .bool false, .int .u32 0, .int .i64 0, .bool false, .int .i64 0, .string ⟨#[]⟩] : List Value).toArray 27))
  have HE2_13 := Lib.hid (HE2_12.out.below hbp (Nat.le_refl _))
  have HE3_13 := Lib.hid (HE3_12.out.below hbp (Nat.le_refl _))
  have HE4_13 := Lib.hid (HE4_12.out.below hbp (Nat.le_refl _))
  have HE5_13 := Lib.hid (HE5_12.out.below hbp (Nat.le_refl _))
  clear hbp HE2_12 HE3_12 HE4_12 HE5_12
  have ht := (bk_new w12 27 ([.int .i64 0, .int .i64 0, .int .i64 0, .int .u8 0, .int .u8 0, .int .u8 0, .int .u8 0, .int .u8 0, .int .u8 0, .int .u8 0, .int .u8 0, .int .u8 0, .int .u8 0, .int .u8 0, .int .u8 0, .int .u8 0, .int .u8 0, .int .u8 0, .int .u8 0, .int .u8 0, .int .u8 0, .int .u8 0, .int .u8 0, .int .u8 0, .int .u8 0, .int .u8 0, .int .u8 0, .int .u8 0, .int .u8 0, .int .u8 0, .int .u8 0, .int .u8 0, .int .u8 0, .int .u8 0, .int .u8 0, .slice none 0 0, .bool false, .int .u32 0, .int .i64 0, .bool false, .int .i64 0, .string ⟨#[]⟩] : List Value).toArray).there VQ6.toArray.size (by have := HL_VQ6.out; simp; omega)
  go_upto_region 7 with (((with_reducible (change wpList _ _ _ _ _ _)); ((refine wpList_store_mid rfl 27 _ _ rfl (w12.heap.size) 0 VQ6.toArray rfl rfl ht (by simpa using HI_VQ6.out) HO_VQ6.out ?_))))
  have HK13 := Lib.hid (HK12.out.put 27 ([.int .i64 0, .int .i64 0, .int .i64 0, .int .u8 0, .int .u8 0, .int .u8 0, .int .u8 0, .int .u8 0, .int .u8 0, .int .u8 0, .int .u8 0, .int .u8 0, .int .u8 0, .int .u8 0, .int .u8 0, .int .u8 0, .int .u8 0, .int .u8 0, .int .u8 0, .int .u8 0, .int .u8 0, .int .u8 0, .int .u8 0, .int .u8 0, .int .u8 0, .int .u8 0, .int .u8 0, .int .u8 0, .int .u8 0, .int .u8 0, .int .u8 0, .int .u8 0, .int .u8 0, .int .u8 0, .int .u8 0, .slice none 0 0, .bool false, .int .u32 0, .int .i64 0, .bool false, .int .i64 0, .string ⟨#[]⟩] : List Value).toArray VQ6 (by have := HL_VQ6.out; simp; omega))
  clear ht HK12
  generalize (w12.alloc (.cells ([.int .i64 0, .int .i64 0, .int .i64 0, .int .u8 0, .int .u8 0, .int .u8 0, .int .u8 0, .int .u8 0, .int .u8 0, .int .u8 0, .int .u8 0, .int .u8 0, .int .u8 0, .int .u8 0, .int .u8 0, .int .u8 0, .int .u8 0, .int .u8 0, .int .u8 0, .int .u8 0, .int .u8 0, .int .u8 0, .int .u8 0, .int .u8 0, .int .u8 0, .int .u8 0, .int .u8 0, .int .u8 0, .int .u8 0, .int .u8 0, .int .u8 0, .int .u8 0, .int .u8 0, .int .u8 0, .int .u8 0, .slice none 0 0, .bool false, .int .u32 0, .int .i64 0, .bool false, .int .i64 0, .string ⟨#[]⟩] : List Value).toArray 27)).setCells w12.heap.size 0 VQ6 = w13 at *
  generalize w12.heap.size = g6 at *
  go_wp2_with (fail)
  refine (awake_true _).mono ?_
  rintro e w14 ⟨rfl, bb⟩
  have HK14 := Lib.hid (HK13.out.below bb (Nat.le_refl _))
  have HE2_14 := Lib.hid (HE2_13.out.below bb (Nat.le_refl _))
  have HE3_14 := Lib.hid (HE3_13.out.below bb (Nat.le_refl _))
  have HE4_14 := Lib.hid (HE4_13.out.below bb (Nat.le_refl _))
  have HE5_14 := Lib.hid (HE5_13.out.below bb (Nat.le_refl _))
  clear bb HK13 HE2_13 HE3_13 HE4_13 HE5_13
  have hr0 := HK14.out.tl.tl.tl.tl.tl.hd.range
  (dsimp only; refine (‹∀ (a : Act) (w : World), wpList _ _ _ _ a w → _› _ _ ?_))
  refine wpList_exec_if (op := { dst := some 56, op := Op.move (Operand.tmp 55), type := 4, pos := "law.go:50", after := #[{ on := 0, ground := Ground.data }, { on := 0, ground := Ground.chain }], guard := none }) (by kernel_rfl) ?_ ?_ ?_
  rotate_left
  · (go_simp; try with_reducible rfl)
  (try simp only [Act.put, List.setIfInBounds_toArray, List.set_cons_zero, List.set_cons_succ])
  refine wpList_exec_if (op := { dst := some 57, op := Op.move (Operand.tmp 2), type := 29, pos := "law.go:50", after := #[{ on := 1, ground := Ground.guard }], guard := some (1, true) }) (by kernel_rfl) ?_ ?_ ?_
  rotate_left
  · (go_simp; try with_reducible rfl)
  (try simp only [Act.put, List.setIfInBounds_toArray, List.set_cons_zero, List.set_cons_succ])
  refine wpList_exec_if (op := { dst := some 58, op := Op.binOp BinOp.eql 29 (Operand.tmp 57) (Operand.const Value.nilIface) 29, type := 4, pos := "law.go:50", after := #[{ on := 2, ground := Ground.data }, { on := 1, ground := Ground.guard }], guard := some (1, true) }) (by kernel_rfl) ?_ ?_ ?_
  rotate_left
  · (go_simp; try with_reducible rfl)
  (try simp only [Act.put, List.setIfInBounds_toArray, List.set_cons_zero, List.set_cons_succ])
  refine wpList_exec_if (op := { dst := some 59, op := Op.pick (Operand.tmp 56) (Operand.tmp 58) (Operand.const (Value.bool false)), type := 4, pos := "law.go:50", after := #[{ on := 1, ground := Ground.data }, { on := 3, ground := Ground.data }], guard := none }) (by kernel_rfl) ?_ ?_ ?_
  rotate_left
  · (go_simp; try with_reducible rfl)
  (try simp only [Act.put, List.setIfInBounds_toArray, List.set_cons_zero, List.set_cons_succ])
  refine wpList_exec_if (op := { dst := some 60, op := Op.move (Operand.tmp 59), type := 4, pos := "law.go:50", after := #[{ on := 4, ground := Ground.data }, { on := 1, ground := Ground.chain }], guard := none }) (by kernel_rfl) ?_ ?_ ?_
  rotate_left
  · (go_simp; try with_reducible rfl)
  (try simp only [Act.put, List.setIfInBounds_toArray, List.set_cons_zero, List.set_cons_succ])
  refine wpList_load_if (op := { dst := some 61, op := Op.load 27 (Operand.tmp 1), type := 27, pos := "law.go:50", after := #[{ on := 5, ground := Ground.guard }], guard := some (5, true) }) (by kernel_rfl) 27 _ rfl g1 0 rfl VQ1 _ hr0 Try.underlying27 rfl HI_VQ1.out ?_
  (try simp only [Act.put, List.setIfInBounds_toArray, List.set_cons_zero, List.set_cons_succ])
  refine wpList_exec_if (op := { dst := some 62, op := Op.build 27 #[(2, Operand.const (Value.int IntKind.i64 8)), (6, Operand.const (Value.bool true)), (7, Operand.const (Value.int IntKind.u32 7)), (8, Operand.const (Value.int IntKind.i64 8)), (10, Operand.const (Value.int IntKind.i64 17)), (11, Operand.const (Value.string { data := #[104, 105] }))], type := 27, pos := "law.go:50", after := #[{ on := 5, ground := Ground.guard }], guard := some (5, true) }) (by kernel_rfl) (.agg VQ1.toArray) ?_ ?_
  · (exact run_execN (T := 27) rfl (by rw [List.map_toArray]; rfl) (HBQ.out _))
  (try simp only [Act.put, List.setIfInBounds_toArray, List.set_cons_zero, List.set_cons_succ])
  clear hr0
  go_wp2_with (fail)
  refine (CS.out _).mono ?_
  rintro e w15 ⟨rfl, bb⟩
  have HK15 := Lib.hid (HK14.out.below bb (Nat.le_refl _))
  have HE2_15 := Lib.hid (HE2_14.out.below bb (Nat.le_refl _))
  have HE3_15 := Lib.hid (HE3_14.out.below bb (Nat.le_refl _))
  have HE4_15 := Lib.hid (HE4_14.out.below bb (Nat.le_refl _))
  have HE5_15 := Lib.hid (HE5_14.out.below bb (Nat.le_refl _))
  clear bb HK14 HE2_14 HE3_14 HE4_14 HE5_14
  go_wp2_with (fail)
  refine (same_any HE2_15.out).mono ?_
  rintro e w99 ⟨rfl, rfl⟩
  go_wp2_with (fail)
  refine (same_any HE3_15.out).mono ?_
  rintro e w99 ⟨rfl, rfl⟩
  go_wp2_with (fail)
  refine (same_any HE4_15.out).mono ?_
  rintro e w99 ⟨rfl, rfl⟩
  go_wp2_with (fail)
  refine (same_any HE5_15.out).mono ?_
  rintro e w99 ⟨rfl, rfl⟩
  go_wp2_with (fail)
  go_ret
  exact ⟨rfl, HK15.out.2.1⟩
end Go.Proofs.Ytdljjcnihajchaa
