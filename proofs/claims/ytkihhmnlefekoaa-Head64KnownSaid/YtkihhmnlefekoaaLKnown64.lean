/-
  Proved here: the law Head64Known answers true.
  Conditions: none.
-/
import Derived.Test.YtkihhmnlefekoaaAwk64
import Derived.Test.YtkihhmnlefekoaaShelf
namespace Go.Proofs.Ytkihhmnlefekoaa
open Go.RowKit

def xs (n : Nat) : ByteArray := ⟨(Lib.repeatL [120] n).toArray⟩
theorem xs_size (n : Nat) : (xs n).size = n := by
  show (Lib.repeatL [120] n).length = n
  rw [Lib.repeatL_length]
  show n * 1 = n
  omega
theorem repeat_any (n : Nat) (w : World) (hn : n ≤ 70000) : Calls Try.prog 10 #[.string ⟨#[120]⟩, .int .i64 (n : Int)] w fun e w' => e = .returned (.string (xs n)) ∧ Below w.heap.size w w' :=
  Try.strings_Repeat ⟨#[120]⟩ n w (by omega) (by show 1 * n ≤ _; omega)
theorem exs_one64 (w : World) (x : Int × ByteArray) : Exs (w.alloc (.cells [.int .i64 x.1, .string x.2].toArray 38)) (.slice (some ⟨w.heap.size, 0, none⟩) 1 1) [x] := by
  refine ⟨_, _, rfl, fun i hi => ⟨w.heap.size, 0, rfl, ?_, ?_⟩⟩
  all_goals
    obtain rfl : i = 0 := by simpa using hi
    rw [World.cell?_alloc_new]
    rfl
def k1 : Pk6 := ⟨0, 0, 9, exZ, exZ, [], true, 65543, 8, false, 17, ⟨#[104, 105]⟩, exZ_len, exZ_len⟩
def k2 (d : ByteArray) : Pk6 := ⟨0, 0, 9, exZ, exZ, [], false, 0, 0, false, 17, d, exZ_len, exZ_len⟩
def k3 : Pk6 := ⟨0, 0, 1, exZ, exZ, [], false, 0, 0, false, 17, ⟨#[]⟩, exZ_len, exZ_len⟩
def k4 : Pk6 := ⟨0, 0, 9, exZ, exZ, [], false, 0, 0, false, 1, ⟨#[]⟩, exZ_len, exZ_len⟩
def k5 : Pk6 := ⟨0, 0, 9, exZ, exZ, [(43, ⟨#[0, 1]⟩)], false, 0, 0, false, 17, ⟨#[]⟩, exZ_len, exZ_len⟩
def k8 (d : ByteArray) : Pk6 := ⟨0, 0, 0, exZ, exZ, [], false, 0, 0, false, 0, d, exZ_len, exZ_len⟩
def q1 : P4.Pkt := ⟨0, 7, 8, 17, 8, false, false, 0, 0, 0, 0, 0, 0, 0, 0, ⟨#[]⟩, ⟨#[104, 105]⟩⟩
def q2 (d : ByteArray) : P4.Pkt := ⟨0, 0, 8, 17, 0, true, false, 0, 0, 0, 0, 0, 0, 0, 0, ⟨#[]⟩, d⟩
theorem k1_code : hcode64 k1 9 = 0 := by decide +kernel
theorem k3_code : hcode64 k3 9 = 13 := by decide +kernel
theorem k4_code : hcode64 k4 9 = 10 := by decide +kernel
theorem k5_code : hcode64 k5 9 = 10 := by decide +kernel
theorem k2_form (d : ByteArray) : hcode64 (k2 d) 9 = (if (9 : Int) < 2 ∨ (255 : Int) < 9 ∨ (0 : Int) < 0 ∨ (255 : Int) < 0 ∨ (9 : Int) < 0 ∨ (65535 : Int) < 9 then 13 else if prOk64 17 = false ∨ rtd [] = true then 10 else if (65535 : Int) < 0 ∨ (65535 : Int) < 0 + 20 + (d.size : Int) then 3 else 0) := rfl
theorem k2_code (d : ByteArray) (h : d.size ≤ 65515) : hcode64 (k2 d) 9 = 0 := by rw [k2_form, if_neg (by decide), if_neg (by decide), if_neg (by omega)]
theorem k6_code (d : ByteArray) (h : d.size = 65516) : hcode64 (k2 d) 9 = 3 := by rw [k2_form, if_neg (by decide), if_neg (by decide), if_pos (by omega)]
theorem k1_out : hout64 k1 0 0 0 0 0 0 0 0 9 = q1 := by rw [hout64_ok k1_code]; rfl
theorem k2_out (d : ByteArray) (h : 1240 < d.size) (h2 : d.size ≤ 65515) : hout64 (k2 d) 0 0 0 0 0 0 0 0 9 = q2 d := by
  rw [hout64_ok (k2_code d h2)]
  have e : h64 (k2 d) 0 0 0 0 0 0 0 0 9 = ⟨0, if d.size ≤ 1240 then 9 else 0, 8, 17, 0, !false && decide (1240 < d.size), false, 0, 0, 0, 0, 0, 0, 0, 0, ⟨#[]⟩, d⟩ := rfl
  rw [e, if_neg (by omega), show decide (1240 < d.size) = true by rw [decide_eq_true_iff]; exact h]
  rfl
theorem kB1 (w : World) : (Instr.build 35 #[(2, .int .i64 9), (6, .bool true), (7, .int .u32 65543), (8, .int .i64 8), (10, .int .i64 17), (11, .string ⟨#[104, 105]⟩)]).run Try.prog w = .ok (.agg (k1.vals (.slice none 0 0)).toArray) w := by kernel_rfl
theorem kB2 (d : ByteArray) (w : World) : (Instr.build 35 #[(2, .int .i64 9), (10, .int .i64 17), (11, .string d)]).run Try.prog w = .ok (.agg ((k2 d).vals (.slice none 0 0)).toArray) w := by kernel_rfl
theorem kB3 (w : World) : (Instr.build 35 #[(2, .int .i64 1), (10, .int .i64 17)]).run Try.prog w = .ok (.agg (k3.vals (.slice none 0 0)).toArray) w := by kernel_rfl
theorem kB4 (w : World) : (Instr.build 35 #[(2, .int .i64 9), (10, .int .i64 1)]).run Try.prog w = .ok (.agg (k4.vals (.slice none 0 0)).toArray) w := by kernel_rfl
theorem kB5 (b : Nat) (w : World) : (Instr.build 35 #[(2, .int .i64 9), (10, .int .i64 17), (5, .slice (some ⟨b, 0, none⟩) 1 1)]).run Try.prog w = .ok (.agg (k5.vals (.slice (some ⟨b, 0, none⟩) 1 1)).toArray) w := by kernel_rfl
theorem kB8 (d : ByteArray) (w : World) : (Instr.build 35 #[(11, .string d)]).run Try.prog w = .ok (.agg ((k8 d).vals (.slice none 0 0)).toArray) w := by kernel_rfl
theorem kBQ1 (w : World) : (Instr.build 25 #[(2, .int .i64 8), (3, .int .i64 17), (1, .int .i64 7), (4, .int .i64 8), (10, .string ⟨#[104, 105]⟩)]).run Try.prog w = .ok (.agg q1.vals.toArray) w := by kernel_rfl
theorem kBQ2 (d : ByteArray) (w : World) : (Instr.build 25 #[(2, .int .i64 8), (3, .int .i64 17), (5, .bool true), (10, .string d)]).run Try.prog w = .ok (.agg (q2 d).vals.toArray) w := by kernel_rfl
theorem kBZ (w : World) : (Instr.build 23 #[]).run Try.prog w = .ok (.agg ([.int .u8 0, .int .u8 0, .int .u8 0, .int .u8 0] : List Value).toArray) w := by kernel_rfl
set_option maxRecDepth 100000 in
set_option maxHeartbeats 4000000 in
theorem head64Known_any (w : World) :
    Calls Try.prog 3 #[] w (fun e w' => e = .returned (.bool true) ∧ Below w.heap.size w w') := by
  obtain ⟨S1, hS1⟩ : ∃ S, S = xs 1241 := ⟨_, rfl⟩
  obtain ⟨S2, hS2⟩ : ∃ S, S = xs 65516 := ⟨_, rfl⟩
  obtain ⟨S3, hS3⟩ : ∃ S, S = xs 65515 := ⟨_, rfl⟩
  have z1 : S1.size = 1241 := by rw [hS1, xs_size]
  have z2 : S2.size = 65516 := by rw [hS2, xs_size]
  have z3 : S3.size = 65515 := by rw [hS3, xs_size]
  have CR1 : Hid (∀ W, Calls Try.prog 10 #[.string ⟨#[120]⟩, .int .i64 1241] W fun e w' => e = .returned (.string S1) ∧ Below W.heap.size W w') := Lib.hid (fun W => by rw [hS1]; exact repeat_any 1241 W (by omega))
  have CR2 : Hid (∀ W, Calls Try.prog 10 #[.string ⟨#[120]⟩, .int .i64 65516] W fun e w' => e = .returned (.string S2) ∧ Below W.heap.size W w') := Lib.hid (fun W => by rw [hS2]; exact repeat_any 65516 W (by omega))
  have CR3 : Hid (∀ W, Calls Try.prog 10 #[.string ⟨#[120]⟩, .int .i64 65515] W fun e w' => e = .returned (.string S3) ∧ Below W.heap.size W w') := Lib.hid (fun W => by rw [hS3]; exact repeat_any 65515 W (by omega))
  clear hS1 hS2 hS3
  have HBZ := Lib.hid kBZ
  have HB1 := Lib.hid kB1
  have HB2 := Lib.hid (kB2 S1)
  have HB3 := Lib.hid kB3
  have HB4 := Lib.hid kB4
  have HB5 := Lib.hid kB5
  have HB6 := Lib.hid (kB2 S2)
  have HB7 := Lib.hid (kB2 S3)
  have HB8 := Lib.hid kB8
  have HBQ1 := Lib.hid kBQ1
  have HBQ2 := Lib.hid (kBQ2 S1)
  have HWa : Hid (∀ W, Calls Try.prog 12 #[.agg ((k2 S1).vals (.slice none 0 0)).toArray] W fun e w' => e = .returned (.bool false) ∧ Below W.heap.size W w') := Lib.hid (fun W => by
    have h : (k2 S1).small = false := by show (!false && decide (S1.size ≤ 1240)) = false; rw [z1]; rfl
    rw [← h]; exact wants64_any (k2 S1) _ W)
  have HWb : Hid (∀ (d : ByteArray), d.size = 1240 → ∀ W, Calls Try.prog 12 #[.agg ((k8 d).vals (.slice none 0 0)).toArray] W fun e w' => e = .returned (.bool true) ∧ Below W.heap.size W w') := Lib.hid (fun d hd W => by
    have h : (k8 d).small = true := by show (!false && decide (d.size ≤ 1240)) = true; rw [hd]; rfl
    rw [← h]; exact wants64_any (k8 d) _ W)
  have CH1 : Hid (∀ W,  Calls Try.prog 9 #[.agg (k1.vals (.slice none 0 0)).toArray, .agg ([.int .u8 0, .int .u8 0, .int .u8 0, .int .u8 0] : List Value).toArray, .agg ([.int .u8 0, .int .u8 0, .int .u8 0, .int .u8 0] : List Value).toArray, .int .i64 9] W fun e w' =>  e = .returned (.tuple #[.agg q1.vals.toArray, .nilIface]) ∧ Below W.heap.size W w') := Lib.hid (fun W => by
    refine (head64_any k1 (.slice none 0 0) 0 0 0 0 0 0 0 0 9 W (nil_exs W) (by decide) (by decide)).mono ?_
    rintro e w' ⟨x, rfl, her, b⟩
    rcases her with ⟨_, rfl⟩ | ⟨h, _⟩
    · exact ⟨by rw [k1_out], b⟩
    · exact absurd k1_code h)
  have CH2 : Hid (∀ W,  Calls Try.prog 9 #[.agg ((k2 S1).vals (.slice none 0 0)).toArray, .agg ([.int .u8 0, .int .u8 0, .int .u8 0, .int .u8 0] : List Value).toArray, .agg ([.int .u8 0, .int .u8 0, .int .u8 0, .int .u8 0] : List Value).toArray, .int .i64 9] W fun e w' =>  e = .returned (.tuple #[.agg (q2 S1).vals.toArray, .nilIface]) ∧ Below W.heap.size W w') := Lib.hid (fun W => by
    refine (head64_any (k2 S1) (.slice none 0 0) 0 0 0 0 0 0 0 0 9 W (nil_exs W) (by show 0 ≤ _; omega) (by show S1.size ≤ _; omega)).mono ?_
    rintro e w' ⟨x, rfl, her, b⟩
    rcases her with ⟨_, rfl⟩ | ⟨h, _⟩
    · exact ⟨by rw [k2_out S1 (by omega) (by omega)], b⟩
    · exact absurd (k2_code S1 (by omega)) h)
  obtain ⟨VQ3, hVQ3⟩ : ∃ V, V = (hout64 k3 0 0 0 0 0 0 0 0 9).vals := ⟨_, rfl⟩
  have CH3 : Hid (∀ W,  Calls Try.prog 9 #[.agg (k3.vals (.slice none 0 0)).toArray, .agg ([.int .u8 0, .int .u8 0, .int .u8 0, .int .u8 0] : List Value).toArray, .agg ([.int .u8 0, .int .u8 0, .int .u8 0, .int .u8 0] : List Value).toArray, .int .i64 9] W fun e w' =>  ∃ x, e = .returned (.tuple #[.agg VQ3.toArray, x]) ∧ ErrV W.heap.size 13 x w' ∧ Below W.heap.size W w') := Lib.hid (fun W => by
    have := head64_any k3 (.slice none 0 0) 0 0 0 0 0 0 0 0 9 W (nil_exs W) (by decide) (by decide)
    rw [k3_code, ← hVQ3] at this
    exact this)
  have HI_VQ3 : Hid ((Try.prog.info? 25).map (·.size) = some VQ3.length) := Lib.hid (by rw [hVQ3]; exact P4.Try.infoIp _)
  have HO_VQ3 : Hid ((VQ3).toArray.all (·.oneCell') = true) := Lib.hid (by rw [hVQ3]; exact P4.vals_one _)
  have HL_VQ3 : Hid (VQ3.length = 17) := Lib.hid (by rw [hVQ3]; rfl)
  clear hVQ3
  obtain ⟨VQ4, hVQ4⟩ : ∃ V, V = (hout64 k4 0 0 0 0 0 0 0 0 9).vals := ⟨_, rfl⟩
  have CH4 : Hid (∀ W,  Calls Try.prog 9 #[.agg (k4.vals (.slice none 0 0)).toArray, .agg ([.int .u8 0, .int .u8 0, .int .u8 0, .int .u8 0] : List Value).toArray, .agg ([.int .u8 0, .int .u8 0, .int .u8 0, .int .u8 0] : List Value).toArray, .int .i64 9] W fun e w' =>  ∃ x, e = .returned (.tuple #[.agg VQ4.toArray, x]) ∧ ErrV W.heap.size 10 x w' ∧ Below W.heap.size W w') := Lib.hid (fun W => by
    have := head64_any k4 (.slice none 0 0) 0 0 0 0 0 0 0 0 9 W (nil_exs W) (by decide) (by decide)
    rw [k4_code, ← hVQ4] at this
    exact this)
  have HI_VQ4 : Hid ((Try.prog.info? 25).map (·.size) = some VQ4.length) := Lib.hid (by rw [hVQ4]; exact P4.Try.infoIp _)
  have HO_VQ4 : Hid ((VQ4).toArray.all (·.oneCell') = true) := Lib.hid (by rw [hVQ4]; exact P4.vals_one _)
  have HL_VQ4 : Hid (VQ4.length = 17) := Lib.hid (by rw [hVQ4]; rfl)
  clear hVQ4
  obtain ⟨VQ5, hVQ5⟩ : ∃ V, V = (hout64 k5 0 0 0 0 0 0 0 0 9).vals := ⟨_, rfl⟩
  have CH5 : Hid (∀ (W : World) (v : Value), Exs W v [(43, ⟨#[0, 1]⟩)] →  Calls Try.prog 9 #[.agg (k5.vals v).toArray, .agg ([.int .u8 0, .int .u8 0, .int .u8 0, .int .u8 0] : List Value).toArray, .agg ([.int .u8 0, .int .u8 0, .int .u8 0, .int .u8 0] : List Value).toArray, .int .i64 9] W fun e w' =>  ∃ x, e = .returned (.tuple #[.agg VQ5.toArray, x]) ∧ ErrV W.heap.size 10 x w' ∧ Below W.heap.size W w') := Lib.hid (fun W v hv => by
    have := head64_any k5 v 0 0 0 0 0 0 0 0 9 W hv (by decide) (by decide)
    rw [k5_code, ← hVQ5] at this
    exact this)
  have HI_VQ5 : Hid ((Try.prog.info? 25).map (·.size) = some VQ5.length) := Lib.hid (by rw [hVQ5]; exact P4.Try.infoIp _)
  have HO_VQ5 : Hid ((VQ5).toArray.all (·.oneCell') = true) := Lib.hid (by rw [hVQ5]; exact P4.vals_one _)
  have HL_VQ5 : Hid (VQ5.length = 17) := Lib.hid (by rw [hVQ5]; rfl)
  clear hVQ5
  obtain ⟨VQ6, hVQ6⟩ : ∃ V, V = (hout64 (k2 S2) 0 0 0 0 0 0 0 0 9).vals := ⟨_, rfl⟩
  have CH6 : Hid (∀ W,  Calls Try.prog 9 #[.agg ((k2 S2).vals (.slice none 0 0)).toArray, .agg ([.int .u8 0, .int .u8 0, .int .u8 0, .int .u8 0] : List Value).toArray, .agg ([.int .u8 0, .int .u8 0, .int .u8 0, .int .u8 0] : List Value).toArray, .int .i64 9] W fun e w' =>  ∃ x, e = .returned (.tuple #[.agg VQ6.toArray, x]) ∧ ErrV W.heap.size 3 x w' ∧ Below W.heap.size W w') := Lib.hid (fun W => by
    have := head64_any (k2 S2) (.slice none 0 0) 0 0 0 0 0 0 0 0 9 W (nil_exs W) (by show 0 ≤ _; omega) (by show S2.size ≤ _; omega)
    rw [(k6_code S2 z2), ← hVQ6] at this
    exact this)
  have HI_VQ6 : Hid ((Try.prog.info? 25).map (·.size) = some VQ6.length) := Lib.hid (by rw [hVQ6]; exact P4.Try.infoIp _)
  have HO_VQ6 : Hid ((VQ6).toArray.all (·.oneCell') = true) := Lib.hid (by rw [hVQ6]; exact P4.vals_one _)
  have HL_VQ6 : Hid (VQ6.length = 17) := Lib.hid (by rw [hVQ6]; rfl)
  clear hVQ6
  obtain ⟨VQ7, hVQ7⟩ : ∃ V, V = (hout64 (k2 S3) 0 0 0 0 0 0 0 0 9).vals := ⟨_, rfl⟩
  have CH7 : Hid (∀ W,  Calls Try.prog 9 #[.agg ((k2 S3).vals (.slice none 0 0)).toArray, .agg ([.int .u8 0, .int .u8 0, .int .u8 0, .int .u8 0] : List Value).toArray, .agg ([.int .u8 0, .int .u8 0, .int .u8 0, .int .u8 0] : List Value).toArray, .int .i64 9] W fun e w' =>  e = .returned (.tuple #[.agg VQ7.toArray, .nilIface]) ∧ Below W.heap.size W w') := Lib.hid (fun W => by
    refine (head64_any (k2 S3) (.slice none 0 0) 0 0 0 0 0 0 0 0 9 W (nil_exs W) (by show 0 ≤ _; omega) (by show S3.size ≤ _; omega)).mono ?_
    rintro e w' ⟨x, rfl, her, b⟩
    rcases her with ⟨_, rfl⟩ | ⟨h, _⟩
    · exact ⟨by rw [hVQ7], b⟩
    · exact absurd (k2_code S3 (by omega)) h)
  have HI_VQ7 : Hid ((Try.prog.info? 25).map (·.size) = some VQ7.length) := Lib.hid (by rw [hVQ7]; exact P4.Try.infoIp _)
  have HO_VQ7 : Hid ((VQ7).toArray.all (·.oneCell') = true) := Lib.hid (by rw [hVQ7]; exact P4.vals_one _)
  have HL_VQ7 : Hid (VQ7.length = 17) := Lib.hid (by rw [hVQ7]; rfl)
  clear hVQ7
  have HI_VQ1 : Hid ((Try.prog.info? 25).map (·.size) = some (q1.vals).length) := Lib.hid (P4.Try.infoIp _)
  have HO_VQ1 : Hid ((q1.vals).toArray.all (·.oneCell') = true) := Lib.hid (P4.vals_one _)
  have HL_VQ1 : Hid ((q1.vals).length = 17) := Lib.hid rfl
  have HI_VQ2 : Hid ((Try.prog.info? 25).map (·.size) = some ((q2 S1).vals).length) := Lib.hid (P4.Try.infoIp _)
  have HO_VQ2 : Hid (((q2 S1).vals).toArray.all (·.oneCell') = true) := Lib.hid (P4.vals_one _)
  have HL_VQ2 : Hid (((q2 S1).vals).length = 17) := Lib.hid rfl
  have HI_VP2 : Hid ((Try.prog.info? 35).map (·.size) = some ((k2 S1).vals (.slice none 0 0)).length) := Lib.hid (Try.info6 _ _)
  have HO_VP2 : Hid (((k2 S1).vals (.slice none 0 0)).toArray.all (·.oneCell') = true) := Lib.hid (vals_one _ _ rfl)
  have HL_VP2 : Hid (((k2 S1).vals (.slice none 0 0)).length = 42) := Lib.hid (vals_len _ _)
  have HC_VP2_41 : Hid (((k2 S1).vals (.slice none 0 0))[41]? = some (.string S1)) := Lib.hid (vals_tail _ _ 6)
  have HEV1 := Lib.hid (P4.eqlP q1)
  have HEV2 := Lib.hid (P4.eqlP (q2 S1))
  clear z2 z3
  generalize q1.vals = VQ1 at *
  generalize (q2 S1).vals = VQ2 at *
  generalize k1.vals (.slice none 0 0) = VP1 at *
  generalize (k2 S1).vals (.slice none 0 0) = VP2 at *
  generalize k3.vals (.slice none 0 0) = VP3 at *
  generalize k4.vals (.slice none 0 0) = VP4 at *
  generalize (k2 S2).vals (.slice none 0 0) = VP6 at *
  generalize (k2 S3).vals (.slice none 0 0) = VP7 at *
  generalize ([.int .u8 0, .int .u8 0, .int .u8 0, .int .u8 0] : List Value) = VZ at *
  have HK1 := Lib.hid (Kp.start w)
  obtain ⟨w1, hw1⟩ : ∃ w1, w1 = w := ⟨_, rfl⟩
  rw [← hw1] at HK1 ⊢
  clear hw1
  go_enter Try.func3, Try.ntmps3
  go_wp2_with (((with_reducible (change wpList _ _ _ _ _ _)); (first | (refine Great.wpList_readTo rfl _ rfl (.agg VZ.toArray) (run_execN (T := 23) (l := #[]) (m := #[]) rfl (by simp) (HBZ.out _)) ?_) | (refine Great.wpList_readTo rfl _ rfl (.agg VP1.toArray) (run_execN (T := 35) rfl (by rw [List.map_toArray]; rfl) (HB1.out _)) ?_))))
  refine (CH1.out _).mono ?_
  rintro e w2 ⟨rfl, bb⟩
  have HK2 := Lib.hid (HK1.out.below bb (Nat.le_refl _))
  clear bb HK1 
  have ht := (bk_new w2 25 ([.int .i64 0, .int .i64 0, .int .i64 0, .int .i64 0, .int .i64 0, .bool false, .bool false, .int .u8 0, .int .u8 0, .int .u8 0, .int .u8 0, .int .u8 0, .int .u8 0, .int .u8 0, .int .u8 0, .string ⟨#[]⟩, .string ⟨#[]⟩] : List Value).toArray).there VQ1.toArray.size (by have := HL_VQ1.out; simp; omega)
  go_upto_region 2 with (((with_reducible (change wpList _ _ _ _ _ _)); ((refine wpList_store_mid rfl 25 _ _ rfl (w2.heap.size) 0 VQ1.toArray rfl rfl ht (by simpa using HI_VQ1.out) HO_VQ1.out ?_))))
  have HK3 := Lib.hid (HK2.out.put 25 ([.int .i64 0, .int .i64 0, .int .i64 0, .int .i64 0, .int .i64 0, .bool false, .bool false, .int .u8 0, .int .u8 0, .int .u8 0, .int .u8 0, .int .u8 0, .int .u8 0, .int .u8 0, .int .u8 0, .string ⟨#[]⟩, .string ⟨#[]⟩] : List Value).toArray VQ1 (by have := HL_VQ1.out; simp; omega))
  clear ht HK2
  generalize (w2.alloc (.cells ([.int .i64 0, .int .i64 0, .int .i64 0, .int .i64 0, .int .i64 0, .bool false, .bool false, .int .u8 0, .int .u8 0, .int .u8 0, .int .u8 0, .int .u8 0, .int .u8 0, .int .u8 0, .int .u8 0, .string ⟨#[]⟩, .string ⟨#[]⟩] : List Value).toArray 25)).setCells w2.heap.size 0 VQ1 = w3 at *
  generalize w2.heap.size = g1 at *
  go_wp2_with (fail)
  refine (CR1.out _).mono ?_
  rintro e w4 ⟨rfl, bb⟩
  have HK4 := Lib.hid (HK3.out.below bb (Nat.le_refl _))
  clear bb HK3 
  have ht := (bk_new w4 35 ([.int .i64 0, .int .i64 0, .int .i64 0, .int .u8 0, .int .u8 0, .int .u8 0, .int .u8 0, .int .u8 0, .int .u8 0, .int .u8 0, .int .u8 0, .int .u8 0, .int .u8 0, .int .u8 0, .int .u8 0, .int .u8 0, .int .u8 0, .int .u8 0, .int .u8 0, .int .u8 0, .int .u8 0, .int .u8 0, .int .u8 0, .int .u8 0, .int .u8 0, .int .u8 0, .int .u8 0, .int .u8 0, .int .u8 0, .int .u8 0, .int .u8 0, .int .u8 0, .int .u8 0, .int .u8 0, .int .u8 0, .slice none 0 0, .bool false, .int .u32 0, .int .i64 0, .bool false, .int .i64 0, .string ⟨#[]⟩] : List Value).toArray).there VP2.toArray.size (by have := HL_VP2.out; simp; omega)
  go_upto_region 3 with (((with_reducible (change wpList _ _ _ _ _ _)); (first | (refine Great.wpList_readTo rfl _ rfl (.agg VP2.toArray) (run_execN (T := 35) rfl (by rw [List.map_toArray]; rfl) (HB2.out _)) ?_) | (refine wpList_store_mid rfl 35 _ _ rfl (w4.heap.size) 0 VP2.toArray rfl rfl ht (by simpa using HI_VP2.out) HO_VP2.out ?_))))
  have HK5 := Lib.hid (HK4.out.put 35 ([.int .i64 0, .int .i64 0, .int .i64 0, .int .u8 0, .int .u8 0, .int .u8 0, .int .u8 0, .int .u8 0, .int .u8 0, .int .u8 0, .int .u8 0, .int .u8 0, .int .u8 0, .int .u8 0, .int .u8 0, .int .u8 0, .int .u8 0, .int .u8 0, .int .u8 0, .int .u8 0, .int .u8 0, .int .u8 0, .int .u8 0, .int .u8 0, .int .u8 0, .int .u8 0, .int .u8 0, .int .u8 0, .int .u8 0, .int .u8 0, .int .u8 0, .int .u8 0, .int .u8 0, .int .u8 0, .int .u8 0, .slice none 0 0, .bool false, .int .u32 0, .int .i64 0, .bool false, .int .i64 0, .string ⟨#[]⟩] : List Value).toArray VP2 (by have := HL_VP2.out; simp; omega))
  clear ht HK4
  generalize (w4.alloc (.cells ([.int .i64 0, .int .i64 0, .int .i64 0, .int .u8 0, .int .u8 0, .int .u8 0, .int .u8 0, .int .u8 0, .int .u8 0, .int .u8 0, .int .u8 0, .int .u8 0, .int .u8 0, .int .u8 0, .int .u8 0, .int .u8 0, .int .u8 0, .int .u8 0, .int .u8 0, .int .u8 0, .int .u8 0, .int .u8 0, .int .u8 0, .int .u8 0, .int .u8 0, .int .u8 0, .int .u8 0, .int .u8 0, .int .u8 0, .int .u8 0, .int .u8 0, .int .u8 0, .int .u8 0, .int .u8 0, .int .u8 0, .slice none 0 0, .bool false, .int .u32 0, .int .i64 0, .bool false, .int .i64 0, .string ⟨#[]⟩] : List Value).toArray 35)).setCells w4.heap.size 0 VP2 = w5 at *
  generalize w4.heap.size = gb at *
  have hr0 := HK5.out.hd.range
  go_wp2_with (((with_reducible (change wpList _ _ _ _ _ _)); (first | (refine wpList_load_mid rfl 35 _ rfl (gb) 0 rfl (VP2) _ hr0 Try.underlying35 rfl HI_VP2.out ?_) | (refine Great.wpList_readTo rfl _ rfl (.agg VZ.toArray) (run_execN (T := 23) (l := #[]) (m := #[]) rfl (by simp) (HBZ.out _)) ?_))))
  clear hr0
  refine (CH2.out _).mono ?_
  rintro e w6 ⟨rfl, bb⟩
  have HK6 := Lib.hid (HK5.out.below bb (Nat.le_refl _))
  clear bb HK5 
  have ht := (bk_new w6 25 ([.int .i64 0, .int .i64 0, .int .i64 0, .int .i64 0, .int .i64 0, .bool false, .bool false, .int .u8 0, .int .u8 0, .int .u8 0, .int .u8 0, .int .u8 0, .int .u8 0, .int .u8 0, .int .u8 0, .string ⟨#[]⟩, .string ⟨#[]⟩] : List Value).toArray).there VQ2.toArray.size (by have := HL_VQ2.out; simp; omega)
  go_upto_region 4 with (((with_reducible (change wpList _ _ _ _ _ _)); ((refine wpList_store_mid rfl 25 _ _ rfl (w6.heap.size) 0 VQ2.toArray rfl rfl ht (by simpa using HI_VQ2.out) HO_VQ2.out ?_))))
  have HK7 := Lib.hid (HK6.out.put 25 ([.int .i64 0, .int .i64 0, .int .i64 0, .int .i64 0, .int .i64 0, .bool false, .bool false, .int .u8 0, .int .u8 0, .int .u8 0, .int .u8 0, .int .u8 0, .int .u8 0, .int .u8 0, .int .u8 0, .string ⟨#[]⟩, .string ⟨#[]⟩] : List Value).toArray VQ2 (by have := HL_VQ2.out; simp; omega))
  clear ht HK6
  generalize (w6.alloc (.cells ([.int .i64 0, .int .i64 0, .int .i64 0, .int .i64 0, .int .i64 0, .bool false, .bool false, .int .u8 0, .int .u8 0, .int .u8 0, .int .u8 0, .int .u8 0, .int .u8 0, .int .u8 0, .int .u8 0, .string ⟨#[]⟩, .string ⟨#[]⟩] : List Value).toArray 25)).setCells w6.heap.size 0 VQ2 = w7 at *
  generalize w6.heap.size = g2 at *
  go_wp2_with (((with_reducible (change wpList _ _ _ _ _ _)); (first | (refine Great.wpList_readTo rfl _ rfl (.agg VZ.toArray) (run_execN (T := 23) (l := #[]) (m := #[]) rfl (by simp) (HBZ.out _)) ?_) | (refine Great.wpList_readTo rfl _ rfl (.agg VP3.toArray) (run_execN (T := 35) rfl (by rw [List.map_toArray]; rfl) (HB3.out _)) ?_))))
  refine (CH3.out _).mono ?_
  rintro e w8 ⟨x3, rfl, her, bb⟩
  have HK8 := Lib.hid (HK7.out.below bb (Nat.le_refl _))
  clear bb HK7 
  have HE3_8 := Lib.hid her
  clear her
  have hbp := below_sets VQ3 (Nat.le_refl w8.heap.size) 0 _ ((Below.refl w8.heap.size w8).alloc (Nat.le_refl _) (.cells ([.int .i64 0, .int .i64 0, .int .i64 0, .int .i64 0, .int .i64 0, .bool false, .bool false, .int .u8 0, .int .u8 0, .int .u8 0, .int .u8 0, .int .u8 0, .int .u8 0, .int .u8 0, .int .u8 0, .string ⟨#[]⟩, .string ⟨#[]⟩] : List Value).toArray 25))
  have HE3_9 := Lib.hid (HE3_8.out.below hbp (Nat.le_refl _))
  clear hbp HE3_8
  have ht := (bk_new w8 25 ([.int .i64 0, .int .i64 0, .int .i64 0, .int .i64 0, .int .i64 0, .bool false, .bool false, .int .u8 0, .int .u8 0, .int .u8 0, .int .u8 0, .int .u8 0, .int .u8 0, .int .u8 0, .int .u8 0, .string ⟨#[]⟩, .string ⟨#[]⟩] : List Value).toArray).there VQ3.toArray.size (by have := HL_VQ3.out; simp; omega)
  go_upto_region 5 with (((with_reducible (change wpList _ _ _ _ _ _)); ((refine wpList_store_mid rfl 25 _ _ rfl (w8.heap.size) 0 VQ3.toArray rfl rfl ht (by simpa using HI_VQ3.out) HO_VQ3.out ?_))))
  have HK9 := Lib.hid (HK8.out.put 25 ([.int .i64 0, .int .i64 0, .int .i64 0, .int .i64 0, .int .i64 0, .bool false, .bool false, .int .u8 0, .int .u8 0, .int .u8 0, .int .u8 0, .int .u8 0, .int .u8 0, .int .u8 0, .int .u8 0, .string ⟨#[]⟩, .string ⟨#[]⟩] : List Value).toArray VQ3 (by have := HL_VQ3.out; simp; omega))
  clear ht HK8
  generalize (w8.alloc (.cells ([.int .i64 0, .int .i64 0, .int .i64 0, .int .i64 0, .int .i64 0, .bool false, .bool false, .int .u8 0, .int .u8 0, .int .u8 0, .int .u8 0, .int .u8 0, .int .u8 0, .int .u8 0, .int .u8 0, .string ⟨#[]⟩, .string ⟨#[]⟩] : List Value).toArray 25)).setCells w8.heap.size 0 VQ3 = w9 at *
  generalize w8.heap.size = g3 at *
  go_wp2_with (((with_reducible (change wpList _ _ _ _ _ _)); (first | (refine Great.wpList_readTo rfl _ rfl (.agg VZ.toArray) (run_execN (T := 23) (l := #[]) (m := #[]) rfl (by simp) (HBZ.out _)) ?_) | (refine Great.wpList_readTo rfl _ rfl (.agg VP4.toArray) (run_execN (T := 35) rfl (by rw [List.map_toArray]; rfl) (HB4.out _)) ?_))))
  refine (CH4.out _).mono ?_
  rintro e w10 ⟨x4, rfl, her, bb⟩
  have HK10 := Lib.hid (HK9.out.below bb (Nat.le_refl _))
  have HE3_10 := Lib.hid (HE3_9.out.below bb (Nat.le_refl _))
  clear bb HK9 HE3_9
  have HE4_10 := Lib.hid her
  clear her
  have hbp := below_sets VQ4 (Nat.le_refl w10.heap.size) 0 _ ((Below.refl w10.heap.size w10).alloc (Nat.le_refl _) (.cells ([.int .i64 0, .int .i64 0, .int .i64 0, .int .i64 0, .int .i64 0, .bool false, .bool false, .int .u8 0, .int .u8 0, .int .u8 0, .int .u8 0, .int .u8 0, .int .u8 0, .int .u8 0, .int .u8 0, .string ⟨#[]⟩, .string ⟨#[]⟩] : List Value).toArray 25))
  have HE3_11 := Lib.hid (HE3_10.out.below hbp (Nat.le_refl _))
  have HE4_11 := Lib.hid (HE4_10.out.below hbp (Nat.le_refl _))
  clear hbp HE3_10 HE4_10
  have ht := (bk_new w10 25 ([.int .i64 0, .int .i64 0, .int .i64 0, .int .i64 0, .int .i64 0, .bool false, .bool false, .int .u8 0, .int .u8 0, .int .u8 0, .int .u8 0, .int .u8 0, .int .u8 0, .int .u8 0, .int .u8 0, .string ⟨#[]⟩, .string ⟨#[]⟩] : List Value).toArray).there VQ4.toArray.size (by have := HL_VQ4.out; simp; omega)
  go_upto_region 6 with (((with_reducible (change wpList _ _ _ _ _ _)); ((refine wpList_store_mid rfl 25 _ _ rfl (w10.heap.size) 0 VQ4.toArray rfl rfl ht (by simpa using HI_VQ4.out) HO_VQ4.out ?_))))
  have HK11 := Lib.hid (HK10.out.put 25 ([.int .i64 0, .int .i64 0, .int .i64 0, .int .i64 0, .int .i64 0, .bool false, .bool false, .int .u8 0, .int .u8 0, .int .u8 0, .int .u8 0, .int .u8 0, .int .u8 0, .int .u8 0, .int .u8 0, .string ⟨#[]⟩, .string ⟨#[]⟩] : List Value).toArray VQ4 (by have := HL_VQ4.out; simp; omega))
  clear ht HK10
  generalize (w10.alloc (.cells ([.int .i64 0, .int .i64 0, .int .i64 0, .int .i64 0, .int .i64 0, .bool false, .bool false, .int .u8 0, .int .u8 0, .int .u8 0, .int .u8 0, .int .u8 0, .int .u8 0, .int .u8 0, .int .u8 0, .string ⟨#[]⟩, .string ⟨#[]⟩] : List Value).toArray 25)).setCells w10.heap.size 0 VQ4 = w11 at *
  generalize w10.heap.size = g4 at *
  have hxe := exs_one64 w11 (43, ⟨#[0, 1]⟩)
  have hbx := (Below.refl w11.heap.size w11).alloc (Nat.le_refl _) (.cells [.int .i64 43, .string ⟨#[0, 1]⟩].toArray 38)
  have HK12 := Lib.hid (HK11.out.new 38 [.int .i64 43, .string ⟨#[0, 1]⟩])
  have HE3_12 := Lib.hid (HE3_11.out.below hbx (Nat.le_refl _))
  have HE4_12 := Lib.hid (HE4_11.out.below hbx (Nat.le_refl _))
  clear hbx HK11 HE3_11 HE4_11
  go_wp2_with (((with_reducible (change wpList _ _ _ _ _ _)); (first | (refine Great.wpList_readTo rfl _ rfl (.agg VZ.toArray) (run_execN (T := 23) (l := #[]) (m := #[]) rfl (by simp) (HBZ.out _)) ?_) | (refine Great.wpList_readTo rfl _ rfl (.agg (k5.vals (.slice (some ⟨w11.heap.size, 0, none⟩) 1 1)).toArray) (run_execN (T := 35) rfl (by rw [List.map_toArray]; rfl) (HB5.out _ _)) ?_))))
  refine (CH5.out _ _ hxe).mono ?_
  clear hxe
  rintro e w13 ⟨x5, rfl, her, bb⟩
  have HK13 := Lib.hid (HK12.out.below bb (Nat.le_refl _))
  have HE3_13 := Lib.hid (HE3_12.out.below bb (Nat.le_refl _))
  have HE4_13 := Lib.hid (HE4_12.out.below bb (Nat.le_refl _))
  clear bb HK12 HE3_12 HE4_12
  generalize w11.heap.size = ge at *
  have HE5_13 := Lib.hid her
  clear her
  have hbp := below_sets VQ5 (Nat.le_refl w13.heap.size) 0 _ ((Below.refl w13.heap.size w13).alloc (Nat.le_refl _) (.cells ([.int .i64 0, .int .i64 0, .int .i64 0, .int .i64 0, .int .i64 0, .bool false, .bool false, .int .u8 0, .int .u8 0, .int .u8 0, .int .u8 0, .int .u8 0, .int .u8 0, .int .u8 0, .int .u8 0, .string ⟨#[]⟩, .string ⟨#[]⟩] : List Value).toArray 25))
  have HE3_14 := Lib.hid (HE3_13.out.below hbp (Nat.le_refl _))
  have HE4_14 := Lib.hid (HE4_13.out.below hbp (Nat.le_refl _))
  have HE5_14 := Lib.hid (HE5_13.out.below hbp (Nat.le_refl _))
  clear hbp HE3_13 HE4_13 HE5_13
  have ht := (bk_new w13 25 ([.int .i64 0, .int .i64 0, .int .i64 0, .int .i64 0, .int .i64 0, .bool false, .bool false, .int .u8 0, .int .u8 0, .int .u8 0, .int .u8 0, .int .u8 0, .int .u8 0, .int .u8 0, .int .u8 0, .string ⟨#[]⟩, .string ⟨#[]⟩] : List Value).toArray).there VQ5.toArray.size (by have := HL_VQ5.out; simp; omega)
  go_upto_region 7 with (((with_reducible (change wpList _ _ _ _ _ _)); ((refine wpList_store_mid rfl 25 _ _ rfl (w13.heap.size) 0 VQ5.toArray rfl rfl ht (by simpa using HI_VQ5.out) HO_VQ5.out ?_))))
  have HK14 := Lib.hid (HK13.out.put 25 ([.int .i64 0, .int .i64 0, .int .i64 0, .int .i64 0, .int .i64 0, .bool false, .bool false, .int .u8 0, .int .u8 0, .int .u8 0, .int .u8 0, .int .u8 0, .int .u8 0, .int .u8 0, .int .u8 0, .string ⟨#[]⟩, .string ⟨#[]⟩] : List Value).toArray VQ5 (by have := HL_VQ5.out; simp; omega))
  clear ht HK13
  generalize (w13.alloc (.cells ([.int .i64 0, .int .i64 0, .int .i64 0, .int .i64 0, .int .i64 0, .bool false, .bool false, .int .u8 0, .int .u8 0, .int .u8 0, .int .u8 0, .int .u8 0, .int .u8 0, .int .u8 0, .int .u8 0, .string ⟨#[]⟩, .string ⟨#[]⟩] : List Value).toArray 25)).setCells w13.heap.size 0 VQ5 = w14 at *
  generalize w13.heap.size = g5 at *
  go_wp2_with (fail)
  refine (CR2.out _).mono ?_
  rintro e w15 ⟨rfl, bb⟩
  have HK15 := Lib.hid (HK14.out.below bb (Nat.le_refl _))
  have HE3_15 := Lib.hid (HE3_14.out.below bb (Nat.le_refl _))
  have HE4_15 := Lib.hid (HE4_14.out.below bb (Nat.le_refl _))
  have HE5_15 := Lib.hid (HE5_14.out.below bb (Nat.le_refl _))
  clear bb HK14 HE3_14 HE4_14 HE5_14
  go_wp2_with (((with_reducible (change wpList _ _ _ _ _ _)); (first | (refine Great.wpList_readTo rfl _ rfl (.agg VZ.toArray) (run_execN (T := 23) (l := #[]) (m := #[]) rfl (by simp) (HBZ.out _)) ?_) | (refine Great.wpList_readTo rfl _ rfl (.agg VP6.toArray) (run_execN (T := 35) rfl (by rw [List.map_toArray]; rfl) (HB6.out _)) ?_))))
  refine (CH6.out _).mono ?_
  rintro e w16 ⟨x6, rfl, her, bb⟩
  have HK16 := Lib.hid (HK15.out.below bb (Nat.le_refl _))
  have HE3_16 := Lib.hid (HE3_15.out.below bb (Nat.le_refl _))
  have HE4_16 := Lib.hid (HE4_15.out.below bb (Nat.le_refl _))
  have HE5_16 := Lib.hid (HE5_15.out.below bb (Nat.le_refl _))
  clear bb HK15 HE3_15 HE4_15 HE5_15
  have HE6_16 := Lib.hid her
  clear her
  have hbp := below_sets VQ6 (Nat.le_refl w16.heap.size) 0 _ ((Below.refl w16.heap.size w16).alloc (Nat.le_refl _) (.cells ([.int .i64 0, .int .i64 0, .int .i64 0, .int .i64 0, .int .i64 0, .bool false, .bool false, .int .u8 0, .int .u8 0, .int .u8 0, .int .u8 0, .int .u8 0, .int .u8 0, .int .u8 0, .int .u8 0, .string ⟨#[]⟩, .string ⟨#[]⟩] : List Value).toArray 25))
  have HE3_17 := Lib.hid (HE3_16.out.below hbp (Nat.le_refl _))
  have HE4_17 := Lib.hid (HE4_16.out.below hbp (Nat.le_refl _))
  have HE5_17 := Lib.hid (HE5_16.out.below hbp (Nat.le_refl _))
  have HE6_17 := Lib.hid (HE6_16.out.below hbp (Nat.le_refl _))
  clear hbp HE3_16 HE4_16 HE5_16 HE6_16
  have ht := (bk_new w16 25 ([.int .i64 0, .int .i64 0, .int .i64 0, .int .i64 0, .int .i64 0, .bool false, .bool false, .int .u8 0, .int .u8 0, .int .u8 0, .int .u8 0, .int .u8 0, .int .u8 0, .int .u8 0, .int .u8 0, .string ⟨#[]⟩, .string ⟨#[]⟩] : List Value).toArray).there VQ6.toArray.size (by have := HL_VQ6.out; simp; omega)
  go_upto_region 8 with (((with_reducible (change wpList _ _ _ _ _ _)); ((refine wpList_store_mid rfl 25 _ _ rfl (w16.heap.size) 0 VQ6.toArray rfl rfl ht (by simpa using HI_VQ6.out) HO_VQ6.out ?_))))
  have HK17 := Lib.hid (HK16.out.put 25 ([.int .i64 0, .int .i64 0, .int .i64 0, .int .i64 0, .int .i64 0, .bool false, .bool false, .int .u8 0, .int .u8 0, .int .u8 0, .int .u8 0, .int .u8 0, .int .u8 0, .int .u8 0, .int .u8 0, .string ⟨#[]⟩, .string ⟨#[]⟩] : List Value).toArray VQ6 (by have := HL_VQ6.out; simp; omega))
  clear ht HK16
  generalize (w16.alloc (.cells ([.int .i64 0, .int .i64 0, .int .i64 0, .int .i64 0, .int .i64 0, .bool false, .bool false, .int .u8 0, .int .u8 0, .int .u8 0, .int .u8 0, .int .u8 0, .int .u8 0, .int .u8 0, .int .u8 0, .string ⟨#[]⟩, .string ⟨#[]⟩] : List Value).toArray 25)).setCells w16.heap.size 0 VQ6 = w17 at *
  generalize w16.heap.size = g6 at *
  go_wp2_with (fail)
  refine (CR3.out _).mono ?_
  rintro e w18 ⟨rfl, bb⟩
  have HK18 := Lib.hid (HK17.out.below bb (Nat.le_refl _))
  have HE3_18 := Lib.hid (HE3_17.out.below bb (Nat.le_refl _))
  have HE4_18 := Lib.hid (HE4_17.out.below bb (Nat.le_refl _))
  have HE5_18 := Lib.hid (HE5_17.out.below bb (Nat.le_refl _))
  have HE6_18 := Lib.hid (HE6_17.out.below bb (Nat.le_refl _))
  clear bb HK17 HE3_17 HE4_17 HE5_17 HE6_17
  go_wp2_with (((with_reducible (change wpList _ _ _ _ _ _)); (first | (refine Great.wpList_readTo rfl _ rfl (.agg VZ.toArray) (run_execN (T := 23) (l := #[]) (m := #[]) rfl (by simp) (HBZ.out _)) ?_) | (refine Great.wpList_readTo rfl _ rfl (.agg VP7.toArray) (run_execN (T := 35) rfl (by rw [List.map_toArray]; rfl) (HB7.out _)) ?_))))
  refine (CH7.out _).mono ?_
  rintro e w19 ⟨rfl, bb⟩
  have HK19 := Lib.hid (HK18.out.below bb (Nat.le_refl _))
  have HE3_19 := Lib.hid (HE3_18.out.below bb (Nat.le_refl _))
  have HE4_19 := Lib.hid (HE4_18.out.below bb (Nat.le_refl _))
  have HE5_19 := Lib.hid (HE5_18.out.below bb (Nat.le_refl _))
  have HE6_19 := Lib.hid (HE6_18.out.below bb (Nat.le_refl _))
  clear bb HK18 HE3_18 HE4_18 HE5_18 HE6_18
  have hbp := below_sets VQ7 (Nat.le_refl w19.heap.size) 0 _ ((Below.refl w19.heap.size w19).alloc (Nat.le_refl _) (.cells ([.int .i64 0, .int .i64 0, .int .i64 0, .int .i64 0, .int .i64 0, .bool false, .bool false, .int .u8 0, .int .u8 0, .int .u8 0, .int .u8 0, .int .u8 0, .int .u8 0, .int .u8 0, .int .u8 0, .string ⟨#[]⟩, .string ⟨#[]⟩] : List Value).toArray 25))
  have HE3_20 := Lib.hid (HE3_19.out.below hbp (Nat.le_refl _))
  have HE4_20 := Lib.hid (HE4_19.out.below hbp (Nat.le_refl _))
  have HE5_20 := Lib.hid (HE5_19.out.below hbp (Nat.le_refl _))
  have HE6_20 := Lib.hid (HE6_19.out.below hbp (Nat.le_refl _))
  clear hbp HE3_19 HE4_19 HE5_19 HE6_19
  have ht := (bk_new w19 25 ([.int .i64 0, .int .i64 0, .int .i64 0, .int .i64 0, .int .i64 0, .bool false, .bool false, .int .u8 0, .int .u8 0, .int .u8 0, .int .u8 0, .int .u8 0, .int .u8 0, .int .u8 0, .int .u8 0, .string ⟨#[]⟩, .string ⟨#[]⟩] : List Value).toArray).there VQ7.toArray.size (by have := HL_VQ7.out; simp; omega)
  go_upto_region 9 with (((with_reducible (change wpList _ _ _ _ _ _)); ((refine wpList_store_mid rfl 25 _ _ rfl (w19.heap.size) 0 VQ7.toArray rfl rfl ht (by simpa using HI_VQ7.out) HO_VQ7.out ?_))))
  have HK20 := Lib.hid (HK19.out.put 25 ([.int .i64 0, .int .i64 0, .int .i64 0, .int .i64 0, .int .i64 0, .bool false, .bool false, .int .u8 0, .int .u8 0, .int .u8 0, .int .u8 0, .int .u8 0, .int .u8 0, .int .u8 0, .int .u8 0, .string ⟨#[]⟩, .string ⟨#[]⟩] : List Value).toArray VQ7 (by have := HL_VQ7.out; simp; omega))
  clear ht HK19
  generalize (w19.alloc (.cells ([.int .i64 0, .int .i64 0, .int .i64 0, .int .i64 0, .int .i64 0, .bool false, .bool false, .int .u8 0, .int .u8 0, .int .u8 0, .int .u8 0, .int .u8 0, .int .u8 0, .int .u8 0, .int .u8 0, .string ⟨#[]⟩, .string ⟨#[]⟩] : List Value).toArray 25)).setCells w19.heap.size 0 VQ7 = w20 at *
  generalize w19.heap.size = g7 at *
  go_wp2_with (fail)
  refine (awake64_true _).mono ?_
  rintro e w21 ⟨rfl, bb⟩
  have HK21 := Lib.hid (HK20.out.below bb (Nat.le_refl _))
  have HE3_21 := Lib.hid (HE3_20.out.below bb (Nat.le_refl _))
  have HE4_21 := Lib.hid (HE4_20.out.below bb (Nat.le_refl _))
  have HE5_21 := Lib.hid (HE5_20.out.below bb (Nat.le_refl _))
  have HE6_21 := Lib.hid (HE6_20.out.below bb (Nat.le_refl _))
  clear bb HK20 HE3_20 HE4_20 HE5_20 HE6_20
  have hr0 := HK21.out.tl.tl.tl.tl.tl.tl.tl.tl.hd.range
  have hr1 := HK21.out.tl.tl.tl.tl.tl.tl.hd.range
  have hr2 := HK21.out.tl.tl.tl.tl.tl.tl.tl.hd.range
  have c41 : w21.cell? ⟨gb, 41, none⟩ = some (.string S1) := HK21.out.tl.tl.tl.tl.tl.tl.tl.hd.at HC_VP2_41.out
  have heq1 := HEV1.out
  have heq2 := HEV2.out
  (dsimp only; refine (‹∀ (a : Act) (w : World), wpList _ _ _ _ a w → _› _ _ ?_))
  refine wpList_exec_if (op := { dst := some 72, op := Op.move (Operand.tmp 71), type := 4, pos := "law.go:62", after := #[{ on := 0, ground := Ground.data }, { on := 0, ground := Ground.chain }], guard := none }) (by kernel_rfl) ?_ ?_ ?_
  rotate_left
  · (go_simp; try with_reducible rfl)
  (try simp only [Act.put, List.setIfInBounds_toArray, List.set_cons_zero, List.set_cons_succ])
  refine wpList_exec_if (op := { dst := some 73, op := Op.move (Operand.tmp 2), type := 27, pos := "law.go:62", after := #[{ on := 1, ground := Ground.guard }], guard := some (1, true) }) (by kernel_rfl) ?_ ?_ ?_
  rotate_left
  · (go_simp; try with_reducible rfl)
  (try simp only [Act.put, List.setIfInBounds_toArray, List.set_cons_zero, List.set_cons_succ])
  refine wpList_exec_if (op := { dst := some 74, op := Op.binOp BinOp.eql 27 (Operand.tmp 73) (Operand.const Value.nilIface) 27, type := 4, pos := "law.go:62", after := #[{ on := 2, ground := Ground.data }, { on := 1, ground := Ground.guard }], guard := some (1, true) }) (by kernel_rfl) ?_ ?_ ?_
  rotate_left
  · (go_simp; try with_reducible rfl)
  (try simp only [Act.put, List.setIfInBounds_toArray, List.set_cons_zero, List.set_cons_succ])
  refine wpList_exec_if (op := { dst := some 75, op := Op.pick (Operand.tmp 72) (Operand.tmp 74) (Operand.const (Value.bool false)), type := 4, pos := "law.go:62", after := #[{ on := 1, ground := Ground.data }, { on := 3, ground := Ground.data }], guard := none }) (by kernel_rfl) ?_ ?_ ?_
  rotate_left
  · (go_simp; try with_reducible rfl)
  (try simp only [Act.put, List.setIfInBounds_toArray, List.set_cons_zero, List.set_cons_succ])
  refine wpList_exec_if (op := { dst := some 76, op := Op.move (Operand.tmp 75), type := 4, pos := "law.go:62", after := #[{ on := 4, ground := Ground.data }, { on := 1, ground := Ground.chain }], guard := none }) (by kernel_rfl) ?_ ?_ ?_
  rotate_left
  · (go_simp; try with_reducible rfl)
  (try simp only [Act.put, List.setIfInBounds_toArray, List.set_cons_zero, List.set_cons_succ])
  refine wpList_load_if (op := { dst := some 77, op := Op.load 25 (Operand.tmp 1), type := 25, pos := "law.go:62", after := #[{ on := 5, ground := Ground.guard }], guard := some (5, true) }) (by kernel_rfl) 25 _ rfl g1 0 rfl VQ1 _ hr0 Try.underlying25 rfl HI_VQ1.out ?_
  (try simp only [Act.put, List.setIfInBounds_toArray, List.set_cons_zero, List.set_cons_succ])
  refine wpList_exec_if (op := { dst := some 78, op := Op.build 25 #[(2, Operand.const (Value.int IntKind.i64 8)), (3, Operand.const (Value.int IntKind.i64 17)), (1, Operand.const (Value.int IntKind.i64 7)), (4, Operand.const (Value.int IntKind.i64 8)), (10, Operand.const (Value.string { data := #[104, 105] }))], type := 25, pos := "law.go:62", after := #[{ on := 5, ground := Ground.guard }], guard := some (5, true) }) (by kernel_rfl) (.agg VQ1.toArray) ?_ ?_
  · (exact run_execN (T := 25) rfl (by rw [List.map_toArray]; rfl) (HBQ1.out _))
  (try simp only [Act.put, List.setIfInBounds_toArray, List.set_cons_zero, List.set_cons_succ])
  refine wpList_exec_if (op := { dst := some 79, op := Op.binOp BinOp.eql 25 (Operand.tmp 77) (Operand.tmp 78) 25, type := 4, pos := "law.go:62", after := #[{ on := 6, ground := Ground.data }, { on := 7, ground := Ground.data }, { on := 5, ground := Ground.guard }], guard := some (5, true) }) (by kernel_rfl) (.bool true) ?_ ?_
  · (go_simp; try with_reducible rfl)
  (try simp only [Act.put, List.setIfInBounds_toArray, List.set_cons_zero, List.set_cons_succ])
  refine wpList_exec_if (op := { dst := some 80, op := Op.pick (Operand.tmp 76) (Operand.tmp 79) (Operand.const (Value.bool false)), type := 4, pos := "law.go:62", after := #[{ on := 5, ground := Ground.data }, { on := 8, ground := Ground.data }], guard := none }) (by kernel_rfl) ?_ ?_ ?_
  rotate_left
  · (go_simp; try with_reducible rfl)
  (try simp only [Act.put, List.setIfInBounds_toArray, List.set_cons_zero, List.set_cons_succ])
  refine wpList_exec_if (op := { dst := some 81, op := Op.move (Operand.tmp 80), type := 4, pos := "law.go:62", after := #[{ on := 9, ground := Ground.data }, { on := 5, ground := Ground.chain }], guard := none }) (by kernel_rfl) ?_ ?_ ?_
  rotate_left
  · (go_simp; try with_reducible rfl)
  (try simp only [Act.put, List.setIfInBounds_toArray, List.set_cons_zero, List.set_cons_succ])
  refine wpList_exec_if (op := { dst := some 82, op := Op.move (Operand.tmp 5), type := 27, pos := "law.go:62", after := #[{ on := 10, ground := Ground.guard }], guard := some (10, true) }) (by kernel_rfl) ?_ ?_ ?_
  rotate_left
  · (go_simp; try with_reducible rfl)
  (try simp only [Act.put, List.setIfInBounds_toArray, List.set_cons_zero, List.set_cons_succ])
  refine wpList_exec_if (op := { dst := some 83, op := Op.binOp BinOp.eql 27 (Operand.tmp 82) (Operand.const Value.nilIface) 27, type := 4, pos := "law.go:62", after := #[{ on := 11, ground := Ground.data }, { on := 10, ground := Ground.guard }], guard := some (10, true) }) (by kernel_rfl) ?_ ?_ ?_
  rotate_left
  · (go_simp; try with_reducible rfl)
  (try simp only [Act.put, List.setIfInBounds_toArray, List.set_cons_zero, List.set_cons_succ])
  refine wpList_exec_if (op := { dst := some 84, op := Op.pick (Operand.tmp 81) (Operand.tmp 83) (Operand.const (Value.bool false)), type := 4, pos := "law.go:62", after := #[{ on := 10, ground := Ground.data }, { on := 12, ground := Ground.data }], guard := none }) (by kernel_rfl) ?_ ?_ ?_
  rotate_left
  · (go_simp; try with_reducible rfl)
  (try simp only [Act.put, List.setIfInBounds_toArray, List.set_cons_zero, List.set_cons_succ])
  refine wpList_exec_if (op := { dst := some 85, op := Op.move (Operand.tmp 84), type := 4, pos := "law.go:62", after := #[{ on := 13, ground := Ground.data }, { on := 10, ground := Ground.chain }], guard := none }) (by kernel_rfl) ?_ ?_ ?_
  rotate_left
  · (go_simp; try with_reducible rfl)
  (try simp only [Act.put, List.setIfInBounds_toArray, List.set_cons_zero, List.set_cons_succ])
  refine wpList_load_if (op := { dst := some 86, op := Op.load 25 (Operand.tmp 4), type := 25, pos := "law.go:62", after := #[{ on := 14, ground := Ground.guard }], guard := some (14, true) }) (by kernel_rfl) 25 _ rfl g2 0 rfl VQ2 _ hr1 Try.underlying25 rfl HI_VQ2.out ?_
  (try simp only [Act.put, List.setIfInBounds_toArray, List.set_cons_zero, List.set_cons_succ])
  refine wpList_exec_if (op := { dst := some 87, op := Op.fieldAddr 35 (Operand.tmp 3) 11, type := 0, pos := "law.go:62", after := #[{ on := 14, ground := Ground.guard }], guard := some (14, true) }) (by kernel_rfl) ?_ ?_ ?_
  rotate_left
  · (go_simp; try with_reducible rfl)
  (try simp only [Act.put, List.setIfInBounds_toArray, List.set_cons_zero, List.set_cons_succ])
  refine wpList_exec_if (op := { dst := some 88, op := Op.load 9 (Operand.tmp 87), type := 9, pos := "law.go:62", after := #[{ on := 16, ground := Ground.data }, { on := 14, ground := Ground.guard }], guard := some (14, true) }) (by kernel_rfl) ?_ ?_ ?_
  rotate_left
  · (go_simp; try with_reducible rfl)
  (try simp only [Act.put, List.setIfInBounds_toArray, List.set_cons_zero, List.set_cons_succ])
  refine wpList_exec_if (op := { dst := some 89, op := Op.build 25 #[(2, Operand.const (Value.int IntKind.i64 8)), (3, Operand.const (Value.int IntKind.i64 17)), (5, Operand.const (Value.bool true)), (10, Operand.tmp 88)], type := 25, pos := "law.go:62", after := #[{ on := 17, ground := Ground.data }, { on := 14, ground := Ground.guard }], guard := some (14, true) }) (by kernel_rfl) (.agg VQ2.toArray) ?_ ?_
  · (exact run_execN (T := 25) rfl (by rw [List.map_toArray]; rfl) (HBQ2.out _))
  (try simp only [Act.put, List.setIfInBounds_toArray, List.set_cons_zero, List.set_cons_succ])
  refine wpList_exec_if (op := { dst := some 90, op := Op.binOp BinOp.eql 25 (Operand.tmp 86) (Operand.tmp 89) 25, type := 4, pos := "law.go:62", after := #[{ on := 15, ground := Ground.data }, { on := 18, ground := Ground.data }, { on := 14, ground := Ground.guard }], guard := some (14, true) }) (by kernel_rfl) (.bool true) ?_ ?_
  · (go_simp; try with_reducible rfl)
  (try simp only [Act.put, List.setIfInBounds_toArray, List.set_cons_zero, List.set_cons_succ])
  refine wpList_exec_if (op := { dst := some 91, op := Op.pick (Operand.tmp 85) (Operand.tmp 90) (Operand.const (Value.bool false)), type := 4, pos := "law.go:62", after := #[{ on := 14, ground := Ground.data }, { on := 19, ground := Ground.data }], guard := none }) (by kernel_rfl) ?_ ?_ ?_
  rotate_left
  · (go_simp; try with_reducible rfl)
  (try simp only [Act.put, List.setIfInBounds_toArray, List.set_cons_zero, List.set_cons_succ])
  refine wpList_exec_if (op := { dst := some 92, op := Op.move (Operand.tmp 91), type := 4, pos := "law.go:62", after := #[{ on := 20, ground := Ground.data }, { on := 14, ground := Ground.chain }], guard := none }) (by kernel_rfl) ?_ ?_ ?_
  rotate_left
  · (go_simp; try with_reducible rfl)
  (try simp only [Act.put, List.setIfInBounds_toArray, List.set_cons_zero, List.set_cons_succ])
  refine wpList_load_if (op := { dst := some 93, op := Op.load 35 (Operand.tmp 3), type := 35, pos := "law.go:62", after := #[{ on := 21, ground := Ground.guard }], guard := some (21, true) }) (by kernel_rfl) 35 _ rfl gb 0 rfl VP2 _ hr2 Try.underlying35 rfl HI_VP2.out ?_
  (try simp only [Act.put, List.setIfInBounds_toArray, List.set_cons_zero, List.set_cons_succ])
  clear hr0 hr1 hr2 heq1 heq2 c41
  go_wp2_with (fail)
  refine (HWa.out _).mono ?_
  rintro e w22 ⟨rfl, bb⟩
  have HK22 := Lib.hid (HK21.out.below bb (Nat.le_refl _))
  have HE3_22 := Lib.hid (HE3_21.out.below bb (Nat.le_refl _))
  have HE4_22 := Lib.hid (HE4_21.out.below bb (Nat.le_refl _))
  have HE5_22 := Lib.hid (HE5_21.out.below bb (Nat.le_refl _))
  have HE6_22 := Lib.hid (HE6_21.out.below bb (Nat.le_refl _))
  clear bb HK21 HE3_21 HE4_21 HE5_21 HE6_21
  have c41 : w22.cell? ⟨gb, 41, none⟩ = some (.string S1) := HK22.out.tl.tl.tl.tl.tl.tl.tl.hd.at HC_VP2_41.out
  have zi : (1 : Int) ≤ (S1.size : Int) := by omega
  obtain ⟨S4, hS4⟩ : ∃ S, S = S1.extract 1 S1.size := ⟨_, rfl⟩
  have z4 : S4.size = 1240 := by rw [hS4, ByteArray.size_extract]; omega
  (dsimp only; refine (‹∀ (a : Act) (w : World), wpList _ _ _ _ a w → _› _ _ ?_))
  refine wpList_exec_if (op := { dst := some 95, op := Op.unOp UnOp.not 4 (Operand.tmp 94), type := 4, pos := "law.go:62", after := #[{ on := 23, ground := Ground.data }, { on := 21, ground := Ground.guard }], guard := some (21, true) }) (by kernel_rfl) ?_ ?_ ?_
  rotate_left
  · (go_simp; try with_reducible rfl)
  (try simp only [Act.put, List.setIfInBounds_toArray, List.set_cons_zero, List.set_cons_succ])
  refine wpList_exec_if (op := { dst := some 96, op := Op.pick (Operand.tmp 92) (Operand.tmp 95) (Operand.const (Value.bool false)), type := 4, pos := "law.go:62", after := #[{ on := 21, ground := Ground.data }, { on := 24, ground := Ground.data }], guard := none }) (by kernel_rfl) ?_ ?_ ?_
  rotate_left
  · (go_simp; try with_reducible rfl)
  (try simp only [Act.put, List.setIfInBounds_toArray, List.set_cons_zero, List.set_cons_succ])
  refine wpList_exec_if (op := { dst := some 97, op := Op.move (Operand.tmp 96), type := 4, pos := "law.go:62", after := #[{ on := 25, ground := Ground.data }, { on := 23, ground := Ground.chain }], guard := none }) (by kernel_rfl) ?_ ?_ ?_
  rotate_left
  · (go_simp; try with_reducible rfl)
  (try simp only [Act.put, List.setIfInBounds_toArray, List.set_cons_zero, List.set_cons_succ])
  refine wpList_exec_if (op := { dst := some 98, op := Op.fieldAddr 35 (Operand.tmp 3) 11, type := 0, pos := "law.go:62", after := #[{ on := 26, ground := Ground.guard }], guard := some (26, true) }) (by kernel_rfl) ?_ ?_ ?_
  rotate_left
  · (go_simp; try with_reducible rfl)
  (try simp only [Act.put, List.setIfInBounds_toArray, List.set_cons_zero, List.set_cons_succ])
  refine wpList_exec_if (op := { dst := some 99, op := Op.load 9 (Operand.tmp 98), type := 9, pos := "law.go:62", after := #[{ on := 27, ground := Ground.data }, { on := 26, ground := Ground.guard }], guard := some (26, true) }) (by kernel_rfl) ?_ ?_ ?_
  rotate_left
  · (go_simp; try with_reducible rfl)
  (try simp only [Act.put, List.setIfInBounds_toArray, List.set_cons_zero, List.set_cons_succ])
  refine wpList_exec_if (op := { dst := some 100, op := Op.slice 9 (Operand.tmp 99) (some (Operand.const (Value.int IntKind.i64 1))) none none, type := 9, pos := "law.go:62", after := #[{ on := 28, ground := Ground.data }, { on := 26, ground := Ground.guard }], guard := some (26, true) }) (by kernel_rfl) (.string S4) ?_ ?_
  · (rw [hS4]; go_simp; try with_reducible rfl)
  (try simp only [Act.put, List.setIfInBounds_toArray, List.set_cons_zero, List.set_cons_succ])
  refine wpList_exec_if (op := { dst := some 101, op := Op.build 35 #[(11, Operand.tmp 100)], type := 35, pos := "law.go:62", after := #[{ on := 29, ground := Ground.data }, { on := 26, ground := Ground.guard }], guard := some (26, true) }) (by kernel_rfl) (.agg ((k8 S4).vals (.slice none 0 0)).toArray) ?_ ?_
  · (exact run_execN (T := 35) rfl (by rw [List.map_toArray]; rfl) (HB8.out _ _))
  (try simp only [Act.put, List.setIfInBounds_toArray, List.set_cons_zero, List.set_cons_succ])
  clear c41 zi hS4
  go_wp2_with (fail)
  refine (HWb.out _ z4 _).mono ?_
  rintro e w23 ⟨rfl, bb⟩
  have HK23 := Lib.hid (HK22.out.below bb (Nat.le_refl _))
  have HE3_23 := Lib.hid (HE3_22.out.below bb (Nat.le_refl _))
  have HE4_23 := Lib.hid (HE4_22.out.below bb (Nat.le_refl _))
  have HE5_23 := Lib.hid (HE5_22.out.below bb (Nat.le_refl _))
  have HE6_23 := Lib.hid (HE6_22.out.below bb (Nat.le_refl _))
  clear bb HK22 HE3_22 HE4_22 HE5_22 HE6_22
  go_wp2_with (fail)
  refine (same_any HE3_23.out).mono ?_
  rintro e w99 ⟨rfl, rfl⟩
  go_wp2_with (fail)
  refine (same_any HE4_23.out).mono ?_
  rintro e w99 ⟨rfl, rfl⟩
  go_wp2_with (fail)
  refine (same_any HE5_23.out).mono ?_
  rintro e w99 ⟨rfl, rfl⟩
  go_wp2_with (fail)
  refine (same_any HE6_23.out).mono ?_
  rintro e w99 ⟨rfl, rfl⟩
  go_wp2_with (fail)
  go_ret
  exact ⟨rfl, HK23.out.2.1⟩
end Go.Proofs.Ytkihhmnlefekoaa
