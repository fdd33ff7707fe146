/-
  Proved here: what the laws' own awake answers, given what the program's functions answer.
  Conditions: TSays.
-/
import Derived.Test.YtljlonligbheaaaRaw
namespace Go.Proofs.Ytljlonligbheaaa
open Go.RowKit

def exD : Sg := ⟨1, 2, 0, rawB⟩
def exU : ByteArray := ⟨#[0, 1, 0, 2, 0, 0, 0, 0, 0, 0, 0, 0, 80, 0, 0, 0, 175, 252, 0, 0]⟩
theorem exD_why : exD.why = 0 := by decide +kernel
theorem exD_out : exD.out ⟨#[]⟩ = exU := by decide +kernel
theorem exU_code : tcode exU = 0 := by decide +kernel
theorem exU_parts : (tans exU).fr = 1 ∧ (tans exU).dst = 2 ∧ (tans exU).fl = 0 ∧ (tans exU).raw = exU := by decide +kernel
theorem exU_eq : (⟨#[0, 1, 0, 2]⟩ : ByteArray) ++ zs 8 ++ ⟨#[80, 0, 0, 0, 175, 252, 0, 0]⟩ = exU := by decide +kernel
set_option maxRecDepth 100000 in
theorem awake_true (U : TSays) (w : World) :
    Calls Try.prog 13 #[] w fun e w' => e = .returned (.bool true) ∧ Below w.heap.size w w' := by
  have C0 := Lib.hid raw_any
  have CZ := Lib.hid (fun W => zeros_at 8 8 rfl W (by omega))
  have C1 : Hid (∀ W, Calls Try.prog 12 #[.agg #[.int .i64 1, .int .i64 2, .int .i64 0, .string rawB], .string ⟨#[]⟩] W fun e w' => e = .returned (.tuple #[.string exU, .nilIface]) ∧ Below W.heap.size W w') := Lib.hid (fun W => by
    refine (U.bytes exD ⟨#[]⟩ W (by decide) (by decide)).mono ?_
    rintro e w' ⟨x, rfl, he, b⟩
    rw [exD_why] at he
    rw [he.nil, exD_out]
    exact ⟨rfl, b⟩)
  have C2 : Hid (∀ W, Calls Try.prog 9 #[.string exU] W fun e w' => e = .returned (.tuple #[.agg #[.int .i64 1, .int .i64 2, .int .i64 0, .string exU], .nilIface]) ∧ Below W.heap.size W w') := Lib.hid (fun W => by
    refine (U.parse exU W (by decide)).mono ?_
    rintro e w' ⟨x, rfl, he, b⟩
    obtain ⟨e0, e1, e2, e3⟩ := exU_parts
    rw [exU_code] at he
    rw [he.nil, e0, e1, e2, e3]
    exact ⟨rfl, b⟩)
  have HU := exU_eq
  have z8 := zs_size 8
  have zc := dcat_len
  have z12 : ((⟨#[0, 1, 0, 2]⟩ : ByteArray) ++ zs 8).size = 12 := by rw [dcat_len, z8]; rfl
  generalize zs 8 = Z at *
  generalize exU = EU at *
  generalize rawB = RB at *
  have hq := fun W => eqlSg 1 2 0 EU W
  go_enter Try.func13, Try.ntmps13
  go_wp2_with fail
  refine (C0.out _).mono ?_
  rintro e w0 ⟨rfl, b0⟩
  have HB0 := Lib.hid b0
  clear b0 C0
  go_wp2_with fail
  refine (C1.out _).mono ?_
  rintro e w1 ⟨rfl, b1⟩
  have HB1 := Lib.hid (HB0.out.trans (b1.mono HB0.out.size))
  clear b1 HB0 C1
  go_wp2_with fail
  refine (C2.out _).mono ?_
  rintro e w2 ⟨rfl, b2⟩
  have hbk := bk_new w2 23 ([.int .i64 1, .int .i64 2, .int .i64 0, .string EU] : List Value).toArray
  have HB2 := Lib.hid ((HB1.out.trans (b2.mono HB1.out.size)).alloc (Nat.le_trans HB1.out.size b2.size) (.cells ([.int .i64 1, .int .i64 2, .int .i64 0, .string EU] : List Value).toArray 23))
  have HK := Lib.hid hbk
  clear b2 HB1 C2 hbk
  generalize hw3 : w2.alloc (.cells #[.int .i64 1, .int .i64 2, .int .i64 0, .string EU] 23) = w3 at *
  go_upto_region 3 with (fail)
  clear hw3
  go_wp2_with fail
  refine (CZ.out _).mono ?_
  rintro e w4 ⟨rfl, b4⟩
  have hk4 := HK.out.below b4 HK.out.lt
  have c0 := hk4.at (V := [.int .i64 1, .int .i64 2, .int .i64 0, .string EU]) (i := 0) rfl
  have c1 := hk4.at (V := [.int .i64 1, .int .i64 2, .int .i64 0, .string EU]) (i := 1) rfl
  have c2 := hk4.at (V := [.int .i64 1, .int .i64 2, .int .i64 0, .string EU]) (i := 2) rfl
  have c3 := hk4.at (V := [.int .i64 1, .int .i64 2, .int .i64 0, .string EU]) (i := 3) rfl
  have HB4 := Lib.hid (HB2.out.trans (b4.mono HB2.out.size))
  clear b4 hk4 HK HB2 CZ
  go_wp2_with fail
  go_ret
  exact ⟨rfl, HB4.out⟩
end Go.Proofs.Ytljlonligbheaaa
