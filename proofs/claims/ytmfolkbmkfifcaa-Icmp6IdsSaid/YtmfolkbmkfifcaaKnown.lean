/-
  Proved here: the law Icmp6Known answers true, given what the program's functions answer.
  Conditions: MSays.
-/
import Derived.Test.YtmfolkbmkfifcaaAwake
namespace Go.Proofs.Ytmfolkbmkfifcaa
open Go.RowKit

set_option maxRecDepth 100000 in
set_option maxHeartbeats 2000000 in
theorem icmp6Known_all (U : MSays) (w : World) :
    Calls Try.prog 3 #[] w fun e w' => e = .returned (.bool true) ∧ Below w.heap.size w w' := by
  have HA := Lib.hid (fun W => awake_true U W)
  have C0 := Lib.hid ex_any
  have E1 : Hid (∀ W, Calls Try.prog 8 #[.agg #[.int .i64 128, .int .i64 0, .int .u32 65538, .string ⟨#[104, 105]⟩]] W fun e w' => e = .returned (.tuple #[.int .i64 1, .bool true, .bool true]) ∧ Below W.heap.size W w') := Lib.hid (fun W => by
    refine (U.echo (exD) W (by decide)).mono ?_
    rintro e w' ⟨rfl, b⟩
    obtain ⟨e0, e1, e2⟩ := (show (exD).idn = 1 ∧ (exD).asks = true ∧ (exD).is = true by decide +kernel)
    rw [e0, e1, e2]
    exact ⟨rfl, b⟩)
  have E2 : Hid (∀ W, Calls Try.prog 8 #[.agg #[.int .i64 129, .int .i64 0, .int .u32 0, .string ⟨#[]⟩]] W fun e w' => e = .returned (.tuple #[.int .i64 0, .bool false, .bool true]) ∧ Below W.heap.size W w') := Lib.hid (fun W => by
    refine (U.echo (Ms.mk 129 0 0 ⟨#[]⟩) W (by decide)).mono ?_
    rintro e w' ⟨rfl, b⟩
    obtain ⟨e0, e1, e2⟩ := (show (Ms.mk 129 0 0 ⟨#[]⟩).idn = 0 ∧ (Ms.mk 129 0 0 ⟨#[]⟩).asks = false ∧ (Ms.mk 129 0 0 ⟨#[]⟩).is = true by decide +kernel)
    rw [e0, e1, e2]
    exact ⟨rfl, b⟩)
  have E3 : Hid (∀ W, Calls Try.prog 8 #[.agg #[.int .i64 128, .int .i64 1, .int .u32 0, .string ⟨#[]⟩]] W fun e w' => e = .returned (.tuple #[.int .i64 0, .bool false, .bool false]) ∧ Below W.heap.size W w') := Lib.hid (fun W => by
    refine (U.echo (Ms.mk 128 1 0 ⟨#[]⟩) W (by decide)).mono ?_
    rintro e w' ⟨rfl, b⟩
    obtain ⟨e0, e1, e2⟩ := (show (Ms.mk 128 1 0 ⟨#[]⟩).idn = 0 ∧ (Ms.mk 128 1 0 ⟨#[]⟩).asks = false ∧ (Ms.mk 128 1 0 ⟨#[]⟩).is = false by decide +kernel)
    rw [e0, e1, e2]
    exact ⟨rfl, b⟩)
  have P1 : Hid (∀ W, Calls Try.prog 10 #[.string ⟨#[49, 50, 51, 52, 53, 54, 55]⟩, .string ⟨#[]⟩] W fun e w' => ∃ x o0 o1 o2 o3, e = .returned (.tuple #[.agg #[.int .i64 o0, .int .i64 o1, .int .u32 (o2 : Nat), .string o3], x]) ∧ ErrV W.heap.size 7 x w' ∧ Below W.heap.size W w') := Lib.hid (fun W => by
    refine (U.parse ⟨#[49, 50, 51, 52, 53, 54, 55]⟩ ⟨#[]⟩ W (by decide) (by decide)).mono ?_
    rintro e w' ⟨x, rfl, he, b⟩
    rw [show mcode ⟨#[]⟩ ⟨#[49, 50, 51, 52, 53, 54, 55]⟩ = 7 by decide +kernel] at he
    exact ⟨x, _, _, _, _, rfl, he, b⟩)
  have B1 : Hid (∀ W, Calls Try.prog 11 #[.agg #[.int .i64 256, .int .i64 0, .int .u32 0, .string ⟨#[]⟩], .string ⟨#[]⟩] W fun e w' => ∃ x so, e = .returned (.tuple #[.string so, x]) ∧ ErrV W.heap.size 13 x w' ∧ Below W.heap.size W w') := Lib.hid (fun W => by
    refine (U.bytes (Ms.mk 256 0 0 ⟨#[]⟩) ⟨#[]⟩ W (by decide) (by decide) (by decide)).mono ?_
    rintro e w' ⟨x, rfl, he, b⟩
    rw [show (Ms.mk 256 0 0 ⟨#[]⟩).why = 13 by decide +kernel] at he
    exact ⟨x, _, rfl, he, b⟩)
  have W1 : Hid (∀ W, Calls Try.prog 13 #[.agg #[.int .i64 128, .int .i64 0, .int .u32 65538, .string ⟨#[104, 105]⟩], .int .i64 65537] W fun e w' => e = .returned (.agg #[.int .i64 128, .int .i64 0, .int .u32 65538, .string ⟨#[104, 105]⟩]) ∧ Below W.heap.size W w') := Lib.hid (fun W => by
    refine (U.withId exD 65537 W (by decide) (by decide) (by decide)).mono ?_
    rintro e w' ⟨rfl, b⟩
    obtain ⟨e0, e1, e2, e3⟩ := (show (exD.withId 65537).kd = 128 ∧ (exD.withId 65537).cd = 0 ∧ (exD.withId 65537).rs = 65538 ∧ (exD.withId 65537).da = ⟨#[104, 105]⟩ by decide +kernel)
    rw [e0, e1, e2, e3]
    exact ⟨rfl, b⟩)
  have F1 : Hid (∀ W, Calls Try.prog 14 #[.agg #[.int .i64 1, .int .i64 0, .int .u32 0, .string ⟨#[]⟩]] W fun e w' => e = .returned (.bool true) ∧ Below W.heap.size W w') := Lib.hid (fun W => by
    refine (U.fails (Ms.mk 1 0 0 ⟨#[]⟩) W (by decide)).mono ?_
    rintro e w' ⟨rfl, b⟩
    rw [show (Ms.mk 1 0 0 ⟨#[]⟩).fails = true by decide +kernel]
    exact ⟨rfl, b⟩)
  have F2 : Hid (∀ W, Calls Try.prog 14 #[.agg #[.int .i64 128, .int .i64 0, .int .u32 65538, .string ⟨#[104, 105]⟩]] W fun e w' => e = .returned (.bool false) ∧ Below W.heap.size W w') := Lib.hid (fun W => by
    refine (U.fails exD W (by decide)).mono ?_
    rintro e w' ⟨rfl, b⟩
    rw [show exD.fails = false by decide +kernel]
    exact ⟨rfl, b⟩)
  have hq := fun W => eqlMs 128 0 65538 ⟨#[104, 105]⟩ W
  go_enter Try.func3, Try.ntmps3
  go_wp2_with fail
  refine (C0.out _).mono ?_
  rintro e w1 ⟨rfl, b1⟩
  have HB1 := Lib.hid b1
  clear b1
  go_wp2_with fail
  refine (E1.out _).mono ?_
  rintro e w2 ⟨rfl, b2⟩
  have HB2 := Lib.hid (HB1.out.trans (b2.mono HB1.out.size))
  clear b2 HB1
  go_wp2_with fail
  refine (E2.out _).mono ?_
  rintro e w3 ⟨rfl, b3⟩
  have HB3 := Lib.hid (HB2.out.trans (b3.mono HB2.out.size))
  clear b3 HB2
  go_wp2_with fail
  refine (E3.out _).mono ?_
  rintro e w4 ⟨rfl, b4⟩
  have HB4 := Lib.hid (HB3.out.trans (b4.mono HB3.out.size))
  clear b4 HB3
  go_wp2_with fail
  refine (P1.out _).mono ?_
  rintro e w5 ⟨x, o0, o1, o2, o3, rfl, he, b5⟩
  have HX6 := Lib.hid (he.below ((Below.refl _ _).alloc (Nat.le_refl _) (.cells ([.int .i64 o0, .int .i64 o1, .int .u32 (o2 : Nat), .string o3] : List Value).toArray 26)) (Nat.le_refl _))
  have HB6 := Lib.hid ((HB4.out.trans (b5.mono HB4.out.size)).alloc (Nat.le_trans HB4.out.size b5.size) (.cells ([.int .i64 o0, .int .i64 o1, .int .u32 (o2 : Nat), .string o3] : List Value).toArray 26))
  clear he b5 HB4
  generalize hw6 : w5.alloc (.cells #[.int .i64 o0, .int .i64 o1, .int .u32 (o2 : Nat), .string o3] 26) = w6 at *
  go_upto_region 5 with (fail)
  clear hw6
  go_wp2_with fail
  refine (B1.out _).mono ?_
  rintro e w7 ⟨y, so, rfl, hy, b7⟩
  have HB7 := Lib.hid (HB6.out.trans (b7.mono HB6.out.size))
  have HX7 := Lib.hid (HX6.out.below b7 (Nat.le_refl _))
  have HY7 := Lib.hid hy
  clear hy
  clear b7 HB6 HX6
  go_wp2_with fail
  refine (HA.out _).mono ?_
  rintro e w8 ⟨rfl, b8⟩
  have HB8 := Lib.hid (HB7.out.trans (b8.mono HB7.out.size))
  have HX8 := Lib.hid (HX7.out.below b8 (Nat.le_refl _))
  have HY8 := Lib.hid (HY7.out.below b8 (Nat.le_refl _))
  clear b8 HB7 HX7 HY7
  go_wp2_with fail
  refine (C0.out _).mono ?_
  rintro e w9 ⟨rfl, b9⟩
  have HB9 := Lib.hid (HB8.out.trans (b9.mono HB8.out.size))
  have HX9 := Lib.hid (HX8.out.below b9 (Nat.le_refl _))
  have HY9 := Lib.hid (HY8.out.below b9 (Nat.le_refl _))
  clear b9 HB8 HX8 HY8
  go_wp2_with fail
  refine (W1.out _).mono ?_
  rintro e w10 ⟨rfl, b10⟩
  have HB10 := Lib.hid (HB9.out.trans (b10.mono HB9.out.size))
  have HX10 := Lib.hid (HX9.out.below b10 (Nat.le_refl _))
  have HY10 := Lib.hid (HY9.out.below b10 (Nat.le_refl _))
  clear b10 HB9 HX9 HY9
  go_wp2_with fail
  refine (C0.out _).mono ?_
  rintro e w11 ⟨rfl, b11⟩
  have HB11 := Lib.hid (HB10.out.trans (b11.mono HB10.out.size))
  have HX11 := Lib.hid (HX10.out.below b11 (Nat.le_refl _))
  have HY11 := Lib.hid (HY10.out.below b11 (Nat.le_refl _))
  clear b11 HB10 HX10 HY10
  go_wp2_with fail
  refine (F1.out _).mono ?_
  rintro e w12 ⟨rfl, b12⟩
  have HB12 := Lib.hid (HB11.out.trans (b12.mono HB11.out.size))
  have HX12 := Lib.hid (HX11.out.below b12 (Nat.le_refl _))
  have HY12 := Lib.hid (HY11.out.below b12 (Nat.le_refl _))
  clear b12 HB11 HX11 HY11
  go_wp2_with fail
  refine (C0.out _).mono ?_
  rintro e w13 ⟨rfl, b13⟩
  have HB13 := Lib.hid (HB12.out.trans (b13.mono HB12.out.size))
  have HX13 := Lib.hid (HX12.out.below b13 (Nat.le_refl _))
  have HY13 := Lib.hid (HY12.out.below b13 (Nat.le_refl _))
  clear b13 HB12 HX12 HY12
  go_wp2_with fail
  refine (F2.out _).mono ?_
  rintro e w14 ⟨rfl, b14⟩
  have HB14 := Lib.hid (HB13.out.trans (b14.mono HB13.out.size))
  have HX14 := Lib.hid (HX13.out.below b14 (Nat.le_refl _))
  have HY14 := Lib.hid (HY13.out.below b14 (Nat.le_refl _))
  clear b14 HB13 HX13 HY13
  go_wp2_with fail
  refine (same_any HX14.out).mono ?_
  rintro e w15 ⟨rfl, rfl⟩
  go_wp2_with fail
  refine (same_any HY14.out).mono ?_
  rintro e w15 ⟨rfl, rfl⟩
  go_wp2_with fail
  go_ret
  exact ⟨rfl, HB14.out⟩
end Go.Proofs.Ytmfolkbmkfifcaa
