/-
  Proved here: the law UdpKnown answers true, and leaves old memory as it was.
  Conditions: none.
-/
import Derived.Test.YtiemapkajpfikaaSays
import Derived.Test.YtiemapkajpfikaaAwake
import Derived.Test.YtiemapkajpfikaaShelf
namespace Go.Proofs.Ytiemapkajpfikaa
open Go.RowKit

/-- Errors that lie in memory. -/
def Errs (B : Nat) (w : World) (l : List (Int × Value)) : Prop := ∀ x ∈ l, ErrV B x.1 x.2 w
theorem Errs.below {B : Nat} {w w' : World} {l : List (Int × Value)} (h : Errs B w l) (hb : Below w.heap.size w w') : Errs B w' l := fun x hx => (h x hx).below hb (Nat.le_refl _)
theorem Errs.cons {B : Nat} {w : World} {l : List (Int × Value)} {c : Int} {v : Value} (h : Errs B w l) (hf : ErrV B c v w) : Errs B w ((c, v) :: l) := fun x hx => by
  rcases List.mem_cons.1 hx with rfl | hx
  · exact hf
  · exact h x hx
def xs (n : Nat) : ByteArray := ⟨(Lib.repeatL [120] n).toArray⟩
theorem xs_size (n : Nat) : (xs n).size = n := by
  rw [← ba_size]
  show (Lib.repeatL [120] n).length = n
  rw [Lib.repeatL_length]
  simp
theorem repeat_any (n : Nat) (w : World) (hn : n ≤ 70000) : Calls Try.prog 11 #[.string ⟨#[120]⟩, .int .i64 (n : Int)] w fun e w' => e = .returned (.string (xs n)) ∧ Below w.heap.size w w' :=
  Try.strings_Repeat ⟨#[120]⟩ n w (by omega) (by show 1 * n ≤ _; omega)
theorem kn1 : dcode ⟨#[49, 50, 51, 52, 53, 54, 55]⟩ = 7 := by decide +kernel
theorem kn2 : dcode ⟨#[0, 1, 0, 2, 0, 9, 0, 0]⟩ = 8 := by decide +kernel
theorem kn3 : ccode ⟨#[0, 1, 0, 2, 0, 8, 0, 0]⟩ ⟨#[]⟩ = 4 := by decide +kernel
theorem why_data (R : ByteArray) : (Dg.mk 0 0 0 R).why = if 65527 < R.size then 3 else 0 := by
  unfold Dg.why
  rw [if_neg (by show ¬ ((0 : Int) < 0 ∨ (65535 : Int) < 0 ∨ (0 : Int) < 0 ∨ (65535 : Int) < 0); decide)]
set_option maxRecDepth 100000 in
set_option maxHeartbeats 2000000 in
theorem udpKnown_all (U : USays) (w : World) :
    Calls Try.prog 3 #[] w fun e w' => e = .returned (.bool true) ∧ Below w.heap.size w w' := by
  have HA := Lib.hid (fun W => awake_true U W)
  have K1 : Hid (∀ W, Calls Try.prog 8 #[.string ⟨#[49, 50, 51, 52, 53, 54, 55]⟩] W fun e w' => ∃ x, e = .returned (.tuple #[.agg #[.int .i64 (dans ⟨#[49, 50, 51, 52, 53, 54, 55]⟩).fr, .int .i64 (dans ⟨#[49, 50, 51, 52, 53, 54, 55]⟩).dst, .int .i64 (dans ⟨#[49, 50, 51, 52, 53, 54, 55]⟩).sm, .string (dans ⟨#[49, 50, 51, 52, 53, 54, 55]⟩).data], x]) ∧ ErrV W.heap.size 7 x w' ∧ Below W.heap.size W w') := Lib.hid (fun W => by
    have := U.parse ⟨#[49, 50, 51, 52, 53, 54, 55]⟩ W (by decide)
    rwa [kn1] at this)
  have K2 : Hid (∀ W, Calls Try.prog 8 #[.string ⟨#[0, 1, 0, 2, 0, 9, 0, 0]⟩] W fun e w' => ∃ x, e = .returned (.tuple #[.agg #[.int .i64 (dans ⟨#[0, 1, 0, 2, 0, 9, 0, 0]⟩).fr, .int .i64 (dans ⟨#[0, 1, 0, 2, 0, 9, 0, 0]⟩).dst, .int .i64 (dans ⟨#[0, 1, 0, 2, 0, 9, 0, 0]⟩).sm, .string (dans ⟨#[0, 1, 0, 2, 0, 9, 0, 0]⟩).data], x]) ∧ ErrV W.heap.size 8 x w' ∧ Below W.heap.size W w') := Lib.hid (fun W => by
    have := U.parse ⟨#[0, 1, 0, 2, 0, 9, 0, 0]⟩ W (by decide)
    rwa [kn2] at this)
  have K3 : Hid (∀ W, Calls Try.prog 9 #[.string ⟨#[0, 1, 0, 2, 0, 8, 0, 0]⟩, .string ⟨#[]⟩] W fun e w' => ∃ x, e = .returned x ∧ ErrV W.heap.size 4 x w' ∧ Below W.heap.size W w') := Lib.hid (fun W => by
    have := U.check ⟨#[0, 1, 0, 2, 0, 8, 0, 0]⟩ ⟨#[]⟩ W (by decide) (by decide)
    rwa [kn3] at this)
  have R1 : Hid (∀ W, Calls Try.prog 11 #[.string ⟨#[120]⟩, .int .i64 65528] W fun e w' => e = .returned (.string (xs 65528)) ∧ Below W.heap.size W w') := Lib.hid (fun W => repeat_any 65528 W (by omega))
  have R2 : Hid (∀ W, Calls Try.prog 11 #[.string ⟨#[120]⟩, .int .i64 65527] W fun e w' => e = .returned (.string (xs 65527)) ∧ Below W.heap.size W w') := Lib.hid (fun W => repeat_any 65527 W (by omega))
  have K4 : Hid (∀ W, Calls Try.prog 10 #[.agg #[.int .i64 0, .int .i64 0, .int .i64 0, .string (xs 65528)], .string ⟨#[]⟩] W fun e w' => ∃ t x, e = .returned (.tuple #[.string t, x]) ∧ ErrV W.heap.size 3 x w' ∧ Below W.heap.size W w') := Lib.hid (fun W => by
    have := U.bytes (Dg.mk 0 0 0 (xs 65528)) ⟨#[]⟩ W (by show (xs 65528).size ≤ 70000; rw [xs_size]; omega) (by decide)
    rw [why_data, xs_size] at this
    refine this.mono ?_
    rintro e w' ⟨x, rfl, he, hb⟩
    exact ⟨_, x, rfl, he, hb⟩)
  have K5 : Hid (∀ W, Calls Try.prog 10 #[.agg #[.int .i64 0, .int .i64 0, .int .i64 0, .string (xs 65527)], .string ⟨#[]⟩] W fun e w' => ∃ t, e = .returned (.tuple #[.string t, .nilIface]) ∧ Below W.heap.size W w') := Lib.hid (fun W => by
    have := U.bytes (Dg.mk 0 0 0 (xs 65527)) ⟨#[]⟩ W (by show (xs 65527).size ≤ 70000; rw [xs_size]; omega) (by decide)
    rw [why_data, xs_size] at this
    refine this.mono ?_
    rintro e w' ⟨x, rfl, he, hb⟩
    rw [ErrV.nil he]
    exact ⟨_, rfl, hb⟩)
  have K6 : Hid (∀ W, Calls Try.prog 10 #[.agg #[.int .i64 0, .int .i64 65536, .int .i64 0, .string ⟨#[]⟩], .string ⟨#[]⟩] W fun e w' => ∃ t x, e = .returned (.tuple #[.string t, x]) ∧ ErrV W.heap.size 13 x w' ∧ Below W.heap.size W w') := Lib.hid (fun W => by
    have := U.bytes (Dg.mk 0 65536 0 ⟨#[]⟩) ⟨#[]⟩ W (by decide) (by decide)
    rw [show (Dg.mk 0 65536 0 ⟨#[]⟩).why = 13 by decide +kernel] at this
    refine this.mono ?_
    rintro e w' ⟨x, rfl, he, hb⟩
    exact ⟨_, x, rfl, he, hb⟩)
  generalize (dans ⟨#[49, 50, 51, 52, 53, 54, 55]⟩).fr = a0 at *
  generalize (dans ⟨#[49, 50, 51, 52, 53, 54, 55]⟩).dst = a1 at *
  generalize (dans ⟨#[49, 50, 51, 52, 53, 54, 55]⟩).sm = a2 at *
  generalize (dans ⟨#[49, 50, 51, 52, 53, 54, 55]⟩).data = a3 at *
  generalize (dans ⟨#[0, 1, 0, 2, 0, 9, 0, 0]⟩).fr = b0 at *
  generalize (dans ⟨#[0, 1, 0, 2, 0, 9, 0, 0]⟩).dst = b1 at *
  generalize (dans ⟨#[0, 1, 0, 2, 0, 9, 0, 0]⟩).sm = b2 at *
  generalize (dans ⟨#[0, 1, 0, 2, 0, 9, 0, 0]⟩).data = b3 at *
  generalize xs 65528 = XL at *
  generalize xs 65527 = XM at *
  have HB0 : Hid (Below w.heap.size w w) := Lib.hid (Below.refl _ _)
  have HF0 : Hid (Errs 0 w []) := Lib.hid (fun x hx => by cases hx)
  go_enter Try.func3, Try.ntmps3
  go_wp2_with fail
  refine (K1.out _).mono ?_
  rintro e w1 ⟨xa, rfl, he, bb⟩
  have HBx := Lib.hid (HB0.out.trans (bb.mono HB0.out.size))
  have HFx := Lib.hid ((HF0.out.below bb).cons (he.le (Nat.zero_le _)))
  clear bb he HB0 HF0
  have HB1 : Hid (Below w.heap.size w (w1.alloc (.cells #[.int .i64 a0, .int .i64 a1, .int .i64 a2, .string a3] 23))) := Lib.hid (HBx.out.alloc HBx.out.size _)
  have HF1 : Hid (Errs 0 (w1.alloc (.cells #[.int .i64 a0, .int .i64 a1, .int .i64 a2, .string a3] 23)) _) := Lib.hid (HFx.out.below ((Below.refl _ _).alloc (Nat.le_refl _) _))
  clear HBx HFx
  generalize hw : w1.alloc (.cells #[.int .i64 a0, .int .i64 a1, .int .i64 a2, .string a3] 23) = v1 at *
  go_upto_region 2 with (fail)
  clear hw
  go_wp2_with fail
  refine (K2.out _).mono ?_
  rintro e w2 ⟨xb, rfl, he, bb⟩
  have HBx := Lib.hid (HB1.out.trans (bb.mono HB1.out.size))
  have HFx := Lib.hid ((HF1.out.below bb).cons (he.le (Nat.zero_le _)))
  clear bb he HB1 HF1
  have HB2 : Hid (Below w.heap.size w (w2.alloc (.cells #[.int .i64 b0, .int .i64 b1, .int .i64 b2, .string b3] 23))) := Lib.hid (HBx.out.alloc HBx.out.size _)
  have HF2 : Hid (Errs 0 (w2.alloc (.cells #[.int .i64 b0, .int .i64 b1, .int .i64 b2, .string b3] 23)) _) := Lib.hid (HFx.out.below ((Below.refl _ _).alloc (Nat.le_refl _) _))
  clear HBx HFx
  generalize hw : w2.alloc (.cells #[.int .i64 b0, .int .i64 b1, .int .i64 b2, .string b3] 23) = v2 at *
  go_upto_region 3 with (fail)
  clear hw
  go_wp2_with fail
  refine (K3.out _).mono ?_
  rintro e w3 ⟨xc, rfl, he, bb⟩
  have HBx := Lib.hid (HB2.out.trans (bb.mono HB2.out.size))
  have HFx := Lib.hid ((HF2.out.below bb).cons (he.le (Nat.zero_le _)))
  clear bb he HB2 HF2
  have HB3 := HBx
  have HF3 := HFx
  clear HBx HFx
  go_wp2_with fail
  refine (R1.out _).mono ?_
  rintro e w4 ⟨rfl, bb⟩
  have HBx := Lib.hid (HB3.out.trans (bb.mono HB3.out.size))
  have HFx := Lib.hid (HF3.out.below bb)
  clear bb HB3 HF3
  have HB4 := HBx
  have HF4 := HFx
  clear HBx HFx
  go_wp2_with fail
  refine (K4.out _).mono ?_
  rintro e w5 ⟨td, xd, rfl, he, bb⟩
  have HBx := Lib.hid (HB4.out.trans (bb.mono HB4.out.size))
  have HFx := Lib.hid ((HF4.out.below bb).cons (he.le (Nat.zero_le _)))
  clear bb he HB4 HF4
  have HB5 := HBx
  have HF5 := HFx
  clear HBx HFx
  go_wp2_with fail
  refine (R2.out _).mono ?_
  rintro e w6 ⟨rfl, bb⟩
  have HBx := Lib.hid (HB5.out.trans (bb.mono HB5.out.size))
  have HFx := Lib.hid (HF5.out.below bb)
  clear bb HB5 HF5
  have HB6 := HBx
  have HF6 := HFx
  clear HBx HFx
  go_wp2_with fail
  refine (K5.out _).mono ?_
  rintro e w7 ⟨te, rfl, bb⟩
  have HBx := Lib.hid (HB6.out.trans (bb.mono HB6.out.size))
  have HFx := Lib.hid (HF6.out.below bb)
  clear bb HB6 HF6
  have HB7 := HBx
  have HF7 := HFx
  clear HBx HFx
  go_wp2_with fail
  refine (K6.out _).mono ?_
  rintro e w8 ⟨tf, xf, rfl, he, bb⟩
  have HBx := Lib.hid (HB7.out.trans (bb.mono HB7.out.size))
  have HFx := Lib.hid ((HF7.out.below bb).cons (he.le (Nat.zero_le _)))
  clear bb he HB7 HF7
  have HB8 := HBx
  have HF8 := HFx
  clear HBx HFx
  go_wp2_with fail
  refine (HA.out _).mono ?_
  rintro e w9 ⟨rfl, bb⟩
  have HBx := Lib.hid (HB8.out.trans (bb.mono HB8.out.size))
  have HFx := Lib.hid (HF8.out.below bb)
  clear bb HB8 HF8
  have HB9 := HBx
  have HF9 := HFx
  clear HBx HFx
  go_wp2_with fail
  refine (same_any (HF9.out (7, xa) (by simp))).mono ?_
  rintro e w' ⟨rfl, rfl⟩
  go_wp2_with fail
  refine (same_any (HF9.out (8, xb) (by simp))).mono ?_
  rintro e w' ⟨rfl, rfl⟩
  go_wp2_with fail
  refine (same_any (HF9.out (4, xc) (by simp))).mono ?_
  rintro e w' ⟨rfl, rfl⟩
  go_wp2_with fail
  refine (same_any (HF9.out (3, xd) (by simp))).mono ?_
  rintro e w' ⟨rfl, rfl⟩
  go_wp2_with fail
  refine (same_any (HF9.out (13, xf) (by simp))).mono ?_
  rintro e w' ⟨rfl, rfl⟩
  go_wp2_with fail
  go_ret
  exact ⟨rfl, HB9.out⟩
theorem udpKnown_any (w : World) : Calls Try.prog 3 #[] w fun e w' => e = .returned (.bool true) ∧ Below w.heap.size w w' := udpKnown_all uSays w
end Go.Proofs.Ytiemapkajpfikaa
