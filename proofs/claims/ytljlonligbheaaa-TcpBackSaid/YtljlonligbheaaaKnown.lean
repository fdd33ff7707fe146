/-
  Proved here: the law TcpKnown answers true, and leaves old memory as it was.
  Conditions: none (what the program's functions answer: TSays).
-/
import Derived.Test.YtljlonligbheaaaAwake
import Derived.Test.YtljlonligbheaaaBackLaw
namespace Go.Proofs.Ytljlonligbheaaa
open Go.RowKit

/-- Errors that lie in memory. -/
def Errs (B : Nat) (w : World) (l : List (Int × Value)) : Prop := ∀ x ∈ l, ErrV B x.1 x.2 w
theorem Errs.below {B : Nat} {w w' : World} {l : List (Int × Value)} (h : Errs B w l) (hb : Below w.heap.size w w') : Errs B w' l := fun x hx => (h x hx).below hb (Nat.le_refl _)
theorem Errs.cons {B : Nat} {w : World} {l : List (Int × Value)} {c : Int} {v : Value} (h : Errs B w l) (hf : ErrV B c v w) : Errs B w ((c, v) :: l) := fun x hx => by
  rcases List.mem_cons.1 hx with rfl | hx
  · exact hf
  · exact h x hx
theorem Errs.alloc {B : Nat} {w : World} {l : List (Int × Value)} (h : Errs B w l) (o : Obj) : Errs B (w.alloc o) l := h.below ((Below.refl _ _).alloc (Nat.le_refl _) _)
theorem ErrV.le {B C : Nat} {c : Int} {v : Value} {w : World} (h : ErrV B c v w) (hC : C ≤ B) : ErrV C c v w := by
  rcases h with h | ⟨h1, f, h2, h3, h4⟩
  · exact .inl h
  · exact .inr ⟨h1, f, h2, h3, Nat.le_trans hC h4⟩
theorem ErrV.sets {B : Nat} {c : Int} {v : Value} {w : World} {b : Nat} {T : TypeId} {A : Array Value} (h : ErrV B c v w) (hA : Bk w b T A) (hT : T ≠ 70) (vs : List Value) : ErrV B c v (w.setCells b 0 vs) := by
  rcases h with h | ⟨h1, f, h2, h3, h4⟩
  · exact .inl h
  · refine .inr ⟨h1, f, h2, Bk.sets_other h3 (fun e => ?_) 0 vs, h4⟩
    subst e
    have h3' : w.heap[f]? = some (.cells #[.int .i64 c, .int .i64 0] 70 (0, 0)) := h3
    unfold Bk at hA
    rw [h3'] at hA
    injection hA with e
    injection e with e1 e2 e3
    exact hT e2.symm
theorem Errs.sets {B : Nat} {w : World} {l : List (Int × Value)} {b : Nat} {T : TypeId} {A : Array Value} (h : Errs B w l) (hA : Bk w b T A) (hT : T ≠ 70) (vs : List Value) : Errs B (w.setCells b 0 vs) l := fun x hx => (h x hx).sets hA hT vs
theorem kn_size : rawB.size = 20 := by decide
theorem kn1 : tcode (rawB.extract 0 19) = 7 := by decide +kernel
theorem kn2 : tcode (zs 20) = 8 := by decide +kernel
theorem kn3 : (Sg.mk 65536 0 0 rawB).why = 13 := by decide +kernel
theorem kn4 : tcode (rawB.extract 0 13 ++ ⟨#[255]⟩ ++ rawB.extract 14 rawB.size) = 0 := by decide +kernel
theorem kn4f : (tans (rawB.extract 0 13 ++ ⟨#[255]⟩ ++ rawB.extract 14 rawB.size)).fl = 63 := by decide +kernel
theorem kn5 : tcode (rawB.extract 0 12 ++ ⟨#[96]⟩ ++ rawB.extract 13 rawB.size) = 7 := by decide +kernel
set_option maxRecDepth 100000 in
set_option maxHeartbeats 4000000 in
theorem tcpKnown_all (U : TSays) (w : World) :
    Calls Try.prog 3 #[] w fun e w' => e = .returned (.bool true) ∧ Below w.heap.size w w' := by
  have HA := Lib.hid (fun W => awake_true U W)
  have HR := Lib.hid raw_any
  have HZ := Lib.hid (fun W => zeros_at 20 20 rfl W (by omega))
  have K1 : Hid (∀ W, Calls Try.prog 9 #[.string (rawB.extract 0 19)] W fun e w' => ∃ x, e = .returned (.tuple #[.agg #[.int .i64 (tans (rawB.extract 0 19)).fr, .int .i64 (tans (rawB.extract 0 19)).dst, .int .i64 (tans (rawB.extract 0 19)).fl, .string (tans (rawB.extract 0 19)).raw], x]) ∧ ErrV W.heap.size 7 x w' ∧ Below W.heap.size W w') := Lib.hid (fun W => by
    have := U.parse (rawB.extract 0 19) W (by decide +kernel)
    rwa [kn1] at this)
  have K2 : Hid (∀ W, Calls Try.prog 9 #[.string (zs 20)] W fun e w' => ∃ x, e = .returned (.tuple #[.agg #[.int .i64 (tans (zs 20)).fr, .int .i64 (tans (zs 20)).dst, .int .i64 (tans (zs 20)).fl, .string (tans (zs 20)).raw], x]) ∧ ErrV W.heap.size 8 x w' ∧ Below W.heap.size W w') := Lib.hid (fun W => by
    have := U.parse (zs 20) W (by rw [zs_size]; omega)
    rwa [kn2] at this)
  have K3 : Hid (∀ W, Calls Try.prog 12 #[.agg #[.int .i64 65536, .int .i64 0, .int .i64 0, .string rawB], .string ⟨#[]⟩] W fun e w' => ∃ t x, e = .returned (.tuple #[.string t, x]) ∧ ErrV W.heap.size 13 x w' ∧ Below W.heap.size W w') := Lib.hid (fun W => by
    have := U.bytes (Sg.mk 65536 0 0 rawB) ⟨#[]⟩ W (by decide) (by decide)
    rw [kn3] at this
    refine this.mono ?_
    rintro e w' ⟨x, rfl, he, hb⟩
    exact ⟨_, x, rfl, he, hb⟩)
  have K4 : Hid (∀ W, Calls Try.prog 9 #[.string (rawB.extract 0 13 ++ ⟨#[255]⟩ ++ rawB.extract 14 rawB.size)] W fun e w' => ∃ x, e = .returned (.tuple #[.agg #[.int .i64 (tans (rawB.extract 0 13 ++ ⟨#[255]⟩ ++ rawB.extract 14 rawB.size)).fr, .int .i64 (tans (rawB.extract 0 13 ++ ⟨#[255]⟩ ++ rawB.extract 14 rawB.size)).dst, .int .i64 (tans (rawB.extract 0 13 ++ ⟨#[255]⟩ ++ rawB.extract 14 rawB.size)).fl, .string (tans (rawB.extract 0 13 ++ ⟨#[255]⟩ ++ rawB.extract 14 rawB.size)).raw], x]) ∧ ErrV W.heap.size 0 x w' ∧ Below W.heap.size W w') := Lib.hid (fun W => by
    have := U.parse (rawB.extract 0 13 ++ ⟨#[255]⟩ ++ rawB.extract 14 rawB.size) W (by decide +kernel)
    rwa [kn4] at this)
  have K5 : Hid (∀ W, Calls Try.prog 9 #[.string (rawB.extract 0 12 ++ ⟨#[96]⟩ ++ rawB.extract 13 rawB.size)] W fun e w' => ∃ x, e = .returned (.tuple #[.agg #[.int .i64 (tans (rawB.extract 0 12 ++ ⟨#[96]⟩ ++ rawB.extract 13 rawB.size)).fr, .int .i64 (tans (rawB.extract 0 12 ++ ⟨#[96]⟩ ++ rawB.extract 13 rawB.size)).dst, .int .i64 (tans (rawB.extract 0 12 ++ ⟨#[96]⟩ ++ rawB.extract 13 rawB.size)).fl, .string (tans (rawB.extract 0 12 ++ ⟨#[96]⟩ ++ rawB.extract 13 rawB.size)).raw], x]) ∧ ErrV W.heap.size 7 x w' ∧ Below W.heap.size W w') := Lib.hid (fun W => by
    have := U.parse (rawB.extract 0 12 ++ ⟨#[96]⟩ ++ rawB.extract 13 rawB.size) W (by decide +kernel)
    rwa [kn5] at this)
  have HFl := Lib.hid kn4f
  have hs13 : (rawB.extract 0 13).size = 13 := by decide +kernel
  have hs14 : (rawB.extract 14 rawB.size).size = 6 := by decide +kernel
  have hs12 : (rawB.extract 0 12).size = 12 := by decide +kernel
  have hs15 : (rawB.extract 13 rawB.size).size = 7 := by decide +kernel
  have i19 : (19 : Int) ≤ (rawB.size : Int) := by decide
  have i13 : (13 : Int) ≤ (rawB.size : Int) := by decide
  have i14 : (14 : Int) ≤ (rawB.size : Int) := by decide
  have i12 : (12 : Int) ≤ (rawB.size : Int) := by decide
  generalize (tans (rawB.extract 0 19)).fr = a0 at *
  generalize (tans (rawB.extract 0 19)).dst = a1 at *
  generalize (tans (rawB.extract 0 19)).fl = a2 at *
  generalize (tans (rawB.extract 0 19)).raw = a3 at *
  generalize (tans (zs 20)).fr = b0 at *
  generalize (tans (zs 20)).dst = b1 at *
  generalize (tans (zs 20)).fl = b2 at *
  generalize (tans (zs 20)).raw = b3 at *
  generalize (tans (rawB.extract 0 13 ++ ⟨#[255]⟩ ++ rawB.extract 14 rawB.size)).fr = d0 at *
  generalize (tans (rawB.extract 0 13 ++ ⟨#[255]⟩ ++ rawB.extract 14 rawB.size)).dst = d1 at *
  generalize (tans (rawB.extract 0 13 ++ ⟨#[255]⟩ ++ rawB.extract 14 rawB.size)).fl = d2 at *
  generalize (tans (rawB.extract 0 13 ++ ⟨#[255]⟩ ++ rawB.extract 14 rawB.size)).raw = d3 at *
  generalize (tans (rawB.extract 0 12 ++ ⟨#[96]⟩ ++ rawB.extract 13 rawB.size)).fr = f0 at *
  generalize (tans (rawB.extract 0 12 ++ ⟨#[96]⟩ ++ rawB.extract 13 rawB.size)).dst = f1 at *
  generalize (tans (rawB.extract 0 12 ++ ⟨#[96]⟩ ++ rawB.extract 13 rawB.size)).fl = f2 at *
  generalize (tans (rawB.extract 0 12 ++ ⟨#[96]⟩ ++ rawB.extract 13 rawB.size)).raw = f3 at *
  generalize rawB = RB at *
  generalize zs 20 = Z at *
  have zc := dcat_len
  have HB0 : Hid (Below w.heap.size w w) := Lib.hid (Below.refl _ _)
  have HF0 : Hid (Errs 0 w []) := Lib.hid (fun x hx => by cases hx)
  go_enter Try.func3, Try.ntmps3
  go_wp2_with fail
  refine (HR.out _).mono ?_
  rintro e w1 ⟨rfl, bb⟩
  have HBx := Lib.hid (HB0.out.trans (bb.mono HB0.out.size))
  have HFx := Lib.hid (HF0.out.below bb)
  clear bb HB0 HF0
  have HB1 := HBx
  have HF1 := HFx
  clear HBx HFx
  go_wp2_with fail
  refine (K1.out _).mono ?_
  rintro e w2 ⟨xa, rfl, he, bb⟩
  have HBx := Lib.hid (HB1.out.trans (bb.mono HB1.out.size))
  have HFx := Lib.hid ((HF1.out.below bb).cons (he.le (Nat.zero_le _)))
  clear bb he HB1 HF1
  have HB2 : Hid (Below w.heap.size w (w2.alloc (.cells #[.int .i64 a0, .int .i64 a1, .int .i64 a2, .string a3] 23))) := Lib.hid (HBx.out.alloc HBx.out.size _)
  have HF2 : Hid (Errs 0 (w2.alloc (.cells #[.int .i64 a0, .int .i64 a1, .int .i64 a2, .string a3] 23)) _) := Lib.hid (HFx.out.alloc _)
  clear HBx HFx
  generalize hw : w2.alloc (.cells #[.int .i64 a0, .int .i64 a1, .int .i64 a2, .string a3] 23) = v2 at *
  go_upto_region 2 with (fail)
  clear hw
  go_wp2_with fail
  refine (HZ.out _).mono ?_
  rintro e w3 ⟨rfl, bb⟩
  have HBx := Lib.hid (HB2.out.trans (bb.mono HB2.out.size))
  have HFx := Lib.hid (HF2.out.below bb)
  clear bb HB2 HF2
  have HB3 := HBx
  have HF3 := HFx
  clear HBx HFx
  go_wp2_with fail
  refine (K2.out _).mono ?_
  rintro e w4 ⟨xb, rfl, he, bb⟩
  have HBx := Lib.hid (HB3.out.trans (bb.mono HB3.out.size))
  have HFx := Lib.hid ((HF3.out.below bb).cons (he.le (Nat.zero_le _)))
  clear bb he HB3 HF3
  have HB4 : Hid (Below w.heap.size w (w4.alloc (.cells #[.int .i64 b0, .int .i64 b1, .int .i64 b2, .string b3] 23))) := Lib.hid (HBx.out.alloc HBx.out.size _)
  have HF4 : Hid (Errs 0 (w4.alloc (.cells #[.int .i64 b0, .int .i64 b1, .int .i64 b2, .string b3] 23)) _) := Lib.hid (HFx.out.alloc _)
  clear HBx HFx
  generalize hw : w4.alloc (.cells #[.int .i64 b0, .int .i64 b1, .int .i64 b2, .string b3] 23) = v4 at *
  go_upto_region 3 with (fail)
  clear hw
  go_wp2_with fail
  refine (HR.out _).mono ?_
  rintro e w5 ⟨rfl, bb⟩
  have HBx := Lib.hid (HB4.out.trans (bb.mono HB4.out.size))
  have HFx := Lib.hid (HF4.out.below bb)
  clear bb HB4 HF4
  have HB5 := HBx
  have HF5 := HFx
  clear HBx HFx
  go_wp2_with fail
  refine (K3.out _).mono ?_
  rintro e w6 ⟨tc, xc, rfl, he, bb⟩
  have HBx := Lib.hid (HB5.out.trans (bb.mono HB5.out.size))
  have HFx := Lib.hid ((HF5.out.below bb).cons (he.le (Nat.zero_le _)))
  clear bb he HB5 HF5
  have HB6 := HBx
  have HF6 := HFx
  clear HBx HFx
  go_upto_region 4 with (fail)
  have HI : Hid ((Try.prog.info? 23).map (·.size) = some 4) := Lib.hid (Try.infoSg sg0)
  have HOd : Hid (([.int .i64 d0, .int .i64 d1, .int .i64 d2, .string d3] : List Value).toArray.all (·.oneCell') = true) := Lib.hid (by simp [Value.oneCell'])
  have HOf : Hid (([.int .i64 f0, .int .i64 f1, .int .i64 f2, .string f3] : List Value).toArray.all (·.oneCell') = true) := Lib.hid (by simp [Value.oneCell'])
  rename_i KK hKK
  have key : Hid (∀ (g : Nat) (w7 : World), Bk w7 g 23 ([.int .i64 d0, .int .i64 d1, .int .i64 d2, .string d3] : List Value).toArray → Below w.heap.size w w7 → Errs 0 w7 [(13, xc), (8, xb), (7, xa)] → KK {tmps := #[.bool false, .pointer (some ⟨w2.heap.size, 0, none⟩), xa, .pointer (some ⟨w4.heap.size, 0, none⟩), xb, .string tc, xc, .pointer (some ⟨g, 0, none⟩), .nilIface, undef, undef, .tuple #[.agg #[.int .i64 a0, .int .i64 a1, .int .i64 a2, .string a3], xa], .string RB, .string (RB.extract 0 19), .tuple #[.agg #[.int .i64 a0, .int .i64 a1, .int .i64 a2, .string a3], xa], .agg #[.int .i64 a0, .int .i64 a1, .int .i64 a2, .string a3], xa, .tuple #[.agg #[.int .i64 b0, .int .i64 b1, .int .i64 b2, .string b3], xb], .string Z, .tuple #[.agg #[.int .i64 b0, .int .i64 b1, .int .i64 b2, .string b3], xb], .agg #[.int .i64 b0, .int .i64 b1, .int .i64 b2, .string b3], xb, .tuple #[.string tc, xc], .string RB, .agg #[.int .i64 65536, .int .i64 0, .int .i64 0, .string RB], .tuple #[.string tc, xc], .string tc, xc, .tuple #[.agg #[.int .i64 d0, .int .i64 d1, .int .i64 d2, .string d3], .nilIface], .string RB, .string (RB.extract 0 13), .string (RB.extract 0 13 ++ ⟨#[255]⟩), .string RB, .string (RB.extract 14 RB.size), .string (RB.extract 0 13 ++ ⟨#[255]⟩ ++ RB.extract 14 RB.size), .tuple #[.agg #[.int .i64 d0, .int .i64 d1, .int .i64 d2, .string d3], .nilIface], .agg #[.int .i64 d0, .int .i64 d1, .int .i64 d2, .string d3], .nilIface, undef, undef, undef, undef, undef, undef, undef, undef, undef, undef, undef, undef, undef, undef, undef, undef, undef, undef, undef, undef, undef, undef, undef, undef, undef, undef, undef, undef, undef, undef, undef, undef, undef, undef, undef, undef, undef, undef, undef, undef, undef, undef, undef, undef], defers := []} w7) := Lib.hid (by
    intro g w7 h2 h3 h4
    refine hKK _ _ ?_
    have HB7 := Lib.hid h3
    have HF7 := Lib.hid h4
    have HG7 := Lib.hid h2
    clear h2 h3 h4
    go_upto_region 5 with (fail)
    rename_i KK2 hKK2
    have key2 : Hid (∀ (g2 : Nat) (xn : Value) (w8 : World), Bk w8 g 23 ([.int .i64 d0, .int .i64 d1, .int .i64 d2, .string d3] : List Value).toArray → Below w.heap.size w w8 → Errs 0 w8 ((7, xn) :: [(13, xc), (8, xb), (7, xa)]) → KK2 {tmps := #[.bool false, .pointer (some ⟨w2.heap.size, 0, none⟩), xa, .pointer (some ⟨w4.heap.size, 0, none⟩), xb, .string tc, xc, .pointer (some ⟨g, 0, none⟩), .nilIface, .pointer (some ⟨g2, 0, none⟩), xn, .tuple #[.agg #[.int .i64 a0, .int .i64 a1, .int .i64 a2, .string a3], xa], .string RB, .string (RB.extract 0 19), .tuple #[.agg #[.int .i64 a0, .int .i64 a1, .int .i64 a2, .string a3], xa], .agg #[.int .i64 a0, .int .i64 a1, .int .i64 a2, .string a3], xa, .tuple #[.agg #[.int .i64 b0, .int .i64 b1, .int .i64 b2, .string b3], xb], .string Z, .tuple #[.agg #[.int .i64 b0, .int .i64 b1, .int .i64 b2, .string b3], xb], .agg #[.int .i64 b0, .int .i64 b1, .int .i64 b2, .string b3], xb, .tuple #[.string tc, xc], .string RB, .agg #[.int .i64 65536, .int .i64 0, .int .i64 0, .string RB], .tuple #[.string tc, xc], .string tc, xc, .tuple #[.agg #[.int .i64 d0, .int .i64 d1, .int .i64 d2, .string d3], .nilIface], .string RB, .string (RB.extract 0 13), .string (RB.extract 0 13 ++ ⟨#[255]⟩), .string RB, .string (RB.extract 14 RB.size), .string (RB.extract 0 13 ++ ⟨#[255]⟩ ++ RB.extract 14 RB.size), .tuple #[.agg #[.int .i64 d0, .int .i64 d1, .int .i64 d2, .string d3], .nilIface], .agg #[.int .i64 d0, .int .i64 d1, .int .i64 d2, .string d3], .nilIface, .tuple #[.agg #[.int .i64 f0, .int .i64 f1, .int .i64 f2, .string f3], xn], .string RB, .string (RB.extract 0 12), .string (RB.extract 0 12 ++ ⟨#[96]⟩), .string RB, .string (RB.extract 13 RB.size), .string (RB.extract 0 12 ++ ⟨#[96]⟩ ++ RB.extract 13 RB.size), .tuple #[.agg #[.int .i64 f0, .int .i64 f1, .int .i64 f2, .string f3], xn], .agg #[.int .i64 f0, .int .i64 f1, .int .i64 f2, .string f3], xn, undef, undef, undef, undef, undef, undef, undef, undef, undef, undef, undef, undef, undef, undef, undef, undef, undef, undef, undef, undef, undef, undef, undef, undef, undef, undef, undef, undef, undef, undef, undef, undef, undef, undef], defers := []} w8) := Lib.hid (by
      intro g2 xn w8 h2 h3 h4
      refine hKK2 _ _ ?_
      have HB8 := Lib.hid h3
      have HF8 := Lib.hid h4
      have HG8 := Lib.hid h2
      clear h2 h3 h4
      go_wp2_with fail
      refine (HA.out _).mono ?_
      rintro e w9 ⟨rfl, b9⟩
      have hg9 := HG8.out.below b9 HG8.out.lt
      have c2 : w9.cell? ⟨g, 2, none⟩ = some (.int .i64 63) := by rw [← HFl.out]; exact hg9.c 2 _ rfl
      have HB9 := Lib.hid (HB8.out.trans (b9.mono HB8.out.size))
      have HF9 := Lib.hid (HF8.out.below b9)
      clear b9 hg9 HB8 HF8 HG8
      go_wp2_with fail
      refine (same_any (HF9.out (7, xa) (by simp))).mono ?_
      rintro e w' ⟨rfl, rfl⟩
      go_wp2_with fail
      refine (same_any (HF9.out (8, xb) (by simp))).mono ?_
      rintro e w' ⟨rfl, rfl⟩
      go_wp2_with fail
      refine (same_any (HF9.out (13, xc) (by simp))).mono ?_
      rintro e w' ⟨rfl, rfl⟩
      go_wp2_with fail
      refine (same_any (HF9.out (7, xn) (by simp))).mono ?_
      rintro e w' ⟨rfl, rfl⟩
      go_wp2_with fail
      go_ret
      exact ⟨rfl, HB9.out⟩)
    refine wp_region_noPanic ?_
    refine wp_region_held_drew (S := fun w' => Below w.heap.size w w' ∧ w.heap.size ≤ w'.heap.size ∧ Errs 0 w' [(13, xc), (8, xb), (7, xa)] ∧ Bk w' g 23 ([.int .i64 d0, .int .i64 d1, .int .i64 d2, .string d3] : List Value).toArray) (by kernel_rfl) (⟨HB7.out.drew, HB7.out.size, HF7.out, HG7.out⟩) (fun hHeld => ?_)
    refine wpAnyH_ready (rs := [0, 10]) (by kernel_rfl) (by simp) ?_
    refine AllReadyH.cons (o := { dst := some 39, op := Op.call { callee := Callee.value (Operand.func 10), args := #[], argTypes := #[] }, type := 9, pos := "law.go:64", after := #[], guard := none }) rfl (fun K hK => ?_) (AllReadyH.cons (o := { dst := some 9, op := Op.alloc 23, type := 0, pos := "law.go:64", after := #[], guard := none }) rfl (fun K hK => ?_) AllReadyH.nil)
    · go_simp
      ((with_reducible refine (HR.out _).mono ?_); rintro e wA ⟨rfl, hb9⟩)
      refine hK.out _ _ (⟨hHeld.1.trans (hb9.mono hHeld.2.1), Nat.le_trans hHeld.2.1 hb9.size, hHeld.2.2.1.below hb9, hHeld.2.2.2.below hb9 hHeld.2.2.2.lt⟩) (fun hHeld => ?_)
      clear hK K
      (try simp only [Act.put, List.setIfInBounds_toArray, List.set_cons_zero, List.set_cons_succ])
      refine wpAnyH_take (i := 1) (oi := { dst := some 40, op := Op.slice 9 (Operand.tmp 39) none (some (Operand.const (Value.int IntKind.i64 12))) none, type := 9, pos := "law.go:64", after := #[{ on := 0, ground := Ground.data }], guard := none }) (v := ?_) rfl (by kernel_rfl) (by kernel_rfl) (by kernel_rfl) (fun _ _ _ h => h) (Or.inl ⟨by rfl, ?_⟩) (by assumption) ?_
      rotate_left
      · (intro ww hSw; (try dsimp only at hSw); go_simp; try with_reducible rfl)
      (try simp only [Act.put, List.setIfInBounds_toArray, List.set_cons_zero, List.set_cons_succ])
      refine wpAnyH_take (i := 2) (oi := { dst := some 41, op := Op.binOp BinOp.add 9 (Operand.tmp 40) (Operand.const (Value.string { data := #[96] })) 9, type := 9, pos := "law.go:64", after := #[{ on := 1, ground := Ground.data }], guard := none }) (v := ?_) rfl (by kernel_rfl) (by kernel_rfl) (by kernel_rfl) (fun _ _ _ h => h) (Or.inl ⟨by rfl, ?_⟩) (by assumption) ?_
      rotate_left
      · (intro ww hSw; (try dsimp only at hSw); go_simp; try with_reducible rfl)
      (try simp only [Act.put, List.setIfInBounds_toArray, List.set_cons_zero, List.set_cons_succ])
      refine wpAnyH_ready (rs := [3, 10]) (by kernel_rfl) (by simp) ?_
      refine AllReadyH.cons (o := { dst := some 42, op := Op.call { callee := Callee.value (Operand.func 10), args := #[], argTypes := #[] }, type := 9, pos := "law.go:64", after := #[{ on := 0, ground := Ground.chain }], guard := none }) rfl (fun K hK => ?_) (AllReadyH.cons (o := { dst := some 9, op := Op.alloc 23, type := 0, pos := "law.go:64", after := #[], guard := none }) rfl (fun K hK => ?_) AllReadyH.nil)
      · go_simp
        ((with_reducible refine (HR.out _).mono ?_); rintro e wB ⟨rfl, hb9⟩)
        refine hK.out _ _ (⟨hHeld.1.trans (hb9.mono hHeld.2.1), Nat.le_trans hHeld.2.1 hb9.size, hHeld.2.2.1.below hb9, hHeld.2.2.2.below hb9 hHeld.2.2.2.lt⟩) (fun hHeld => ?_)
        clear hK K
        (try simp only [Act.put, List.setIfInBounds_toArray, List.set_cons_zero, List.set_cons_succ])
        refine wpAnyH_take (i := 4) (oi := { dst := some 43, op := Op.slice 9 (Operand.tmp 42) (some (Operand.const (Value.int IntKind.i64 13))) none none, type := 9, pos := "law.go:64", after := #[{ on := 3, ground := Ground.data }], guard := none }) (v := ?_) rfl (by kernel_rfl) (by kernel_rfl) (by kernel_rfl) (fun _ _ _ h => h) (Or.inl ⟨by rfl, ?_⟩) (by assumption) ?_
        rotate_left
        · (intro ww hSw; (try dsimp only at hSw); go_simp; try with_reducible rfl)
        (try simp only [Act.put, List.setIfInBounds_toArray, List.set_cons_zero, List.set_cons_succ])
        refine wpAnyH_take (i := 5) (oi := { dst := some 44, op := Op.binOp BinOp.add 9 (Operand.tmp 41) (Operand.tmp 43) 9, type := 9, pos := "law.go:64", after := #[{ on := 2, ground := Ground.data }, { on := 4, ground := Ground.data }], guard := none }) (v := ?_) rfl (by kernel_rfl) (by kernel_rfl) (by kernel_rfl) (fun _ _ _ h => h) (Or.inl ⟨by rfl, ?_⟩) (by assumption) ?_
        rotate_left
        · (intro ww hSw; (try dsimp only at hSw); go_simp; try with_reducible rfl)
        (try simp only [Act.put, List.setIfInBounds_toArray, List.set_cons_zero, List.set_cons_succ])
        refine wpAnyH_ready (rs := [6, 10]) (by kernel_rfl) (by simp) ?_
        refine AllReadyH.cons (o := { dst := some 45, op := Op.call { callee := Callee.value (Operand.func 9), args := #[Operand.tmp 44], argTypes := #[9] }, type := 26, pos := "law.go:64", after := #[{ on := 5, ground := Ground.data }, { on := 3, ground := Ground.chain }], guard := none }) rfl (fun K hK => ?_) (AllReadyH.cons (o := { dst := some 9, op := Op.alloc 23, type := 0, pos := "law.go:64", after := #[], guard := none }) rfl (fun K hK => ?_) AllReadyH.nil)
        · go_simp
          ((with_reducible refine (K5.out _).mono ?_); rintro e wC ⟨xn, rfl, hen, hb9⟩)
          refine hK.out _ _ (⟨hHeld.1.trans (hb9.mono hHeld.2.1), Nat.le_trans hHeld.2.1 hb9.size, hHeld.2.2.1.below hb9, hHeld.2.2.2.below hb9 hHeld.2.2.2.lt⟩) (fun hHeld => ?_)
          clear hK K
          (try simp only [Act.put, List.setIfInBounds_toArray, List.set_cons_zero, List.set_cons_succ])
          refine wpAnyH_take (i := 7) (oi := { dst := some 38, op := Op.move (Operand.tmp 45), type := 26, pos := "law.go:64", after := #[{ on := 6, ground := Ground.data }], guard := none }) (v := ?_) rfl (by kernel_rfl) (by kernel_rfl) (by kernel_rfl) (fun _ _ _ h => h) (Or.inl ⟨by rfl, ?_⟩) (by assumption) ?_
          rotate_left
          · (intro ww hSw; (try dsimp only at hSw); go_simp; try with_reducible rfl)
          (try simp only [Act.put, List.setIfInBounds_toArray, List.set_cons_zero, List.set_cons_succ])
          refine wpAnyH_take (i := 8) (oi := { dst := some 46, op := Op.extract (Operand.tmp 38) 0, type := 23, pos := "law.go:64", after := #[{ on := 7, ground := Ground.data }], guard := none }) (v := ?_) rfl (by kernel_rfl) (by kernel_rfl) (by kernel_rfl) (fun _ _ _ h => h) (Or.inl ⟨by rfl, ?_⟩) (by assumption) ?_
          rotate_left
          · (intro ww hSw; (try dsimp only at hSw); go_simp; try with_reducible rfl)
          (try simp only [Act.put, List.setIfInBounds_toArray, List.set_cons_zero, List.set_cons_succ])
          refine wpAnyH_take (i := 9) (oi := { dst := some 47, op := Op.extract (Operand.tmp 38) 1, type := 25, pos := "law.go:64", after := #[{ on := 7, ground := Ground.data }, { on := 11, ground := Ground.gcOnly Departure.lateStores }], guard := none }) (v := ?_) rfl (by kernel_rfl) (by kernel_rfl) (by kernel_rfl) (fun _ _ _ h => h) (Or.inl ⟨by rfl, ?_⟩) (by assumption) ?_
          rotate_left
          · (intro ww hSw; (try dsimp only at hSw); go_simp; try with_reducible rfl)
          (try simp only [Act.put, List.setIfInBounds_toArray, List.set_cons_zero, List.set_cons_succ])
          refine wpAnyH_ready (rs := [10]) (by kernel_rfl) (by simp) ?_
          refine AllReadyH.cons (o := { dst := some 9, op := Op.alloc 23, type := 0, pos := "law.go:64", after := #[], guard := none }) rfl (fun K hK => ?_) AllReadyH.nil
          have hnw := hHeld.2.1
          have hgn := hHeld.2.2.2.lt
          go_simp
          refine hK.out _ _ (⟨hHeld.1.alloc hHeld.2.1 _, (hHeld.1.alloc hHeld.2.1 _).size, hHeld.2.2.1.alloc _, hHeld.2.2.2.alloc _⟩) (fun hHeld => ?_)
          clear hK K
          (try simp only [Act.put, List.setIfInBounds_toArray, List.set_cons_zero, List.set_cons_succ])
          have hA := bk_new (wC) 23 sg0.vals.toArray
          have hen := hen.below ((Below.refl _ _).alloc (Nat.le_refl _) (.cells sg0.vals.toArray 23)) (Nat.le_refl _)
          refine wpAnyH_ready (rs := [11]) (by kernel_rfl) (by simp) ?_
          refine AllReadyH.cons (o := { dst := none, op := Op.store 23 (Operand.tmp 9) (Operand.tmp 46), type := 0, pos := "law.go:64", after := #[{ on := 10, ground := Ground.data }, { on := 8, ground := Ground.data }, { on := 6, ground := Ground.chain }, { on := 0, ground := Ground.phase }, { on := 1, ground := Ground.phase }, { on := 2, ground := Ground.phase }, { on := 3, ground := Ground.phase }, { on := 4, ground := Ground.phase }, { on := 5, ground := Ground.phase }, { on := 6, ground := Ground.phase }, { on := 7, ground := Ground.phase }, { on := 8, ground := Ground.phase }, { on := 9, ground := Ground.textOnly Departure.lateStores }, { on := 10, ground := Ground.phase }], guard := none }) rfl (fun K hK => ?_) AllReadyH.nil
          rw [if_pos (by rfl)]
          have hS := Bk.sets ([.int .i64 f0, .int .i64 f1, .int .i64 f2, .string f3] : List Value) 0 _ _ hA
          rw [puts_whole sg0.vals.toArray ([.int .i64 f0, .int .i64 f1, .int .i64 f2, .string f3] : List Value) rfl] at hS
          have hen := hen.sets hA (by decide) ([.int .i64 f0, .int .i64 f1, .int .i64 f2, .string f3] : List Value)
          refine wp_store_mid 23 _ _ rfl (wC).heap.size 0 ([.int .i64 f0, .int .i64 f1, .int .i64 f2, .string f3] : List Value).toArray rfl rfl (hA.there 4 (Nat.le_refl _)) HI.out HOf.out ?_
          refine hK.out _ _ (⟨below_sets ([.int .i64 f0, .int .i64 f1, .int .i64 f2, .string f3] : List Value) hnw 0 _ hHeld.1, by rw [size_sets]; exact hHeld.2.1, hHeld.2.2.1.sets hA (by decide) _, Bk.sets_other hHeld.2.2.2 (Nat.ne_of_lt hgn) 0 _⟩) (fun hHeld => ?_)
          clear hK K
          (try simp only [Act.put])
          refine wpAnyH_take (i := 12) (oi := { dst := some 10, op := Op.assign (Operand.tmp 47), type := 25, pos := "law.go:64", after := #[{ on := 9, ground := Ground.data }, { on := 11, ground := Ground.chain }, { on := 0, ground := Ground.phase }, { on := 1, ground := Ground.phase }, { on := 2, ground := Ground.phase }, { on := 3, ground := Ground.phase }, { on := 4, ground := Ground.phase }, { on := 5, ground := Ground.phase }, { on := 6, ground := Ground.phase }, { on := 7, ground := Ground.phase }, { on := 8, ground := Ground.phase }, { on := 9, ground := Ground.phase }, { on := 10, ground := Ground.phase }, { on := 11, ground := Ground.phase }], guard := none }) (v := ?_) rfl (by kernel_rfl) (by kernel_rfl) (by kernel_rfl) (fun _ _ _ h => h) (Or.inl ⟨by rfl, ?_⟩) (by assumption) ?_
          rotate_left
          · (intro ww hSw; (try dsimp only at hSw); go_simp; try with_reducible rfl)
          (try simp only [Act.put, List.setIfInBounds_toArray, List.set_cons_zero, List.set_cons_succ])
          refine wpAnyH_done (by kernel_rfl) ?_ _
          refine NoPanic.normal ?_
          exact key2.out _ _ _ hHeld.2.2.2 hHeld.1 (hHeld.2.2.1.cons (hen.le (Nat.zero_le _)))
        · have hnw := hHeld.2.1
          have hgn := hHeld.2.2.2.lt
          go_simp
          refine hK.out _ _ (⟨hHeld.1.alloc hHeld.2.1 _, (hHeld.1.alloc hHeld.2.1 _).size, hHeld.2.2.1.alloc _, hHeld.2.2.2.alloc _⟩) (fun hHeld => ?_)
          clear hK K
          (try simp only [Act.put, List.setIfInBounds_toArray, List.set_cons_zero, List.set_cons_succ])
          have hA := bk_new (wB) 23 sg0.vals.toArray
          refine wpAnyH_ready (rs := [6]) (by kernel_rfl) (by simp) ?_
          refine AllReadyH.cons (o := { dst := some 45, op := Op.call { callee := Callee.value (Operand.func 9), args := #[Operand.tmp 44], argTypes := #[9] }, type := 26, pos := "law.go:64", after := #[{ on := 5, ground := Ground.data }, { on := 3, ground := Ground.chain }], guard := none }) rfl (fun K hK => ?_) AllReadyH.nil
          go_simp
          ((with_reducible refine (K5.out _).mono ?_); rintro e wC ⟨xn, rfl, hen, hb9⟩)
          refine hK.out _ _ (⟨hHeld.1.trans (hb9.mono hHeld.2.1), Nat.le_trans hHeld.2.1 hb9.size, hHeld.2.2.1.below hb9, hHeld.2.2.2.below hb9 hHeld.2.2.2.lt⟩) (fun hHeld => ?_)
          clear hK K
          (try simp only [Act.put, List.setIfInBounds_toArray, List.set_cons_zero, List.set_cons_succ])
          have hA := hA.below hb9 hA.lt
          refine wpAnyH_take (i := 7) (oi := { dst := some 38, op := Op.move (Operand.tmp 45), type := 26, pos := "law.go:64", after := #[{ on := 6, ground := Ground.data }], guard := none }) (v := ?_) rfl (by kernel_rfl) (by kernel_rfl) (by kernel_rfl) (fun _ _ _ h => h) (Or.inl ⟨by rfl, ?_⟩) (by assumption) ?_
          rotate_left
          · (intro ww hSw; (try dsimp only at hSw); go_simp; try with_reducible rfl)
          (try simp only [Act.put, List.setIfInBounds_toArray, List.set_cons_zero, List.set_cons_succ])
          refine wpAnyH_take (i := 8) (oi := { dst := some 46, op := Op.extract (Operand.tmp 38) 0, type := 23, pos := "law.go:64", after := #[{ on := 7, ground := Ground.data }], guard := none }) (v := ?_) rfl (by kernel_rfl) (by kernel_rfl) (by kernel_rfl) (fun _ _ _ h => h) (Or.inl ⟨by rfl, ?_⟩) (by assumption) ?_
          rotate_left
          · (intro ww hSw; (try dsimp only at hSw); go_simp; try with_reducible rfl)
          (try simp only [Act.put, List.setIfInBounds_toArray, List.set_cons_zero, List.set_cons_succ])
          refine wpAnyH_take (i := 9) (oi := { dst := some 47, op := Op.extract (Operand.tmp 38) 1, type := 25, pos := "law.go:64", after := #[{ on := 7, ground := Ground.data }, { on := 11, ground := Ground.gcOnly Departure.lateStores }], guard := none }) (v := ?_) rfl (by kernel_rfl) (by kernel_rfl) (by kernel_rfl) (fun _ _ _ h => h) (Or.inl ⟨by rfl, ?_⟩) (by assumption) ?_
          rotate_left
          · (intro ww hSw; (try dsimp only at hSw); go_simp; try with_reducible rfl)
          (try simp only [Act.put, List.setIfInBounds_toArray, List.set_cons_zero, List.set_cons_succ])
          refine wpAnyH_ready (rs := [11]) (by kernel_rfl) (by simp) ?_
          refine AllReadyH.cons (o := { dst := none, op := Op.store 23 (Operand.tmp 9) (Operand.tmp 46), type := 0, pos := "law.go:64", after := #[{ on := 10, ground := Ground.data }, { on := 8, ground := Ground.data }, { on := 6, ground := Ground.chain }, { on := 0, ground := Ground.phase }, { on := 1, ground := Ground.phase }, { on := 2, ground := Ground.phase }, { on := 3, ground := Ground.phase }, { on := 4, ground := Ground.phase }, { on := 5, ground := Ground.phase }, { on := 6, ground := Ground.phase }, { on := 7, ground := Ground.phase }, { on := 8, ground := Ground.phase }, { on := 9, ground := Ground.textOnly Departure.lateStores }, { on := 10, ground := Ground.phase }], guard := none }) rfl (fun K hK => ?_) AllReadyH.nil
          rw [if_pos (by rfl)]
          have hS := Bk.sets ([.int .i64 f0, .int .i64 f1, .int .i64 f2, .string f3] : List Value) 0 _ _ hA
          rw [puts_whole sg0.vals.toArray ([.int .i64 f0, .int .i64 f1, .int .i64 f2, .string f3] : List Value) rfl] at hS
          have hen := hen.sets hA (by decide) ([.int .i64 f0, .int .i64 f1, .int .i64 f2, .string f3] : List Value)
          refine wp_store_mid 23 _ _ rfl (wB).heap.size 0 ([.int .i64 f0, .int .i64 f1, .int .i64 f2, .string f3] : List Value).toArray rfl rfl (hA.there 4 (Nat.le_refl _)) HI.out HOf.out ?_
          refine hK.out _ _ (⟨below_sets ([.int .i64 f0, .int .i64 f1, .int .i64 f2, .string f3] : List Value) hnw 0 _ hHeld.1, by rw [size_sets]; exact hHeld.2.1, hHeld.2.2.1.sets hA (by decide) _, Bk.sets_other hHeld.2.2.2 (Nat.ne_of_lt hgn) 0 _⟩) (fun hHeld => ?_)
          clear hK K
          (try simp only [Act.put])
          refine wpAnyH_take (i := 12) (oi := { dst := some 10, op := Op.assign (Operand.tmp 47), type := 25, pos := "law.go:64", after := #[{ on := 9, ground := Ground.data }, { on := 11, ground := Ground.chain }, { on := 0, ground := Ground.phase }, { on := 1, ground := Ground.phase }, { on := 2, ground := Ground.phase }, { on := 3, ground := Ground.phase }, { on := 4, ground := Ground.phase }, { on := 5, ground := Ground.phase }, { on := 6, ground := Ground.phase }, { on := 7, ground := Ground.phase }, { on := 8, ground := Ground.phase }, { on := 9, ground := Ground.phase }, { on := 10, ground := Ground.phase }, { on := 11, ground := Ground.phase }], guard := none }) (v := ?_) rfl (by kernel_rfl) (by kernel_rfl) (by kernel_rfl) (fun _ _ _ h => h) (Or.inl ⟨by rfl, ?_⟩) (by assumption) ?_
          rotate_left
          · (intro ww hSw; (try dsimp only at hSw); go_simp; try with_reducible rfl)
          (try simp only [Act.put, List.setIfInBounds_toArray, List.set_cons_zero, List.set_cons_succ])
          refine wpAnyH_done (by kernel_rfl) ?_ _
          refine NoPanic.normal ?_
          exact key2.out _ _ _ hHeld.2.2.2 hHeld.1 (hHeld.2.2.1.cons (hen.le (Nat.zero_le _)))
      · have hnw := hHeld.2.1
        have hgn := hHeld.2.2.2.lt
        go_simp
        refine hK.out _ _ (⟨hHeld.1.alloc hHeld.2.1 _, (hHeld.1.alloc hHeld.2.1 _).size, hHeld.2.2.1.alloc _, hHeld.2.2.2.alloc _⟩) (fun hHeld => ?_)
        clear hK K
        (try simp only [Act.put, List.setIfInBounds_toArray, List.set_cons_zero, List.set_cons_succ])
        have hA := bk_new (wA) 23 sg0.vals.toArray
        refine wpAnyH_ready (rs := [3]) (by kernel_rfl) (by simp) ?_
        refine AllReadyH.cons (o := { dst := some 42, op := Op.call { callee := Callee.value (Operand.func 10), args := #[], argTypes := #[] }, type := 9, pos := "law.go:64", after := #[{ on := 0, ground := Ground.chain }], guard := none }) rfl (fun K hK => ?_) AllReadyH.nil
        go_simp
        ((with_reducible refine (HR.out _).mono ?_); rintro e wB ⟨rfl, hb9⟩)
        refine hK.out _ _ (⟨hHeld.1.trans (hb9.mono hHeld.2.1), Nat.le_trans hHeld.2.1 hb9.size, hHeld.2.2.1.below hb9, hHeld.2.2.2.below hb9 hHeld.2.2.2.lt⟩) (fun hHeld => ?_)
        clear hK K
        (try simp only [Act.put, List.setIfInBounds_toArray, List.set_cons_zero, List.set_cons_succ])
        have hA := hA.below hb9 hA.lt
        refine wpAnyH_take (i := 4) (oi := { dst := some 43, op := Op.slice 9 (Operand.tmp 42) (some (Operand.const (Value.int IntKind.i64 13))) none none, type := 9, pos := "law.go:64", after := #[{ on := 3, ground := Ground.data }], guard := none }) (v := ?_) rfl (by kernel_rfl) (by kernel_rfl) (by kernel_rfl) (fun _ _ _ h => h) (Or.inl ⟨by rfl, ?_⟩) (by assumption) ?_
        rotate_left
        · (intro ww hSw; (try dsimp only at hSw); go_simp; try with_reducible rfl)
        (try simp only [Act.put, List.setIfInBounds_toArray, List.set_cons_zero, List.set_cons_succ])
        refine wpAnyH_take (i := 5) (oi := { dst := some 44, op := Op.binOp BinOp.add 9 (Operand.tmp 41) (Operand.tmp 43) 9, type := 9, pos := "law.go:64", after := #[{ on := 2, ground := Ground.data }, { on := 4, ground := Ground.data }], guard := none }) (v := ?_) rfl (by kernel_rfl) (by kernel_rfl) (by kernel_rfl) (fun _ _ _ h => h) (Or.inl ⟨by rfl, ?_⟩) (by assumption) ?_
        rotate_left
        · (intro ww hSw; (try dsimp only at hSw); go_simp; try with_reducible rfl)
        (try simp only [Act.put, List.setIfInBounds_toArray, List.set_cons_zero, List.set_cons_succ])
        refine wpAnyH_ready (rs := [6]) (by kernel_rfl) (by simp) ?_
        refine AllReadyH.cons (o := { dst := some 45, op := Op.call { callee := Callee.value (Operand.func 9), args := #[Operand.tmp 44], argTypes := #[9] }, type := 26, pos := "law.go:64", after := #[{ on := 5, ground := Ground.data }, { on := 3, ground := Ground.chain }], guard := none }) rfl (fun K hK => ?_) AllReadyH.nil
        go_simp
        ((with_reducible refine (K5.out _).mono ?_); rintro e wC ⟨xn, rfl, hen, hb9⟩)
        refine hK.out _ _ (⟨hHeld.1.trans (hb9.mono hHeld.2.1), Nat.le_trans hHeld.2.1 hb9.size, hHeld.2.2.1.below hb9, hHeld.2.2.2.below hb9 hHeld.2.2.2.lt⟩) (fun hHeld => ?_)
        clear hK K
        (try simp only [Act.put, List.setIfInBounds_toArray, List.set_cons_zero, List.set_cons_succ])
        have hA := hA.below hb9 hA.lt
        refine wpAnyH_take (i := 7) (oi := { dst := some 38, op := Op.move (Operand.tmp 45), type := 26, pos := "law.go:64", after := #[{ on := 6, ground := Ground.data }], guard := none }) (v := ?_) rfl (by kernel_rfl) (by kernel_rfl) (by kernel_rfl) (fun _ _ _ h => h) (Or.inl ⟨by rfl, ?_⟩) (by assumption) ?_
        rotate_left
        · (intro ww hSw; (try dsimp only at hSw); go_simp; try with_reducible rfl)
        (try simp only [Act.put, List.setIfInBounds_toArray, List.set_cons_zero, List.set_cons_succ])
        refine wpAnyH_take (i := 8) (oi := { dst := some 46, op := Op.extract (Operand.tmp 38) 0, type := 23, pos := "law.go:64", after := #[{ on := 7, ground := Ground.data }], guard := none }) (v := ?_) rfl (by kernel_rfl) (by kernel_rfl) (by kernel_rfl) (fun _ _ _ h => h) (Or.inl ⟨by rfl, ?_⟩) (by assumption) ?_
        rotate_left
        · (intro ww hSw; (try dsimp only at hSw); go_simp; try with_reducible rfl)
        (try simp only [Act.put, List.setIfInBounds_toArray, List.set_cons_zero, List.set_cons_succ])
        refine wpAnyH_take (i := 9) (oi := { dst := some 47, op := Op.extract (Operand.tmp 38) 1, type := 25, pos := "law.go:64", after := #[{ on := 7, ground := Ground.data }, { on := 11, ground := Ground.gcOnly Departure.lateStores }], guard := none }) (v := ?_) rfl (by kernel_rfl) (by kernel_rfl) (by kernel_rfl) (fun _ _ _ h => h) (Or.inl ⟨by rfl, ?_⟩) (by assumption) ?_
        rotate_left
        · (intro ww hSw; (try dsimp only at hSw); go_simp; try with_reducible rfl)
        (try simp only [Act.put, List.setIfInBounds_toArray, List.set_cons_zero, List.set_cons_succ])
        refine wpAnyH_ready (rs := [11]) (by kernel_rfl) (by simp) ?_
        refine AllReadyH.cons (o := { dst := none, op := Op.store 23 (Operand.tmp 9) (Operand.tmp 46), type := 0, pos := "law.go:64", after := #[{ on := 10, ground := Ground.data }, { on := 8, ground := Ground.data }, { on := 6, ground := Ground.chain }, { on := 0, ground := Ground.phase }, { on := 1, ground := Ground.phase }, { on := 2, ground := Ground.phase }, { on := 3, ground := Ground.phase }, { on := 4, ground := Ground.phase }, { on := 5, ground := Ground.phase }, { on := 6, ground := Ground.phase }, { on := 7, ground := Ground.phase }, { on := 8, ground := Ground.phase }, { on := 9, ground := Ground.textOnly Departure.lateStores }, { on := 10, ground := Ground.phase }], guard := none }) rfl (fun K hK => ?_) AllReadyH.nil
        rw [if_pos (by rfl)]
        have hS := Bk.sets ([.int .i64 f0, .int .i64 f1, .int .i64 f2, .string f3] : List Value) 0 _ _ hA
        rw [puts_whole sg0.vals.toArray ([.int .i64 f0, .int .i64 f1, .int .i64 f2, .string f3] : List Value) rfl] at hS
        have hen := hen.sets hA (by decide) ([.int .i64 f0, .int .i64 f1, .int .i64 f2, .string f3] : List Value)
        refine wp_store_mid 23 _ _ rfl (wA).heap.size 0 ([.int .i64 f0, .int .i64 f1, .int .i64 f2, .string f3] : List Value).toArray rfl rfl (hA.there 4 (Nat.le_refl _)) HI.out HOf.out ?_
        refine hK.out _ _ (⟨below_sets ([.int .i64 f0, .int .i64 f1, .int .i64 f2, .string f3] : List Value) hnw 0 _ hHeld.1, by rw [size_sets]; exact hHeld.2.1, hHeld.2.2.1.sets hA (by decide) _, Bk.sets_other hHeld.2.2.2 (Nat.ne_of_lt hgn) 0 _⟩) (fun hHeld => ?_)
        clear hK K
        (try simp only [Act.put])
        refine wpAnyH_take (i := 12) (oi := { dst := some 10, op := Op.assign (Operand.tmp 47), type := 25, pos := "law.go:64", after := #[{ on := 9, ground := Ground.data }, { on := 11, ground := Ground.chain }, { on := 0, ground := Ground.phase }, { on := 1, ground := Ground.phase }, { on := 2, ground := Ground.phase }, { on := 3, ground := Ground.phase }, { on := 4, ground := Ground.phase }, { on := 5, ground := Ground.phase }, { on := 6, ground := Ground.phase }, { on := 7, ground := Ground.phase }, { on := 8, ground := Ground.phase }, { on := 9, ground := Ground.phase }, { on := 10, ground := Ground.phase }, { on := 11, ground := Ground.phase }], guard := none }) (v := ?_) rfl (by kernel_rfl) (by kernel_rfl) (by kernel_rfl) (fun _ _ _ h => h) (Or.inl ⟨by rfl, ?_⟩) (by assumption) ?_
        rotate_left
        · (intro ww hSw; (try dsimp only at hSw); go_simp; try with_reducible rfl)
        (try simp only [Act.put, List.setIfInBounds_toArray, List.set_cons_zero, List.set_cons_succ])
        refine wpAnyH_done (by kernel_rfl) ?_ _
        refine NoPanic.normal ?_
        exact key2.out _ _ _ hHeld.2.2.2 hHeld.1 (hHeld.2.2.1.cons (hen.le (Nat.zero_le _)))
    · have hnw := hHeld.2.1
      have hgn := hHeld.2.2.2.lt
      go_simp
      refine hK.out _ _ (⟨hHeld.1.alloc hHeld.2.1 _, (hHeld.1.alloc hHeld.2.1 _).size, hHeld.2.2.1.alloc _, hHeld.2.2.2.alloc _⟩) (fun hHeld => ?_)
      clear hK K
      (try simp only [Act.put, List.setIfInBounds_toArray, List.set_cons_zero, List.set_cons_succ])
      have hA := bk_new (w7.drew) 23 sg0.vals.toArray
      refine wpAnyH_ready (rs := [0]) (by kernel_rfl) (by simp) ?_
      refine AllReadyH.cons (o := { dst := some 39, op := Op.call { callee := Callee.value (Operand.func 10), args := #[], argTypes := #[] }, type := 9, pos := "law.go:64", after := #[], guard := none }) rfl (fun K hK => ?_) AllReadyH.nil
      go_simp
      ((with_reducible refine (HR.out _).mono ?_); rintro e wA ⟨rfl, hb9⟩)
      refine hK.out _ _ (⟨hHeld.1.trans (hb9.mono hHeld.2.1), Nat.le_trans hHeld.2.1 hb9.size, hHeld.2.2.1.below hb9, hHeld.2.2.2.below hb9 hHeld.2.2.2.lt⟩) (fun hHeld => ?_)
      clear hK K
      (try simp only [Act.put, List.setIfInBounds_toArray, List.set_cons_zero, List.set_cons_succ])
      have hA := hA.below hb9 hA.lt
      refine wpAnyH_take (i := 1) (oi := { dst := some 40, op := Op.slice 9 (Operand.tmp 39) none (some (Operand.const (Value.int IntKind.i64 12))) none, type := 9, pos := "law.go:64", after := #[{ on := 0, ground := Ground.data }], guard := none }) (v := ?_) rfl (by kernel_rfl) (by kernel_rfl) (by kernel_rfl) (fun _ _ _ h => h) (Or.inl ⟨by rfl, ?_⟩) (by assumption) ?_
      rotate_left
      · (intro ww hSw; (try dsimp only at hSw); go_simp; try with_reducible rfl)
      (try simp only [Act.put, List.setIfInBounds_toArray, List.set_cons_zero, List.set_cons_succ])
      refine wpAnyH_take (i := 2) (oi := { dst := some 41, op := Op.binOp BinOp.add 9 (Operand.tmp 40) (Operand.const (Value.string { data := #[96] })) 9, type := 9, pos := "law.go:64", after := #[{ on := 1, ground := Ground.data }], guard := none }) (v := ?_) rfl (by kernel_rfl) (by kernel_rfl) (by kernel_rfl) (fun _ _ _ h => h) (Or.inl ⟨by rfl, ?_⟩) (by assumption) ?_
      rotate_left
      · (intro ww hSw; (try dsimp only at hSw); go_simp; try with_reducible rfl)
      (try simp only [Act.put, List.setIfInBounds_toArray, List.set_cons_zero, List.set_cons_succ])
      refine wpAnyH_ready (rs := [3]) (by kernel_rfl) (by simp) ?_
      refine AllReadyH.cons (o := { dst := some 42, op := Op.call { callee := Callee.value (Operand.func 10), args := #[], argTypes := #[] }, type := 9, pos := "law.go:64", after := #[{ on := 0, ground := Ground.chain }], guard := none }) rfl (fun K hK => ?_) AllReadyH.nil
      go_simp
      ((with_reducible refine (HR.out _).mono ?_); rintro e wB ⟨rfl, hb9⟩)
      refine hK.out _ _ (⟨hHeld.1.trans (hb9.mono hHeld.2.1), Nat.le_trans hHeld.2.1 hb9.size, hHeld.2.2.1.below hb9, hHeld.2.2.2.below hb9 hHeld.2.2.2.lt⟩) (fun hHeld => ?_)
      clear hK K
      (try simp only [Act.put, List.setIfInBounds_toArray, List.set_cons_zero, List.set_cons_succ])
      have hA := hA.below hb9 hA.lt
      refine wpAnyH_take (i := 4) (oi := { dst := some 43, op := Op.slice 9 (Operand.tmp 42) (some (Operand.const (Value.int IntKind.i64 13))) none none, type := 9, pos := "law.go:64", after := #[{ on := 3, ground := Ground.data }], guard := none }) (v := ?_) rfl (by kernel_rfl) (by kernel_rfl) (by kernel_rfl) (fun _ _ _ h => h) (Or.inl ⟨by rfl, ?_⟩) (by assumption) ?_
      rotate_left
      · (intro ww hSw; (try dsimp only at hSw); go_simp; try with_reducible rfl)
      (try simp only [Act.put, List.setIfInBounds_toArray, List.set_cons_zero, List.set_cons_succ])
      refine wpAnyH_take (i := 5) (oi := { dst := some 44, op := Op.binOp BinOp.add 9 (Operand.tmp 41) (Operand.tmp 43) 9, type := 9, pos := "law.go:64", after := #[{ on := 2, ground := Ground.data }, { on := 4, ground := Ground.data }], guard := none }) (v := ?_) rfl (by kernel_rfl) (by kernel_rfl) (by kernel_rfl) (fun _ _ _ h => h) (Or.inl ⟨by rfl, ?_⟩) (by assumption) ?_
      rotate_left
      · (intro ww hSw; (try dsimp only at hSw); go_simp; try with_reducible rfl)
      (try simp only [Act.put, List.setIfInBounds_toArray, List.set_cons_zero, List.set_cons_succ])
      refine wpAnyH_ready (rs := [6]) (by kernel_rfl) (by simp) ?_
      refine AllReadyH.cons (o := { dst := some 45, op := Op.call { callee := Callee.value (Operand.func 9), args := #[Operand.tmp 44], argTypes := #[9] }, type := 26, pos := "law.go:64", after := #[{ on := 5, ground := Ground.data }, { on := 3, ground := Ground.chain }], guard := none }) rfl (fun K hK => ?_) AllReadyH.nil
      go_simp
      ((with_reducible refine (K5.out _).mono ?_); rintro e wC ⟨xn, rfl, hen, hb9⟩)
      refine hK.out _ _ (⟨hHeld.1.trans (hb9.mono hHeld.2.1), Nat.le_trans hHeld.2.1 hb9.size, hHeld.2.2.1.below hb9, hHeld.2.2.2.below hb9 hHeld.2.2.2.lt⟩) (fun hHeld => ?_)
      clear hK K
      (try simp only [Act.put, List.setIfInBounds_toArray, List.set_cons_zero, List.set_cons_succ])
      have hA := hA.below hb9 hA.lt
      refine wpAnyH_take (i := 7) (oi := { dst := some 38, op := Op.move (Operand.tmp 45), type := 26, pos := "law.go:64", after := #[{ on := 6, ground := Ground.data }], guard := none }) (v := ?_) rfl (by kernel_rfl) (by kernel_rfl) (by kernel_rfl) (fun _ _ _ h => h) (Or.inl ⟨by rfl, ?_⟩) (by assumption) ?_
      rotate_left
      · (intro ww hSw; (try dsimp only at hSw); go_simp; try with_reducible rfl)
      (try simp only [Act.put, List.setIfInBounds_toArray, List.set_cons_zero, List.set_cons_succ])
      refine wpAnyH_take (i := 8) (oi := { dst := some 46, op := Op.extract (Operand.tmp 38) 0, type := 23, pos := "law.go:64", after := #[{ on := 7, ground := Ground.data }], guard := none }) (v := ?_) rfl (by kernel_rfl) (by kernel_rfl) (by kernel_rfl) (fun _ _ _ h => h) (Or.inl ⟨by rfl, ?_⟩) (by assumption) ?_
      rotate_left
      · (intro ww hSw; (try dsimp only at hSw); go_simp; try with_reducible rfl)
      (try simp only [Act.put, List.setIfInBounds_toArray, List.set_cons_zero, List.set_cons_succ])
      refine wpAnyH_take (i := 9) (oi := { dst := some 47, op := Op.extract (Operand.tmp 38) 1, type := 25, pos := "law.go:64", after := #[{ on := 7, ground := Ground.data }, { on := 11, ground := Ground.gcOnly Departure.lateStores }], guard := none }) (v := ?_) rfl (by kernel_rfl) (by kernel_rfl) (by kernel_rfl) (fun _ _ _ h => h) (Or.inl ⟨by rfl, ?_⟩) (by assumption) ?_
      rotate_left
      · (intro ww hSw; (try dsimp only at hSw); go_simp; try with_reducible rfl)
      (try simp only [Act.put, List.setIfInBounds_toArray, List.set_cons_zero, List.set_cons_succ])
      refine wpAnyH_ready (rs := [11]) (by kernel_rfl) (by simp) ?_
      refine AllReadyH.cons (o := { dst := none, op := Op.store 23 (Operand.tmp 9) (Operand.tmp 46), type := 0, pos := "law.go:64", after := #[{ on := 10, ground := Ground.data }, { on := 8, ground := Ground.data }, { on := 6, ground := Ground.chain }, { on := 0, ground := Ground.phase }, { on := 1, ground := Ground.phase }, { on := 2, ground := Ground.phase }, { on := 3, ground := Ground.phase }, { on := 4, ground := Ground.phase }, { on := 5, ground := Ground.phase }, { on := 6, ground := Ground.phase }, { on := 7, ground := Ground.phase }, { on := 8, ground := Ground.phase }, { on := 9, ground := Ground.textOnly Departure.lateStores }, { on := 10, ground := Ground.phase }], guard := none }) rfl (fun K hK => ?_) AllReadyH.nil
      rw [if_pos (by rfl)]
      have hS := Bk.sets ([.int .i64 f0, .int .i64 f1, .int .i64 f2, .string f3] : List Value) 0 _ _ hA
      rw [puts_whole sg0.vals.toArray ([.int .i64 f0, .int .i64 f1, .int .i64 f2, .string f3] : List Value) rfl] at hS
      have hen := hen.sets hA (by decide) ([.int .i64 f0, .int .i64 f1, .int .i64 f2, .string f3] : List Value)
      refine wp_store_mid 23 _ _ rfl (w7.drew).heap.size 0 ([.int .i64 f0, .int .i64 f1, .int .i64 f2, .string f3] : List Value).toArray rfl rfl (hA.there 4 (Nat.le_refl _)) HI.out HOf.out ?_
      refine hK.out _ _ (⟨below_sets ([.int .i64 f0, .int .i64 f1, .int .i64 f2, .string f3] : List Value) hnw 0 _ hHeld.1, by rw [size_sets]; exact hHeld.2.1, hHeld.2.2.1.sets hA (by decide) _, Bk.sets_other hHeld.2.2.2 (Nat.ne_of_lt hgn) 0 _⟩) (fun hHeld => ?_)
      clear hK K
      (try simp only [Act.put])
      refine wpAnyH_take (i := 12) (oi := { dst := some 10, op := Op.assign (Operand.tmp 47), type := 25, pos := "law.go:64", after := #[{ on := 9, ground := Ground.data }, { on := 11, ground := Ground.chain }, { on := 0, ground := Ground.phase }, { on := 1, ground := Ground.phase }, { on := 2, ground := Ground.phase }, { on := 3, ground := Ground.phase }, { on := 4, ground := Ground.phase }, { on := 5, ground := Ground.phase }, { on := 6, ground := Ground.phase }, { on := 7, ground := Ground.phase }, { on := 8, ground := Ground.phase }, { on := 9, ground := Ground.phase }, { on := 10, ground := Ground.phase }, { on := 11, ground := Ground.phase }], guard := none }) (v := ?_) rfl (by kernel_rfl) (by kernel_rfl) (by kernel_rfl) (fun _ _ _ h => h) (Or.inl ⟨by rfl, ?_⟩) (by assumption) ?_
      rotate_left
      · (intro ww hSw; (try dsimp only at hSw); go_simp; try with_reducible rfl)
      (try simp only [Act.put, List.setIfInBounds_toArray, List.set_cons_zero, List.set_cons_succ])
      refine wpAnyH_done (by kernel_rfl) ?_ _
      refine NoPanic.normal ?_
      exact key2.out _ _ _ hHeld.2.2.2 hHeld.1 (hHeld.2.2.1.cons (hen.le (Nat.zero_le _)))
  )
  refine wp_region_noPanic ?_
  refine wp_region_held_drew (S := fun w' => Below w.heap.size w w' ∧ w.heap.size ≤ w'.heap.size ∧ Errs 0 w' [(13, xc), (8, xb), (7, xa)]) (by kernel_rfl) (⟨HB6.out.drew, HB6.out.size, HF6.out⟩) (fun hHeld => ?_)
  refine wpAnyH_ready (rs := [0, 10]) (by kernel_rfl) (by simp) ?_
  refine AllReadyH.cons (o := { dst := some 29, op := Op.call { callee := Callee.value (Operand.func 10), args := #[], argTypes := #[] }, type := 9, pos := "law.go:63", after := #[], guard := none }) rfl (fun K hK => ?_) (AllReadyH.cons (o := { dst := some 7, op := Op.alloc 23, type := 0, pos := "law.go:63", after := #[], guard := none }) rfl (fun K hK => ?_) AllReadyH.nil)
  · go_simp
    ((with_reducible refine (HR.out _).mono ?_); rintro e wA ⟨rfl, hb9⟩)
    refine hK.out _ _ (⟨hHeld.1.trans (hb9.mono hHeld.2.1), Nat.le_trans hHeld.2.1 hb9.size, hHeld.2.2.below hb9⟩) (fun hHeld => ?_)
    clear hK K
    (try simp only [Act.put, List.setIfInBounds_toArray, List.set_cons_zero, List.set_cons_succ])
    refine wpAnyH_take (i := 1) (oi := { dst := some 30, op := Op.slice 9 (Operand.tmp 29) none (some (Operand.const (Value.int IntKind.i64 13))) none, type := 9, pos := "law.go:63", after := #[{ on := 0, ground := Ground.data }], guard := none }) (v := ?_) rfl (by kernel_rfl) (by kernel_rfl) (by kernel_rfl) (fun _ _ _ h => h) (Or.inl ⟨by rfl, ?_⟩) (by assumption) ?_
    rotate_left
    · (intro ww hSw; (try dsimp only at hSw); go_simp; try with_reducible rfl)
    (try simp only [Act.put, List.setIfInBounds_toArray, List.set_cons_zero, List.set_cons_succ])
    refine wpAnyH_take (i := 2) (oi := { dst := some 31, op := Op.binOp BinOp.add 9 (Operand.tmp 30) (Operand.const (Value.string { data := #[255] })) 9, type := 9, pos := "law.go:63", after := #[{ on := 1, ground := Ground.data }], guard := none }) (v := ?_) rfl (by kernel_rfl) (by kernel_rfl) (by kernel_rfl) (fun _ _ _ h => h) (Or.inl ⟨by rfl, ?_⟩) (by assumption) ?_
    rotate_left
    · (intro ww hSw; (try dsimp only at hSw); go_simp; try with_reducible rfl)
    (try simp only [Act.put, List.setIfInBounds_toArray, List.set_cons_zero, List.set_cons_succ])
    refine wpAnyH_ready (rs := [3, 10]) (by kernel_rfl) (by simp) ?_
    refine AllReadyH.cons (o := { dst := some 32, op := Op.call { callee := Callee.value (Operand.func 10), args := #[], argTypes := #[] }, type := 9, pos := "law.go:63", after := #[{ on := 0, ground := Ground.chain }], guard := none }) rfl (fun K hK => ?_) (AllReadyH.cons (o := { dst := some 7, op := Op.alloc 23, type := 0, pos := "law.go:63", after := #[], guard := none }) rfl (fun K hK => ?_) AllReadyH.nil)
    · go_simp
      ((with_reducible refine (HR.out _).mono ?_); rintro e wB ⟨rfl, hb9⟩)
      refine hK.out _ _ (⟨hHeld.1.trans (hb9.mono hHeld.2.1), Nat.le_trans hHeld.2.1 hb9.size, hHeld.2.2.below hb9⟩) (fun hHeld => ?_)
      clear hK K
      (try simp only [Act.put, List.setIfInBounds_toArray, List.set_cons_zero, List.set_cons_succ])
      refine wpAnyH_take (i := 4) (oi := { dst := some 33, op := Op.slice 9 (Operand.tmp 32) (some (Operand.const (Value.int IntKind.i64 14))) none none, type := 9, pos := "law.go:63", after := #[{ on := 3, ground := Ground.data }], guard := none }) (v := ?_) rfl (by kernel_rfl) (by kernel_rfl) (by kernel_rfl) (fun _ _ _ h => h) (Or.inl ⟨by rfl, ?_⟩) (by assumption) ?_
      rotate_left
      · (intro ww hSw; (try dsimp only at hSw); go_simp; try with_reducible rfl)
      (try simp only [Act.put, List.setIfInBounds_toArray, List.set_cons_zero, List.set_cons_succ])
      refine wpAnyH_take (i := 5) (oi := { dst := some 34, op := Op.binOp BinOp.add 9 (Operand.tmp 31) (Operand.tmp 33) 9, type := 9, pos := "law.go:63", after := #[{ on := 2, ground := Ground.data }, { on := 4, ground := Ground.data }], guard := none }) (v := ?_) rfl (by kernel_rfl) (by kernel_rfl) (by kernel_rfl) (fun _ _ _ h => h) (Or.inl ⟨by rfl, ?_⟩) (by assumption) ?_
      rotate_left
      · (intro ww hSw; (try dsimp only at hSw); go_simp; try with_reducible rfl)
      (try simp only [Act.put, List.setIfInBounds_toArray, List.set_cons_zero, List.set_cons_succ])
      refine wpAnyH_ready (rs := [6, 10]) (by kernel_rfl) (by simp) ?_
      refine AllReadyH.cons (o := { dst := some 35, op := Op.call { callee := Callee.value (Operand.func 9), args := #[Operand.tmp 34], argTypes := #[9] }, type := 26, pos := "law.go:63", after := #[{ on := 5, ground := Ground.data }, { on := 3, ground := Ground.chain }], guard := none }) rfl (fun K hK => ?_) (AllReadyH.cons (o := { dst := some 7, op := Op.alloc 23, type := 0, pos := "law.go:63", after := #[], guard := none }) rfl (fun K hK => ?_) AllReadyH.nil)
      · go_simp
        ((with_reducible refine (K4.out _).mono ?_); rintro e wC ⟨xn, rfl, hen, hb9⟩)
        refine hK.out _ _ (⟨hHeld.1.trans (hb9.mono hHeld.2.1), Nat.le_trans hHeld.2.1 hb9.size, hHeld.2.2.below hb9⟩) (fun hHeld => ?_)
        clear hK K
        (try simp only [Act.put, List.setIfInBounds_toArray, List.set_cons_zero, List.set_cons_succ])
        obtain rfl := hen.nil
        refine wpAnyH_take (i := 7) (oi := { dst := some 28, op := Op.move (Operand.tmp 35), type := 26, pos := "law.go:63", after := #[{ on := 6, ground := Ground.data }], guard := none }) (v := ?_) rfl (by kernel_rfl) (by kernel_rfl) (by kernel_rfl) (fun _ _ _ h => h) (Or.inl ⟨by rfl, ?_⟩) (by assumption) ?_
        rotate_left
        · (intro ww hSw; (try dsimp only at hSw); go_simp; try with_reducible rfl)
        (try simp only [Act.put, List.setIfInBounds_toArray, List.set_cons_zero, List.set_cons_succ])
        refine wpAnyH_take (i := 8) (oi := { dst := some 36, op := Op.extract (Operand.tmp 28) 0, type := 23, pos := "law.go:63", after := #[{ on := 7, ground := Ground.data }], guard := none }) (v := ?_) rfl (by kernel_rfl) (by kernel_rfl) (by kernel_rfl) (fun _ _ _ h => h) (Or.inl ⟨by rfl, ?_⟩) (by assumption) ?_
        rotate_left
        · (intro ww hSw; (try dsimp only at hSw); go_simp; try with_reducible rfl)
        (try simp only [Act.put, List.setIfInBounds_toArray, List.set_cons_zero, List.set_cons_succ])
        refine wpAnyH_take (i := 9) (oi := { dst := some 37, op := Op.extract (Operand.tmp 28) 1, type := 25, pos := "law.go:63", after := #[{ on := 7, ground := Ground.data }, { on := 11, ground := Ground.gcOnly Departure.lateStores }], guard := none }) (v := ?_) rfl (by kernel_rfl) (by kernel_rfl) (by kernel_rfl) (fun _ _ _ h => h) (Or.inl ⟨by rfl, ?_⟩) (by assumption) ?_
        rotate_left
        · (intro ww hSw; (try dsimp only at hSw); go_simp; try with_reducible rfl)
        (try simp only [Act.put, List.setIfInBounds_toArray, List.set_cons_zero, List.set_cons_succ])
        refine wpAnyH_ready (rs := [10]) (by kernel_rfl) (by simp) ?_
        refine AllReadyH.cons (o := { dst := some 7, op := Op.alloc 23, type := 0, pos := "law.go:63", after := #[], guard := none }) rfl (fun K hK => ?_) AllReadyH.nil
        have hnw := hHeld.2.1
        go_simp
        refine hK.out _ _ (⟨hHeld.1.alloc hHeld.2.1 _, (hHeld.1.alloc hHeld.2.1 _).size, hHeld.2.2.alloc _⟩) (fun hHeld => ?_)
        clear hK K
        (try simp only [Act.put, List.setIfInBounds_toArray, List.set_cons_zero, List.set_cons_succ])
        have hA := bk_new (wC) 23 sg0.vals.toArray
        refine wpAnyH_ready (rs := [11]) (by kernel_rfl) (by simp) ?_
        refine AllReadyH.cons (o := { dst := none, op := Op.store 23 (Operand.tmp 7) (Operand.tmp 36), type := 0, pos := "law.go:63", after := #[{ on := 10, ground := Ground.data }, { on := 8, ground := Ground.data }, { on := 6, ground := Ground.chain }, { on := 0, ground := Ground.phase }, { on := 1, ground := Ground.phase }, { on := 2, ground := Ground.phase }, { on := 3, ground := Ground.phase }, { on := 4, ground := Ground.phase }, { on := 5, ground := Ground.phase }, { on := 6, ground := Ground.phase }, { on := 7, ground := Ground.phase }, { on := 8, ground := Ground.phase }, { on := 9, ground := Ground.textOnly Departure.lateStores }, { on := 10, ground := Ground.phase }], guard := none }) rfl (fun K hK => ?_) AllReadyH.nil
        rw [if_pos (by rfl)]
        have hS := Bk.sets ([.int .i64 d0, .int .i64 d1, .int .i64 d2, .string d3] : List Value) 0 _ _ hA
        rw [puts_whole sg0.vals.toArray ([.int .i64 d0, .int .i64 d1, .int .i64 d2, .string d3] : List Value) rfl] at hS
        refine wp_store_mid 23 _ _ rfl (wC).heap.size 0 ([.int .i64 d0, .int .i64 d1, .int .i64 d2, .string d3] : List Value).toArray rfl rfl (hA.there 4 (Nat.le_refl _)) HI.out HOd.out ?_
        refine hK.out _ _ (⟨below_sets ([.int .i64 d0, .int .i64 d1, .int .i64 d2, .string d3] : List Value) hnw 0 _ hHeld.1, by rw [size_sets]; exact hHeld.2.1, hHeld.2.2.sets hA (by decide) _⟩) (fun hHeld => ?_)
        clear hK K
        (try simp only [Act.put])
        refine wpAnyH_take (i := 12) (oi := { dst := some 8, op := Op.assign (Operand.tmp 37), type := 25, pos := "law.go:63", after := #[{ on := 9, ground := Ground.data }, { on := 11, ground := Ground.chain }, { on := 0, ground := Ground.phase }, { on := 1, ground := Ground.phase }, { on := 2, ground := Ground.phase }, { on := 3, ground := Ground.phase }, { on := 4, ground := Ground.phase }, { on := 5, ground := Ground.phase }, { on := 6, ground := Ground.phase }, { on := 7, ground := Ground.phase }, { on := 8, ground := Ground.phase }, { on := 9, ground := Ground.phase }, { on := 10, ground := Ground.phase }, { on := 11, ground := Ground.phase }], guard := none }) (v := ?_) rfl (by kernel_rfl) (by kernel_rfl) (by kernel_rfl) (fun _ _ _ h => h) (Or.inl ⟨by rfl, ?_⟩) (by assumption) ?_
        rotate_left
        · (intro ww hSw; (try dsimp only at hSw); go_simp; try with_reducible rfl)
        (try simp only [Act.put, List.setIfInBounds_toArray, List.set_cons_zero, List.set_cons_succ])
        refine wpAnyH_done (by kernel_rfl) ?_ _
        refine NoPanic.normal ?_
        exact key.out _ _ hS hHeld.1 hHeld.2.2
      · have hnw := hHeld.2.1
        go_simp
        refine hK.out _ _ (⟨hHeld.1.alloc hHeld.2.1 _, (hHeld.1.alloc hHeld.2.1 _).size, hHeld.2.2.alloc _⟩) (fun hHeld => ?_)
        clear hK K
        (try simp only [Act.put, List.setIfInBounds_toArray, List.set_cons_zero, List.set_cons_succ])
        have hA := bk_new (wB) 23 sg0.vals.toArray
        refine wpAnyH_ready (rs := [6]) (by kernel_rfl) (by simp) ?_
        refine AllReadyH.cons (o := { dst := some 35, op := Op.call { callee := Callee.value (Operand.func 9), args := #[Operand.tmp 34], argTypes := #[9] }, type := 26, pos := "law.go:63", after := #[{ on := 5, ground := Ground.data }, { on := 3, ground := Ground.chain }], guard := none }) rfl (fun K hK => ?_) AllReadyH.nil
        go_simp
        ((with_reducible refine (K4.out _).mono ?_); rintro e wC ⟨xn, rfl, hen, hb9⟩)
        refine hK.out _ _ (⟨hHeld.1.trans (hb9.mono hHeld.2.1), Nat.le_trans hHeld.2.1 hb9.size, hHeld.2.2.below hb9⟩) (fun hHeld => ?_)
        clear hK K
        (try simp only [Act.put, List.setIfInBounds_toArray, List.set_cons_zero, List.set_cons_succ])
        have hA := hA.below hb9 hA.lt
        obtain rfl := hen.nil
        refine wpAnyH_take (i := 7) (oi := { dst := some 28, op := Op.move (Operand.tmp 35), type := 26, pos := "law.go:63", after := #[{ on := 6, ground := Ground.data }], guard := none }) (v := ?_) rfl (by kernel_rfl) (by kernel_rfl) (by kernel_rfl) (fun _ _ _ h => h) (Or.inl ⟨by rfl, ?_⟩) (by assumption) ?_
        rotate_left
        · (intro ww hSw; (try dsimp only at hSw); go_simp; try with_reducible rfl)
        (try simp only [Act.put, List.setIfInBounds_toArray, List.set_cons_zero, List.set_cons_succ])
        refine wpAnyH_take (i := 8) (oi := { dst := some 36, op := Op.extract (Operand.tmp 28) 0, type := 23, pos := "law.go:63", after := #[{ on := 7, ground := Ground.data }], guard := none }) (v := ?_) rfl (by kernel_rfl) (by kernel_rfl) (by kernel_rfl) (fun _ _ _ h => h) (Or.inl ⟨by rfl, ?_⟩) (by assumption) ?_
        rotate_left
        · (intro ww hSw; (try dsimp only at hSw); go_simp; try with_reducible rfl)
        (try simp only [Act.put, List.setIfInBounds_toArray, List.set_cons_zero, List.set_cons_succ])
        refine wpAnyH_take (i := 9) (oi := { dst := some 37, op := Op.extract (Operand.tmp 28) 1, type := 25, pos := "law.go:63", after := #[{ on := 7, ground := Ground.data }, { on := 11, ground := Ground.gcOnly Departure.lateStores }], guard := none }) (v := ?_) rfl (by kernel_rfl) (by kernel_rfl) (by kernel_rfl) (fun _ _ _ h => h) (Or.inl ⟨by rfl, ?_⟩) (by assumption) ?_
        rotate_left
        · (intro ww hSw; (try dsimp only at hSw); go_simp; try with_reducible rfl)
        (try simp only [Act.put, List.setIfInBounds_toArray, List.set_cons_zero, List.set_cons_succ])
        refine wpAnyH_ready (rs := [11]) (by kernel_rfl) (by simp) ?_
        refine AllReadyH.cons (o := { dst := none, op := Op.store 23 (Operand.tmp 7) (Operand.tmp 36), type := 0, pos := "law.go:63", after := #[{ on := 10, ground := Ground.data }, { on := 8, ground := Ground.data }, { on := 6, ground := Ground.chain }, { on := 0, ground := Ground.phase }, { on := 1, ground := Ground.phase }, { on := 2, ground := Ground.phase }, { on := 3, ground := Ground.phase }, { on := 4, ground := Ground.phase }, { on := 5, ground := Ground.phase }, { on := 6, ground := Ground.phase }, { on := 7, ground := Ground.phase }, { on := 8, ground := Ground.phase }, { on := 9, ground := Ground.textOnly Departure.lateStores }, { on := 10, ground := Ground.phase }], guard := none }) rfl (fun K hK => ?_) AllReadyH.nil
        rw [if_pos (by rfl)]
        have hS := Bk.sets ([.int .i64 d0, .int .i64 d1, .int .i64 d2, .string d3] : List Value) 0 _ _ hA
        rw [puts_whole sg0.vals.toArray ([.int .i64 d0, .int .i64 d1, .int .i64 d2, .string d3] : List Value) rfl] at hS
        refine wp_store_mid 23 _ _ rfl (wB).heap.size 0 ([.int .i64 d0, .int .i64 d1, .int .i64 d2, .string d3] : List Value).toArray rfl rfl (hA.there 4 (Nat.le_refl _)) HI.out HOd.out ?_
        refine hK.out _ _ (⟨below_sets ([.int .i64 d0, .int .i64 d1, .int .i64 d2, .string d3] : List Value) hnw 0 _ hHeld.1, by rw [size_sets]; exact hHeld.2.1, hHeld.2.2.sets hA (by decide) _⟩) (fun hHeld => ?_)
        clear hK K
        (try simp only [Act.put])
        refine wpAnyH_take (i := 12) (oi := { dst := some 8, op := Op.assign (Operand.tmp 37), type := 25, pos := "law.go:63", after := #[{ on := 9, ground := Ground.data }, { on := 11, ground := Ground.chain }, { on := 0, ground := Ground.phase }, { on := 1, ground := Ground.phase }, { on := 2, ground := Ground.phase }, { on := 3, ground := Ground.phase }, { on := 4, ground := Ground.phase }, { on := 5, ground := Ground.phase }, { on := 6, ground := Ground.phase }, { on := 7, ground := Ground.phase }, { on := 8, ground := Ground.phase }, { on := 9, ground := Ground.phase }, { on := 10, ground := Ground.phase }, { on := 11, ground := Ground.phase }], guard := none }) (v := ?_) rfl (by kernel_rfl) (by kernel_rfl) (by kernel_rfl) (fun _ _ _ h => h) (Or.inl ⟨by rfl, ?_⟩) (by assumption) ?_
        rotate_left
        · (intro ww hSw; (try dsimp only at hSw); go_simp; try with_reducible rfl)
        (try simp only [Act.put, List.setIfInBounds_toArray, List.set_cons_zero, List.set_cons_succ])
        refine wpAnyH_done (by kernel_rfl) ?_ _
        refine NoPanic.normal ?_
        exact key.out _ _ hS hHeld.1 hHeld.2.2
    · have hnw := hHeld.2.1
      go_simp
      refine hK.out _ _ (⟨hHeld.1.alloc hHeld.2.1 _, (hHeld.1.alloc hHeld.2.1 _).size, hHeld.2.2.alloc _⟩) (fun hHeld => ?_)
      clear hK K
      (try simp only [Act.put, List.setIfInBounds_toArray, List.set_cons_zero, List.set_cons_succ])
      have hA := bk_new (wA) 23 sg0.vals.toArray
      refine wpAnyH_ready (rs := [3]) (by kernel_rfl) (by simp) ?_
      refine AllReadyH.cons (o := { dst := some 32, op := Op.call { callee := Callee.value (Operand.func 10), args := #[], argTypes := #[] }, type := 9, pos := "law.go:63", after := #[{ on := 0, ground := Ground.chain }], guard := none }) rfl (fun K hK => ?_) AllReadyH.nil
      go_simp
      ((with_reducible refine (HR.out _).mono ?_); rintro e wB ⟨rfl, hb9⟩)
      refine hK.out _ _ (⟨hHeld.1.trans (hb9.mono hHeld.2.1), Nat.le_trans hHeld.2.1 hb9.size, hHeld.2.2.below hb9⟩) (fun hHeld => ?_)
      clear hK K
      (try simp only [Act.put, List.setIfInBounds_toArray, List.set_cons_zero, List.set_cons_succ])
      have hA := hA.below hb9 hA.lt
      refine wpAnyH_take (i := 4) (oi := { dst := some 33, op := Op.slice 9 (Operand.tmp 32) (some (Operand.const (Value.int IntKind.i64 14))) none none, type := 9, pos := "law.go:63", after := #[{ on := 3, ground := Ground.data }], guard := none }) (v := ?_) rfl (by kernel_rfl) (by kernel_rfl) (by kernel_rfl) (fun _ _ _ h => h) (Or.inl ⟨by rfl, ?_⟩) (by assumption) ?_
      rotate_left
      · (intro ww hSw; (try dsimp only at hSw); go_simp; try with_reducible rfl)
      (try simp only [Act.put, List.setIfInBounds_toArray, List.set_cons_zero, List.set_cons_succ])
      refine wpAnyH_take (i := 5) (oi := { dst := some 34, op := Op.binOp BinOp.add 9 (Operand.tmp 31) (Operand.tmp 33) 9, type := 9, pos := "law.go:63", after := #[{ on := 2, ground := Ground.data }, { on := 4, ground := Ground.data }], guard := none }) (v := ?_) rfl (by kernel_rfl) (by kernel_rfl) (by kernel_rfl) (fun _ _ _ h => h) (Or.inl ⟨by rfl, ?_⟩) (by assumption) ?_
      rotate_left
      · (intro ww hSw; (try dsimp only at hSw); go_simp; try with_reducible rfl)
      (try simp only [Act.put, List.setIfInBounds_toArray, List.set_cons_zero, List.set_cons_succ])
      refine wpAnyH_ready (rs := [6]) (by kernel_rfl) (by simp) ?_
      refine AllReadyH.cons (o := { dst := some 35, op := Op.call { callee := Callee.value (Operand.func 9), args := #[Operand.tmp 34], argTypes := #[9] }, type := 26, pos := "law.go:63", after := #[{ on := 5, ground := Ground.data }, { on := 3, ground := Ground.chain }], guard := none }) rfl (fun K hK => ?_) AllReadyH.nil
      go_simp
      ((with_reducible refine (K4.out _).mono ?_); rintro e wC ⟨xn, rfl, hen, hb9⟩)
      refine hK.out _ _ (⟨hHeld.1.trans (hb9.mono hHeld.2.1), Nat.le_trans hHeld.2.1 hb9.size, hHeld.2.2.below hb9⟩) (fun hHeld => ?_)
      clear hK K
      (try simp only [Act.put, List.setIfInBounds_toArray, List.set_cons_zero, List.set_cons_succ])
      have hA := hA.below hb9 hA.lt
      obtain rfl := hen.nil
      refine wpAnyH_take (i := 7) (oi := { dst := some 28, op := Op.move (Operand.tmp 35), type := 26, pos := "law.go:63", after := #[{ on := 6, ground := Ground.data }], guard := none }) (v := ?_) rfl (by kernel_rfl) (by kernel_rfl) (by kernel_rfl) (fun _ _ _ h => h) (Or.inl ⟨by rfl, ?_⟩) (by assumption) ?_
      rotate_left
      · (intro ww hSw; (try dsimp only at hSw); go_simp; try with_reducible rfl)
      (try simp only [Act.put, List.setIfInBounds_toArray, List.set_cons_zero, List.set_cons_succ])
      refine wpAnyH_take (i := 8) (oi := { dst := some 36, op := Op.extract (Operand.tmp 28) 0, type := 23, pos := "law.go:63", after := #[{ on := 7, ground := Ground.data }], guard := none }) (v := ?_) rfl (by kernel_rfl) (by kernel_rfl) (by kernel_rfl) (fun _ _ _ h => h) (Or.inl ⟨by rfl, ?_⟩) (by assumption) ?_
      rotate_left
      · (intro ww hSw; (try dsimp only at hSw); go_simp; try with_reducible rfl)
      (try simp only [Act.put, List.setIfInBounds_toArray, List.set_cons_zero, List.set_cons_succ])
      refine wpAnyH_take (i := 9) (oi := { dst := some 37, op := Op.extract (Operand.tmp 28) 1, type := 25, pos := "law.go:63", after := #[{ on := 7, ground := Ground.data }, { on := 11, ground := Ground.gcOnly Departure.lateStores }], guard := none }) (v := ?_) rfl (by kernel_rfl) (by kernel_rfl) (by kernel_rfl) (fun _ _ _ h => h) (Or.inl ⟨by rfl, ?_⟩) (by assumption) ?_
      rotate_left
      · (intro ww hSw; (try dsimp only at hSw); go_simp; try with_reducible rfl)
      (try simp only [Act.put, List.setIfInBounds_toArray, List.set_cons_zero, List.set_cons_succ])
      refine wpAnyH_ready (rs := [11]) (by kernel_rfl) (by simp) ?_
      refine AllReadyH.cons (o := { dst := none, op := Op.store 23 (Operand.tmp 7) (Operand.tmp 36), type := 0, pos := "law.go:63", after := #[{ on := 10, ground := Ground.data }, { on := 8, ground := Ground.data }, { on := 6, ground := Ground.chain }, { on := 0, ground := Ground.phase }, { on := 1, ground := Ground.phase }, { on := 2, ground := Ground.phase }, { on := 3, ground := Ground.phase }, { on := 4, ground := Ground.phase }, { on := 5, ground := Ground.phase }, { on := 6, ground := Ground.phase }, { on := 7, ground := Ground.phase }, { on := 8, ground := Ground.phase }, { on := 9, ground := Ground.textOnly Departure.lateStores }, { on := 10, ground := Ground.phase }], guard := none }) rfl (fun K hK => ?_) AllReadyH.nil
      rw [if_pos (by rfl)]
      have hS := Bk.sets ([.int .i64 d0, .int .i64 d1, .int .i64 d2, .string d3] : List Value) 0 _ _ hA
      rw [puts_whole sg0.vals.toArray ([.int .i64 d0, .int .i64 d1, .int .i64 d2, .string d3] : List Value) rfl] at hS
      refine wp_store_mid 23 _ _ rfl (wA).heap.size 0 ([.int .i64 d0, .int .i64 d1, .int .i64 d2, .string d3] : List Value).toArray rfl rfl (hA.there 4 (Nat.le_refl _)) HI.out HOd.out ?_
      refine hK.out _ _ (⟨below_sets ([.int .i64 d0, .int .i64 d1, .int .i64 d2, .string d3] : List Value) hnw 0 _ hHeld.1, by rw [size_sets]; exact hHeld.2.1, hHeld.2.2.sets hA (by decide) _⟩) (fun hHeld => ?_)
      clear hK K
      (try simp only [Act.put])
      refine wpAnyH_take (i := 12) (oi := { dst := some 8, op := Op.assign (Operand.tmp 37), type := 25, pos := "law.go:63", after := #[{ on := 9, ground := Ground.data }, { on := 11, ground := Ground.chain }, { on := 0, ground := Ground.phase }, { on := 1, ground := Ground.phase }, { on := 2, ground := Ground.phase }, { on := 3, ground := Ground.phase }, { on := 4, ground := Ground.phase }, { on := 5, ground := Ground.phase }, { on := 6, ground := Ground.phase }, { on := 7, ground := Ground.phase }, { on := 8, ground := Ground.phase }, { on := 9, ground := Ground.phase }, { on := 10, ground := Ground.phase }, { on := 11, ground := Ground.phase }], guard := none }) (v := ?_) rfl (by kernel_rfl) (by kernel_rfl) (by kernel_rfl) (fun _ _ _ h => h) (Or.inl ⟨by rfl, ?_⟩) (by assumption) ?_
      rotate_left
      · (intro ww hSw; (try dsimp only at hSw); go_simp; try with_reducible rfl)
      (try simp only [Act.put, List.setIfInBounds_toArray, List.set_cons_zero, List.set_cons_succ])
      refine wpAnyH_done (by kernel_rfl) ?_ _
      refine NoPanic.normal ?_
      exact key.out _ _ hS hHeld.1 hHeld.2.2
  · have hnw := hHeld.2.1
    go_simp
    refine hK.out _ _ (⟨hHeld.1.alloc hHeld.2.1 _, (hHeld.1.alloc hHeld.2.1 _).size, hHeld.2.2.alloc _⟩) (fun hHeld => ?_)
    clear hK K
    (try simp only [Act.put, List.setIfInBounds_toArray, List.set_cons_zero, List.set_cons_succ])
    have hA := bk_new (w6.drew) 23 sg0.vals.toArray
    refine wpAnyH_ready (rs := [0]) (by kernel_rfl) (by simp) ?_
    refine AllReadyH.cons (o := { dst := some 29, op := Op.call { callee := Callee.value (Operand.func 10), args := #[], argTypes := #[] }, type := 9, pos := "law.go:63", after := #[], guard := none }) rfl (fun K hK => ?_) AllReadyH.nil
    go_simp
    ((with_reducible refine (HR.out _).mono ?_); rintro e wA ⟨rfl, hb9⟩)
    refine hK.out _ _ (⟨hHeld.1.trans (hb9.mono hHeld.2.1), Nat.le_trans hHeld.2.1 hb9.size, hHeld.2.2.below hb9⟩) (fun hHeld => ?_)
    clear hK K
    (try simp only [Act.put, List.setIfInBounds_toArray, List.set_cons_zero, List.set_cons_succ])
    have hA := hA.below hb9 hA.lt
    refine wpAnyH_take (i := 1) (oi := { dst := some 30, op := Op.slice 9 (Operand.tmp 29) none (some (Operand.const (Value.int IntKind.i64 13))) none, type := 9, pos := "law.go:63", after := #[{ on := 0, ground := Ground.data }], guard := none }) (v := ?_) rfl (by kernel_rfl) (by kernel_rfl) (by kernel_rfl) (fun _ _ _ h => h) (Or.inl ⟨by rfl, ?_⟩) (by assumption) ?_
    rotate_left
    · (intro ww hSw; (try dsimp only at hSw); go_simp; try with_reducible rfl)
    (try simp only [Act.put, List.setIfInBounds_toArray, List.set_cons_zero, List.set_cons_succ])
    refine wpAnyH_take (i := 2) (oi := { dst := some 31, op := Op.binOp BinOp.add 9 (Operand.tmp 30) (Operand.const (Value.string { data := #[255] })) 9, type := 9, pos := "law.go:63", after := #[{ on := 1, ground := Ground.data }], guard := none }) (v := ?_) rfl (by kernel_rfl) (by kernel_rfl) (by kernel_rfl) (fun _ _ _ h => h) (Or.inl ⟨by rfl, ?_⟩) (by assumption) ?_
    rotate_left
    · (intro ww hSw; (try dsimp only at hSw); go_simp; try with_reducible rfl)
    (try simp only [Act.put, List.setIfInBounds_toArray, List.set_cons_zero, List.set_cons_succ])
    refine wpAnyH_ready (rs := [3]) (by kernel_rfl) (by simp) ?_
    refine AllReadyH.cons (o := { dst := some 32, op := Op.call { callee := Callee.value (Operand.func 10), args := #[], argTypes := #[] }, type := 9, pos := "law.go:63", after := #[{ on := 0, ground := Ground.chain }], guard := none }) rfl (fun K hK => ?_) AllReadyH.nil
    go_simp
    ((with_reducible refine (HR.out _).mono ?_); rintro e wB ⟨rfl, hb9⟩)
    refine hK.out _ _ (⟨hHeld.1.trans (hb9.mono hHeld.2.1), Nat.le_trans hHeld.2.1 hb9.size, hHeld.2.2.below hb9⟩) (fun hHeld => ?_)
    clear hK K
    (try simp only [Act.put, List.setIfInBounds_toArray, List.set_cons_zero, List.set_cons_succ])
    have hA := hA.below hb9 hA.lt
    refine wpAnyH_take (i := 4) (oi := { dst := some 33, op := Op.slice 9 (Operand.tmp 32) (some (Operand.const (Value.int IntKind.i64 14))) none none, type := 9, pos := "law.go:63", after := #[{ on := 3, ground := Ground.data }], guard := none }) (v := ?_) rfl (by kernel_rfl) (by kernel_rfl) (by kernel_rfl) (fun _ _ _ h => h) (Or.inl ⟨by rfl, ?_⟩) (by assumption) ?_
    rotate_left
    · (intro ww hSw; (try dsimp only at hSw); go_simp; try with_reducible rfl)
    (try simp only [Act.put, List.setIfInBounds_toArray, List.set_cons_zero, List.set_cons_succ])
    refine wpAnyH_take (i := 5) (oi := { dst := some 34, op := Op.binOp BinOp.add 9 (Operand.tmp 31) (Operand.tmp 33) 9, type := 9, pos := "law.go:63", after := #[{ on := 2, ground := Ground.data }, { on := 4, ground := Ground.data }], guard := none }) (v := ?_) rfl (by kernel_rfl) (by kernel_rfl) (by kernel_rfl) (fun _ _ _ h => h) (Or.inl ⟨by rfl, ?_⟩) (by assumption) ?_
    rotate_left
    · (intro ww hSw; (try dsimp only at hSw); go_simp; try with_reducible rfl)
    (try simp only [Act.put, List.setIfInBounds_toArray, List.set_cons_zero, List.set_cons_succ])
    refine wpAnyH_ready (rs := [6]) (by kernel_rfl) (by simp) ?_
    refine AllReadyH.cons (o := { dst := some 35, op := Op.call { callee := Callee.value (Operand.func 9), args := #[Operand.tmp 34], argTypes := #[9] }, type := 26, pos := "law.go:63", after := #[{ on := 5, ground := Ground.data }, { on := 3, ground := Ground.chain }], guard := none }) rfl (fun K hK => ?_) AllReadyH.nil
    go_simp
    ((with_reducible refine (K4.out _).mono ?_); rintro e wC ⟨xn, rfl, hen, hb9⟩)
    refine hK.out _ _ (⟨hHeld.1.trans (hb9.mono hHeld.2.1), Nat.le_trans hHeld.2.1 hb9.size, hHeld.2.2.below hb9⟩) (fun hHeld => ?_)
    clear hK K
    (try simp only [Act.put, List.setIfInBounds_toArray, List.set_cons_zero, List.set_cons_succ])
    have hA := hA.below hb9 hA.lt
    obtain rfl := hen.nil
    refine wpAnyH_take (i := 7) (oi := { dst := some 28, op := Op.move (Operand.tmp 35), type := 26, pos := "law.go:63", after := #[{ on := 6, ground := Ground.data }], guard := none }) (v := ?_) rfl (by kernel_rfl) (by kernel_rfl) (by kernel_rfl) (fun _ _ _ h => h) (Or.inl ⟨by rfl, ?_⟩) (by assumption) ?_
    rotate_left
    · (intro ww hSw; (try dsimp only at hSw); go_simp; try with_reducible rfl)
    (try simp only [Act.put, List.setIfInBounds_toArray, List.set_cons_zero, List.set_cons_succ])
    refine wpAnyH_take (i := 8) (oi := { dst := some 36, op := Op.extract (Operand.tmp 28) 0, type := 23, pos := "law.go:63", after := #[{ on := 7, ground := Ground.data }], guard := none }) (v := ?_) rfl (by kernel_rfl) (by kernel_rfl) (by kernel_rfl) (fun _ _ _ h => h) (Or.inl ⟨by rfl, ?_⟩) (by assumption) ?_
    rotate_left
    · (intro ww hSw; (try dsimp only at hSw); go_simp; try with_reducible rfl)
    (try simp only [Act.put, List.setIfInBounds_toArray, List.set_cons_zero, List.set_cons_succ])
    refine wpAnyH_take (i := 9) (oi := { dst := some 37, op := Op.extract (Operand.tmp 28) 1, type := 25, pos := "law.go:63", after := #[{ on := 7, ground := Ground.data }, { on := 11, ground := Ground.gcOnly Departure.lateStores }], guard := none }) (v := ?_) rfl (by kernel_rfl) (by kernel_rfl) (by kernel_rfl) (fun _ _ _ h => h) (Or.inl ⟨by rfl, ?_⟩) (by assumption) ?_
    rotate_left
    · (intro ww hSw; (try dsimp only at hSw); go_simp; try with_reducible rfl)
    (try simp only [Act.put, List.setIfInBounds_toArray, List.set_cons_zero, List.set_cons_succ])
    refine wpAnyH_ready (rs := [11]) (by kernel_rfl) (by simp) ?_
    refine AllReadyH.cons (o := { dst := none, op := Op.store 23 (Operand.tmp 7) (Operand.tmp 36), type := 0, pos := "law.go:63", after := #[{ on := 10, ground := Ground.data }, { on := 8, ground := Ground.data }, { on := 6, ground := Ground.chain }, { on := 0, ground := Ground.phase }, { on := 1, ground := Ground.phase }, { on := 2, ground := Ground.phase }, { on := 3, ground := Ground.phase }, { on := 4, ground := Ground.phase }, { on := 5, ground := Ground.phase }, { on := 6, ground := Ground.phase }, { on := 7, ground := Ground.phase }, { on := 8, ground := Ground.phase }, { on := 9, ground := Ground.textOnly Departure.lateStores }, { on := 10, ground := Ground.phase }], guard := none }) rfl (fun K hK => ?_) AllReadyH.nil
    rw [if_pos (by rfl)]
    have hS := Bk.sets ([.int .i64 d0, .int .i64 d1, .int .i64 d2, .string d3] : List Value) 0 _ _ hA
    rw [puts_whole sg0.vals.toArray ([.int .i64 d0, .int .i64 d1, .int .i64 d2, .string d3] : List Value) rfl] at hS
    refine wp_store_mid 23 _ _ rfl (w6.drew).heap.size 0 ([.int .i64 d0, .int .i64 d1, .int .i64 d2, .string d3] : List Value).toArray rfl rfl (hA.there 4 (Nat.le_refl _)) HI.out HOd.out ?_
    refine hK.out _ _ (⟨below_sets ([.int .i64 d0, .int .i64 d1, .int .i64 d2, .string d3] : List Value) hnw 0 _ hHeld.1, by rw [size_sets]; exact hHeld.2.1, hHeld.2.2.sets hA (by decide) _⟩) (fun hHeld => ?_)
    clear hK K
    (try simp only [Act.put])
    refine wpAnyH_take (i := 12) (oi := { dst := some 8, op := Op.assign (Operand.tmp 37), type := 25, pos := "law.go:63", after := #[{ on := 9, ground := Ground.data }, { on := 11, ground := Ground.chain }, { on := 0, ground := Ground.phase }, { on := 1, ground := Ground.phase }, { on := 2, ground := Ground.phase }, { on := 3, ground := Ground.phase }, { on := 4, ground := Ground.phase }, { on := 5, ground := Ground.phase }, { on := 6, ground := Ground.phase }, { on := 7, ground := Ground.phase }, { on := 8, ground := Ground.phase }, { on := 9, ground := Ground.phase }, { on := 10, ground := Ground.phase }, { on := 11, ground := Ground.phase }], guard := none }) (v := ?_) rfl (by kernel_rfl) (by kernel_rfl) (by kernel_rfl) (fun _ _ _ h => h) (Or.inl ⟨by rfl, ?_⟩) (by assumption) ?_
    rotate_left
    · (intro ww hSw; (try dsimp only at hSw); go_simp; try with_reducible rfl)
    (try simp only [Act.put, List.setIfInBounds_toArray, List.set_cons_zero, List.set_cons_succ])
    refine wpAnyH_done (by kernel_rfl) ?_ _
    refine NoPanic.normal ?_
    exact key.out _ _ hS hHeld.1 hHeld.2.2
end Go.Proofs.Ytljlonligbheaaa
