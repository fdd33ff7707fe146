/-
  Proved here: the law TcpReads answers true, given what the program's functions answer.
  Conditions: TSays.
-/
import Derived.Test.YtljlonligbheaaaAwake
namespace Go.Proofs.Ytljlonligbheaaa
open Go.RowKit

set_option maxRecDepth 100000 in
set_option maxHeartbeats 1000000 in
theorem tcpReads_all (U : TSays) (s ps : ByteArray) (w : World) :
    Calls Try.prog 4 #[.string s, .string ps] w fun e w' => e = .returned (.bool true) ∧ Below w.heap.size w w' := by
  have HA := Lib.hid (fun W => awake_true U W)
  have C1 := Lib.hid (fun (W : World) (h1 : s.size ≤ 70000) => U.parse s W h1)
  have C2 : Hid (∀ W, s.size ≤ 70000 → Calls Try.prog 15 #[.string s] W fun e w' => e = .returned (.tuple #[.agg #[.int .i64 (tans s).fr, .int .i64 (tans s).dst, .int .i64 (tans s).fl, .string (tans s).raw], .int .i64 (tcode s)]) ∧ Below W.heap.size W w') := Lib.hid (fun W h1 => rparse_any s W h1)
  have C3 := Lib.hid (fun (W : World) (h1 : s.size ≤ 70000) (h2 : ps.size ≤ 1000) => U.check s ps W h1 h2)
  have C4 := Lib.hid (fun (W : World) (h1 : s.size ≤ 70000) (h2 : ps.size ≤ 1000) => rcheck_any s ps W h1 h2)
  have hq := fun W => eqlSg (tans s).fr (tans s).dst (tans s).fl (tans s).raw W
  generalize kcode s ps = cc at *
  generalize tcode s = c at *
  generalize (tans s).fr = x0 at *
  generalize (tans s).dst = x1 at *
  generalize (tans s).fl = x2 at *
  generalize (tans s).raw = x3 at *
  go_enter Try.func4, Try.ntmps4
  go_wp2_with fail
  refine (HA.out _).mono ?_
  rintro e w1 ⟨rfl, b1⟩
  have HB := Lib.hid b1
  have HL := Lib.hid b1.size
  clear b1 HA
  by_cases h1 : 70000 < s.size
  · have i1 : (70000 : Int) < (s.size : Int) := by omega
    have d1 := decide_eq_true i1
    clear h1
    go_wp2_with fail
    go_ret
    exact ⟨rfl, HB.out⟩
  · have i1 : ¬ (70000 : Int) < (s.size : Int) := by omega
    have d1 := decide_eq_false i1
    by_cases h2 : 1000 < ps.size
    · have i2 : (1000 : Int) < (ps.size : Int) := by omega
      have d2 := decide_eq_true i2
      clear h1 h2
      go_wp2_with fail
      go_ret
      exact ⟨rfl, HB.out⟩
    · have i2 : ¬ (1000 : Int) < (ps.size : Int) := by omega
      have d2 := decide_eq_false i2
      have HC1 := Lib.hid (fun W => C1.out W (by omega))
      have HC2 := Lib.hid (fun W => C2.out W (by omega))
      have HC3 := Lib.hid (fun W => C3.out W (by omega) (by omega))
      have HC4 := Lib.hid (fun W => C4.out W (by omega) (by omega))
      clear h1 h2 C1 C2 C3 C4
      go_wp2_with fail
      refine (HC1.out _).mono ?_
      rintro e w2 ⟨x, rfl, he, b2⟩
      have hE := he.below ((Below.refl _ _).alloc (Nat.le_refl _) (.cells #[.int .i64 x0, .int .i64 x1, .int .i64 x2, .string x3] 23)) (Nat.le_refl _)
      have hbk : Bk (w2.alloc (.cells #[.int .i64 x0, .int .i64 x1, .int .i64 x2, .string x3] 23)) w2.heap.size 23 ([.int .i64 x0, .int .i64 x1, .int .i64 x2, .string x3] : List Value).toArray := bk_new _ _ _
      have hB2 : Below w.heap.size w (w2.alloc (.cells #[.int .i64 x0, .int .i64 x1, .int .i64 x2, .string x3] 23)) := (HB.out.trans (b2.mono HL.out)).alloc (Nat.le_trans HL.out b2.size) _
      have hL2 : w.heap.size ≤ (w2.alloc (.cells #[.int .i64 x0, .int .i64 x1, .int .i64 x2, .string x3] 23)).heap.size := by have := HL.out; have := b2.size; simp; omega
      have HE := Lib.hid hE
      have HK := Lib.hid hbk
      have HB2 := Lib.hid hB2
      have HL2 := Lib.hid hL2
      clear he b2 HB HL hE hbk hB2 hL2 HC1
      generalize hw3 : w2.alloc (.cells #[.int .i64 x0, .int .i64 x1, .int .i64 x2, .string x3] 23) = w3 at *
      go_upto_region 6 with (fail)
      clear hw3
      go_wp2_with fail
      refine (HC2.out _).mono ?_
      rintro e w4 ⟨rfl, b4⟩
      have hE := (HE.out.below b4 (Nat.le_refl _)).below ((Below.refl _ _).alloc (Nat.le_refl _) (.cells #[.int .i64 x0, .int .i64 x1, .int .i64 x2, .string x3] 23)) (Nat.le_refl _)
      have hbk := (HK.out.below b4 HK.out.lt).alloc (.cells #[.int .i64 x0, .int .i64 x1, .int .i64 x2, .string x3] 23)
      have hbk2 : Bk (w4.alloc (.cells #[.int .i64 x0, .int .i64 x1, .int .i64 x2, .string x3] 23)) w4.heap.size 23 ([.int .i64 x0, .int .i64 x1, .int .i64 x2, .string x3] : List Value).toArray := bk_new _ _ _
      have hB2 : Below w.heap.size w (w4.alloc (.cells #[.int .i64 x0, .int .i64 x1, .int .i64 x2, .string x3] 23)) := (HB2.out.trans (b4.mono HL2.out)).alloc (Nat.le_trans HL2.out b4.size) _
      have hL2 : w.heap.size ≤ (w4.alloc (.cells #[.int .i64 x0, .int .i64 x1, .int .i64 x2, .string x3] 23)).heap.size := by have := HL2.out; have := b4.size; simp; omega
      have HE5 := Lib.hid hE
      have HB5 := Lib.hid hB2
      have HL5 := Lib.hid hL2
      have p0 := hbk.at (V := [.int .i64 x0, .int .i64 x1, .int .i64 x2, .string x3]) (i := 0) rfl
      have p1 := hbk.at (V := [.int .i64 x0, .int .i64 x1, .int .i64 x2, .string x3]) (i := 1) rfl
      have p2 := hbk.at (V := [.int .i64 x0, .int .i64 x1, .int .i64 x2, .string x3]) (i := 2) rfl
      have p3 := hbk.at (V := [.int .i64 x0, .int .i64 x1, .int .i64 x2, .string x3]) (i := 3) rfl
      have r0 := hbk2.at (i := 0) rfl
      have r1 := hbk2.at (i := 1) rfl
      have r2 := hbk2.at (i := 2) rfl
      have r3 := hbk2.at (i := 3) rfl
      clear b4 HE HK HB2 HL2 hE hbk hbk2 hB2 hL2 HC2
      generalize hw5 : w4.alloc (.cells #[.int .i64 x0, .int .i64 x1, .int .i64 x2, .string x3] 23) = w5 at *
      go_upto_region 7 with (fail)
      clear hw5
      go_wp2_with fail
      refine (same_any HE5.out).mono ?_
      rintro e w6 ⟨rfl, rfl⟩
      clear p0 p1 p2 p3 r0 r1 r2 r3
      go_wp2_with fail
      refine (HC3.out _).mono ?_
      rintro e w7 ⟨y, rfl, hy, b7⟩
      have HY := Lib.hid hy
      have HB7 := Lib.hid (HB5.out.trans (b7.mono HL5.out))
      have HL7 := Lib.hid (Nat.le_trans HL5.out b7.size)
      clear hy b7 HB5 HL5 HC3 HE5
      go_wp2_with fail
      refine (HC4.out _).mono ?_
      rintro e w8 ⟨rfl, b8⟩
      have HY8 := Lib.hid (HY.out.below b8 (Nat.le_refl _))
      have HB8 := Lib.hid (HB7.out.trans (b8.mono HL7.out))
      clear b8 HY HB7 HL7 HC4
      go_wp2_with fail
      refine (same_any HY8.out).mono ?_
      rintro e w9 ⟨rfl, rfl⟩
      go_wp2_with fail
      go_ret
      exact ⟨rfl, HB8.out⟩
end Go.Proofs.Ytljlonligbheaaa
