/-
  Proved here: the law Icmp6Codes answers true, given what the program's functions answer.
  Conditions: MSays.
-/
import Derived.Test.YtmfolkbmkfifcaaAwake
namespace Go.Proofs.Ytmfolkbmkfifcaa
open Go.RowKit

set_option maxRecDepth 100000 in
set_option maxHeartbeats 1000000 in
theorem icmp6Codes_all (U : MSays) (d : Ms) (s ps : ByteArray) (hx : d.rs < 4294967296) (w : World) :
    Calls Try.prog 4 #[.agg #[.int .i64 d.kd, .int .i64 d.cd, .int .u32 (d.rs : Nat), .string d.da], .string s, .string ps] w fun e w' => e = .returned (.bool true) ∧ Below w.heap.size w w' := by
  have HA := Lib.hid (fun W => awake_true U W)
  have C1 := Lib.hid (fun (W : World) (h1 : d.da.size ≤ 70000) (h3 : ps.size ≤ 1000) => U.bytes d ps W hx (by omega) h3)
  have C2 := Lib.hid (fun (W : World) (h1 : d.da.size ≤ 70000) (h3 : ps.size ≤ 1000) => rbytes_any d ps W hx (by omega) h3)
  have C3 := Lib.hid (fun (W : World) (h1 : s.size ≤ 70000) (h3 : ps.size ≤ 1000) => U.parse s ps W (by omega) h3)
  have C4 : Hid (∀ W, s.size ≤ 70000 → ps.size ≤ 1000 → Calls Try.prog 17 #[.string ps, .string s] W fun e w' => e = .returned (.tuple #[.agg #[.int .i64 (mans ps s).kd, .int .i64 (mans ps s).cd, .int .u32 ((mans ps s).rs : Nat), .string (mans ps s).da], .int .i64 (mcode ps s)]) ∧ Below W.heap.size W w') := Lib.hid (fun W h1 h3 => rparse_any ps s W (by omega) h3)
  have hq := fun W => eqlMs (mans ps s).kd (mans ps s).cd ((mans ps s).rs : Nat) (mans ps s).da W
  generalize d.out ps = so at *
  generalize d.why = c at *
  generalize mcode ps s = c2 at *
  generalize (mans ps s).kd = y0 at *
  generalize (mans ps s).cd = y1 at *
  generalize (mans ps s).rs = y2 at *
  generalize (mans ps s).da = y3 at *
  clear hx
  obtain ⟨x0, x1, x2, x3⟩ := d
  dsimp only at *
  go_enter Try.func4, Try.ntmps4
  go_wp2_with fail
  refine (HA.out _).mono ?_
  rintro e w1 ⟨rfl, b1⟩
  have HK1 := Lib.hid ((((Kp.start w).new 26 ([.int .i64 x0, .int .i64 x1, .int .u32 (x2 : Nat), .string x3] : List Value)).below b1 (Nat.le_refl _)))
  have c0 := HK1.out.hd.at (i := 0) rfl
  have c1 := HK1.out.hd.at (i := 1) rfl
  have c2 := HK1.out.hd.at (i := 2) rfl
  have c3 := HK1.out.hd.at (i := 3) rfl
  clear b1 HA
  by_cases h1 : 70000 < x3.size
  · have i1 : (70000 : Int) < (x3.size : Int) := by omega
    have d1 := decide_eq_true i1
    clear h1
    go_wp2_with fail
    go_ret
    exact ⟨rfl, HK1.out.2.1⟩
  have i1 : ¬ (70000 : Int) < (x3.size : Int) := by omega
  have d1 := decide_eq_false i1
  by_cases h2 : 70000 < s.size
  · have i2 : (70000 : Int) < (s.size : Int) := by omega
    have d2 := decide_eq_true i2
    clear h1 h2
    go_wp2_with fail
    go_ret
    exact ⟨rfl, HK1.out.2.1⟩
  have i2 : ¬ (70000 : Int) < (s.size : Int) := by omega
  have d2 := decide_eq_false i2
  by_cases h3 : 1000 < ps.size
  · have i3 : (1000 : Int) < (ps.size : Int) := by omega
    have d3 := decide_eq_true i3
    clear h1 h2 h3
    go_wp2_with fail
    go_ret
    exact ⟨rfl, HK1.out.2.1⟩
  have i3 : ¬ (1000 : Int) < (ps.size : Int) := by omega
  have d3 := decide_eq_false i3
  have HC1 := Lib.hid (fun W => C1.out W (by omega) (by omega))
  have HC2 := Lib.hid (fun W => C2.out W (by omega) (by omega))
  have HC3 := Lib.hid (fun W => C3.out W (by omega) (by omega))
  have HC4 := Lib.hid (fun W => C4.out W (by omega) (by omega))
  clear h1 h2 h3 C1 C2 C3 C4
  go_wp2_with fail
  refine (HC1.out w1).mono ?_
  rintro e w2 ⟨x, rfl, he, b2⟩
  have HE := Lib.hid he
  have HK2 := Lib.hid (HK1.out.below b2 (Nat.le_refl _))
  clear b2 he c0 c1 c2 c3 HK1 HC1
  have c0 := HK2.out.hd.at (i := 0) rfl
  have c1 := HK2.out.hd.at (i := 1) rfl
  have c2 := HK2.out.hd.at (i := 2) rfl
  have c3 := HK2.out.hd.at (i := 3) rfl
  go_wp2_with fail
  refine (HC2.out w2).mono ?_
  rintro e w3 ⟨rfl, b3⟩
  have HE3 := Lib.hid (HE.out.below b3 (Nat.le_refl _))
  have HK3 := Lib.hid (HK2.out.below b3 (Nat.le_refl _))
  have HS3 := Lib.hid (Nat.le_trans HK2.out.2.2 b3.size)
  clear b3 c0 c1 c2 c3 HE HK2 HC2
  go_wp2_with fail
  refine (HC3.out w3).mono ?_
  rintro e w4 ⟨z, rfl, hz, b4⟩
  have HK4 := Lib.hid ((HK3.out.below b4 (Nat.le_refl _)).tl.new 26 ([.int .i64 y0, .int .i64 y1, .int .u32 (y2 : Nat), .string y3] : List Value))
  have HE4 := Lib.hid ((HE3.out.below b4 (Nat.le_refl _)).below ((Below.refl _ _).alloc (Nat.le_refl _) (.cells ([.int .i64 y0, .int .i64 y1, .int .u32 (y2 : Nat), .string y3] : List Value).toArray 26)) (Nat.le_refl _))
  have HZ4 := Lib.hid (hz.below ((Below.refl _ _).alloc (Nat.le_refl _) (.cells ([.int .i64 y0, .int .i64 y1, .int .u32 (y2 : Nat), .string y3] : List Value).toArray 26)) (Nat.le_refl _))
  clear b4 hz HE3 HK3 HC3
  generalize hw5 : w4.alloc (.cells #[.int .i64 y0, .int .i64 y1, .int .u32 (y2 : Nat), .string y3] 26) = w5 at *
  go_upto_region 8 with (fail)
  clear hw5
  go_wp2_with fail
  refine (HC4.out w5).mono ?_
  rintro e w6 ⟨rfl, b6⟩
  have HK6 := Lib.hid ((HK4.out.below b6 (Nat.le_refl _)).new 26 ([.int .i64 y0, .int .i64 y1, .int .u32 (y2 : Nat), .string y3] : List Value))
  have HE6 := Lib.hid ((HE4.out.below b6 (Nat.le_refl _)).below ((Below.refl _ _).alloc (Nat.le_refl _) (.cells ([.int .i64 y0, .int .i64 y1, .int .u32 (y2 : Nat), .string y3] : List Value).toArray 26)) (Nat.le_refl _))
  have HZ6 := Lib.hid ((HZ4.out.below b6 (Nat.le_refl _)).below ((Below.refl _ _).alloc (Nat.le_refl _) (.cells ([.int .i64 y0, .int .i64 y1, .int .u32 (y2 : Nat), .string y3] : List Value).toArray 26)) (Nat.le_refl _))
  clear b6 HE4 HZ4 HK4 HC4
  generalize hw7 : w6.alloc (.cells #[.int .i64 y0, .int .i64 y1, .int .u32 (y2 : Nat), .string y3] 26) = w7 at *
  go_upto_region 9 with (fail)
  clear hw7
  have r0 := HK6.out.hd.at (i := 0) rfl
  have r1 := HK6.out.hd.at (i := 1) rfl
  have r2 := HK6.out.hd.at (i := 2) rfl
  have r3 := HK6.out.hd.at (i := 3) rfl
  have p0 := HK6.out.tl.hd.at (i := 0) rfl
  have p1 := HK6.out.tl.hd.at (i := 1) rfl
  have p2 := HK6.out.tl.hd.at (i := 2) rfl
  have p3 := HK6.out.tl.hd.at (i := 3) rfl
  go_wp2_with fail
  refine (same_any HE6.out).mono ?_
  rintro e w8 ⟨rfl, rfl⟩
  go_wp2_with fail
  refine (same_any HZ6.out).mono ?_
  rintro e w8 ⟨rfl, rfl⟩
  go_wp2_with fail
  go_ret
  exact ⟨rfl, HK6.out.2.1⟩
end Go.Proofs.Ytmfolkbmkfifcaa
