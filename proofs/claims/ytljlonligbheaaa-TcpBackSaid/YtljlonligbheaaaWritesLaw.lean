/-
  Proved here: the law TcpWrites answers true, given what the program's functions answer.
  Conditions: TSays.
-/
import Derived.Test.YtljlonligbheaaaAwake
namespace Go.Proofs.Ytljlonligbheaaa
open Go.RowKit

set_option maxRecDepth 100000 in
set_option maxHeartbeats 400000 in
theorem tcpWrites_all (U : TSays) (d : Sg) (ps : ByteArray) (w : World) :
    Calls Try.prog 5 #[.agg #[.int .i64 d.fr, .int .i64 d.dst, .int .i64 d.fl, .string d.raw], .string ps] w fun e w' => e = .returned (.bool true) ∧ Below w.heap.size w w' := by
  have HA := Lib.hid (fun W => awake_true U W)
  have C1 := Lib.hid (fun (W : World) (h1 : d.raw.size ≤ 70000) (h2 : ps.size ≤ 1000) => U.bytes d ps W h1 h2)
  have C2 := Lib.hid (fun (W : World) (h1 : d.raw.size ≤ 70000) (h2 : ps.size ≤ 1000) => rbytes_any d ps W h1 h2)
  generalize d.out ps = so at *
  generalize d.why = c at *
  obtain ⟨x0, x1, x2, x3⟩ := d
  dsimp only at *
  go_enter Try.func5, Try.ntmps5
  go_wp2_with fail
  refine (HA.out _).mono ?_
  rintro e w1 ⟨rfl, b1⟩
  have HB := Lib.hid (((Below.refl w.heap.size w).alloc (Nat.le_refl _) (.cells #[.int .i64 x0, .int .i64 x1, .int .i64 x2, .string x3] 23)).trans (b1.mono (by simp)))
  have hbk : Bk w1 w.heap.size 23 ([.int .i64 x0, .int .i64 x1, .int .i64 x2, .string x3] : List Value).toArray := (bk_new w 23 ([.int .i64 x0, .int .i64 x1, .int .i64 x2, .string x3] : List Value).toArray).below b1 (by simp)
  have c0 := hbk.at (i := 0) rfl
  have c1 := hbk.at (i := 1) rfl
  have c2 := hbk.at (i := 2) rfl
  have c3 := hbk.at (i := 3) rfl
  have HL := Lib.hid (Nat.le_of_lt hbk.lt)
  clear b1 hbk HA
  by_cases h1 : 70000 < x3.size
  · have i1 : (70000 : Int) < (x3.size : Int) := by omega
    have d1 := decide_eq_true i1
    clear h1
    go_wp2_with fail
    go_ret
    exact ⟨rfl, HB.out⟩
  · have i1 : ¬ (70000 : Int) < (x3.size : Int) := by omega
    have d1 := decide_eq_false i1
    by_cases h2 : 1000 < ps.size
    · have i2 : (1000 : Int) < (ps.size : Int) := by omega
      have d2 := decide_eq_true i2
      clear h1 h2
      go_wp2_with fail
      go_ret
      exact ⟨rfl, HB.out⟩
    · have i2 : ¬ (1000 : Int) < (ps.size : Int) := by omega
      have d2 := decide_eq_false i2
      have HC1 := Lib.hid (fun W => C1.out W (by omega) (by omega))
      have HC2 := Lib.hid (fun W => C2.out W (by omega) (by omega))
      clear h1 h2 C1 C2
      go_wp2_with fail
      refine (HC1.out w1).mono ?_
      rintro e w2 ⟨x, rfl, he, b2⟩
      have HE := Lib.hid he
      have HB2 := Lib.hid (HB.out.trans (b2.mono HL.out))
      have HL2 := Lib.hid (Nat.le_trans HL.out b2.size)
      have e0 := (b2.cell (p := ⟨w.heap.size, 0, none⟩) (World.block_lt_of_cell? w1 ⟨w.heap.size, 0, none⟩ c0)).trans c0
      have e1 := (b2.cell (p := ⟨w.heap.size, 1, none⟩) (World.block_lt_of_cell? w1 ⟨w.heap.size, 0, none⟩ c0)).trans c1
      have e2 := (b2.cell (p := ⟨w.heap.size, 2, none⟩) (World.block_lt_of_cell? w1 ⟨w.heap.size, 0, none⟩ c0)).trans c2
      have e3 := (b2.cell (p := ⟨w.heap.size, 3, none⟩) (World.block_lt_of_cell? w1 ⟨w.heap.size, 0, none⟩ c0)).trans c3
      clear b2 he c0 c1 c2 c3 HB HL HC1
      go_wp2_with fail
      refine (HC2.out w2).mono ?_
      rintro e w3 ⟨rfl, b3⟩
      have HE3 := Lib.hid (HE.out.below b3 (Nat.le_refl _))
      have HB3 := Lib.hid (HB2.out.trans (b3.mono HL2.out))
      clear b3 e0 e1 e2 e3 HE HB2 HL2 HC2
      go_wp2_with fail
      refine (same_any HE3.out).mono ?_
      rintro e w4 ⟨rfl, rfl⟩
      go_wp2_with fail
      go_ret
      exact ⟨rfl, HB3.out⟩
end Go.Proofs.Ytljlonligbheaaa
