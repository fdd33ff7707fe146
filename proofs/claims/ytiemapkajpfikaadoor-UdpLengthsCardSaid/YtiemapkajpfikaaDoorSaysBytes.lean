/-
  Proved here: what udp.isPort, udp.refusal, udp.big, udp.head and udp.Bytes answer; with that what the program's functions answer (uSays).
  Conditions: Data of at most 70000 bytes, pseudo heads of at most 1000.
-/
import Derived.Test.YtiemapkajpfikaaDoorSaysCheck
import Derived.Test.YtiemapkajpfikaaDoorLow
namespace Go.Proofs.YtiemapkajpfikaaDoor
open Go.RowKit

def portB (x : Int) : Bool := decide (0 ≤ x) && decide (x ≤ 65535)
theorem isPort_any (x : Int) (w : World) :
    Calls Tryd.prog 21 #[.int .i64 x] w fun e w' => e = .returned (.bool (portB x)) ∧ w = w' := by
  unfold portB
  by_cases h0 : 0 ≤ x
  · have d0 := decide_eq_true h0
    by_cases h1 : x ≤ 65535
    · have d1 := decide_eq_true h1
      go_enter Tryd.func21, Tryd.ntmps21
      go_wp2_with fail
      go_ret
      exact ⟨by simp [d0, d1], rfl⟩
    · have d1 := decide_eq_false h1
      go_enter Tryd.func21, Tryd.ntmps21
      go_wp2_with fail
      go_ret
      exact ⟨by simp, rfl⟩
  · have d0 := decide_eq_false h0
    go_enter Tryd.func21, Tryd.ntmps21
    go_wp2_with fail
    go_ret
    exact ⟨by simp, rfl⟩
set_option maxRecDepth 100000 in
theorem bigc2 (x : Int) (w : World) (h0 : 0 ≤ x) (h1 : x < 65536) :
    Calls Tryd.prog 24 #[.int .i64 x] w fun e w' => e = .returned (.string (tw x)) ∧ Below w.heap.size w w' := by
  have HB := Lib.hid (fun W => big_ok2 x W h0 h1 (noHigh _ _ h0 h1))
  have HT := Lib.hid (show tw x = strOfNums [x / 256, x % 256] from rfl)
  generalize tw x = T at *
  clear h0 h1
  go_enter Tryd.func24, Tryd.ntmps24
  go_wp2_with fail
  refine (HB.out _).mono ?_
  rintro e w1 ⟨rfl, b1⟩
  have B1 := Lib.hid b1
  clear b1
  go_wp2_with fail
  go_ret
  exact ⟨by rw [HT.out]; rfl, B1.out⟩
theorem why_port (x0 x1 x2 : Int) (x3 : ByteArray) : (Dg.mk x0 x1 x2 x3).why = if portB x0 = true then (if portB x1 = true then (if 65527 < x3.size then 3 else 0) else 13) else 13 := by
  have e : ∀ x : Int, 0 ≤ x → x ≤ 65535 → portB x = true := fun x h g => by unfold portB; rw [decide_eq_true h, decide_eq_true g]; rfl
  have f : ∀ x : Int, ¬ (0 ≤ x ∧ x ≤ 65535) → portB x = false := fun x h => by
    unfold portB
    by_cases g : 0 ≤ x
    · rw [decide_eq_false (fun k => h ⟨g, k⟩), Bool.and_false]
    · rw [decide_eq_false g, Bool.false_and]
  show (if x0 < 0 ∨ 65535 < x0 ∨ x1 < 0 ∨ 65535 < x1 then (13 : Int) else if 65527 < x3.size then 3 else 0) = _
  by_cases a : 0 ≤ x0 ∧ x0 ≤ 65535
  · by_cases b : 0 ≤ x1 ∧ x1 ≤ 65535
    · rw [e x0 a.1 a.2, e x1 b.1 b.2, if_pos rfl, if_pos rfl, if_neg (by omega)]
    · rw [e x0 a.1 a.2, f x1 b, if_pos rfl, if_neg (show ¬ (false = true) by decide), if_pos (by omega)]
  · rw [f x0 a, if_neg (show ¬ (false = true) by decide), if_pos (by omega)]
set_option maxRecDepth 100000 in
theorem refusal_any (x0 x1 x2 : Int) (x3 : ByteArray) (w : World) :
    Calls Tryd.prog 13 #[.agg #[.int .i64 x0, .int .i64 x1, .int .i64 x2, .string x3]] w fun e w' => e = .returned (.int .i64 (Dg.mk x0 x1 x2 x3).why) ∧ Below w.heap.size w w' := by
  rw [why_port]
  have HA := Lib.hid (fun W => isPort_any x0 W)
  have HB := Lib.hid (fun W => isPort_any x1 W)
  generalize portB x0 = p0 at *
  generalize portB x1 = p1 at *
  go_enter Tryd.func13, Tryd.ntmps13
  cases p0
  · go_wp2_with fail
    refine (HA.out _).mono ?_
    rintro e w1 ⟨rfl, rfl⟩
    go_wp2_with fail
    go_ret
    exact ⟨rfl, (Below.refl _ _).alloc (Nat.le_refl _) _⟩
  · cases p1
    · go_wp2_with fail
      refine (HA.out _).mono ?_
      rintro e w1 ⟨rfl, rfl⟩
      go_wp2_with fail
      refine (HB.out _).mono ?_
      rintro e w1 ⟨rfl, rfl⟩
      go_wp2_with fail
      go_ret
      exact ⟨rfl, (Below.refl _ _).alloc (Nat.le_refl _) _⟩
    · by_cases h : 65527 < x3.size
      · have i1 : (65527 : Int) < (x3.size : Int) := by omega
        have d1 := decide_eq_true i1
        rw [if_pos rfl, if_pos rfl, if_pos h]
        clear h
        go_wp2_with fail
        refine (HA.out _).mono ?_
        rintro e w1 ⟨rfl, rfl⟩
        go_wp2_with fail
        refine (HB.out _).mono ?_
        rintro e w1 ⟨rfl, rfl⟩
        go_wp2_with fail
        go_ret
        exact ⟨rfl, (Below.refl _ _).alloc (Nat.le_refl _) _⟩
      · have i1 : ¬ (65527 : Int) < (x3.size : Int) := by omega
        have d1 := decide_eq_false i1
        rw [if_pos rfl, if_pos rfl, if_neg h]
        clear h
        go_wp2_with fail
        refine (HA.out _).mono ?_
        rintro e w1 ⟨rfl, rfl⟩
        go_wp2_with fail
        refine (HB.out _).mono ?_
        rintro e w1 ⟨rfl, rfl⟩
        go_wp2_with fail
        go_ret
        exact ⟨rfl, (Below.refl _ _).alloc (Nat.le_refl _) _⟩
end Go.Proofs.YtiemapkajpfikaaDoor
