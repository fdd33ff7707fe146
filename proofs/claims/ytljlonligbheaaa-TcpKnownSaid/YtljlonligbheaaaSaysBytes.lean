/-
  Proved here: what tcp.isPort, tcp.big, tcp.refusal and tcp.Bytes answer; with that what the program's functions answer (tSays).
  Conditions: Raw of at most 70000 bytes, pseudo heads of at most 1000.
-/
import Derived.Test.YtljlonligbheaaaSaysCheck
import Derived.Test.YtljlonligbheaaaLow
namespace Go.Proofs.Ytljlonligbheaaa
open Go.RowKit

def portB (x : Int) : Bool := decide (0 ≤ x) && decide (x ≤ 65535)
theorem isPort_any (x : Int) (w : World) :
    Calls Try.prog 44 #[.int .i64 x] w fun e w' => e = .returned (.bool (portB x)) ∧ w = w' := by
  unfold portB
  by_cases h0 : 0 ≤ x
  · have d0 := decide_eq_true h0
    by_cases h1 : x ≤ 65535
    · have d1 := decide_eq_true h1
      go_enter Try.func44, Try.ntmps44
      go_wp2_with fail
      go_ret
      exact ⟨by simp [d0, d1], rfl⟩
    · have d1 := decide_eq_false h1
      go_enter Try.func44, Try.ntmps44
      go_wp2_with fail
      go_ret
      exact ⟨by simp, rfl⟩
  · have d0 := decide_eq_false h0
    go_enter Try.func44, Try.ntmps44
    go_wp2_with fail
    go_ret
    exact ⟨by simp, rfl⟩
set_option maxRecDepth 100000 in
theorem bigc2 (x : Int) (w : World) (h0 : 0 ≤ x) (h1 : x < 65536) :
    Calls Try.prog 31 #[.int .i64 x] w fun e w' => e = .returned (.string (tw x)) ∧ Below w.heap.size w w' := by
  have HB := Lib.hid (fun W => big_ok2 x W h0 h1 (noHigh _ _ h0 h1))
  have HT := Lib.hid (show tw x = strOfNums [x / 256, x % 256] from rfl)
  generalize tw x = T at *
  clear h0 h1
  go_enter Try.func31, Try.ntmps31
  go_wp2_with fail
  refine (HB.out _).mono ?_
  rintro e w1 ⟨rfl, b1⟩
  have B1 := Lib.hid b1
  clear b1
  go_wp2_with fail
  go_ret
  exact ⟨by rw [HT.out]; rfl, B1.out⟩
/-- What a region keeps: a segment's block. -/
def DS (w0 : World) (b : Nat) (x0 x1 x2 : Int) (x3 : ByteArray) (w' : World) : Prop := Below b w0 w' ∧ b ≤ w'.heap.size ∧ w'.cell? ⟨b, 0, none⟩ = some (.int .i64 x0) ∧ w'.cell? ⟨b, 1, none⟩ = some (.int .i64 x1) ∧ w'.cell? ⟨b, 2, none⟩ = some (.int .i64 x2) ∧ w'.cell? ⟨b, 3, none⟩ = some (.string x3)
section
variable {w0 w w' : World} {b : Nat} {x0 x1 x2 : Int} {x3 : ByteArray}
theorem DS.below (h : DS w0 b x0 x1 x2 x3 w) (hb : Below w.heap.size w w') : DS w0 b x0 x1 x2 x3 w' :=
  ⟨h.1.trans (hb.mono h.2.1), Nat.le_trans h.2.1 hb.size, cell_kept h.2.2.1 hb, cell_kept h.2.2.2.1 hb, cell_kept h.2.2.2.2.1 hb, cell_kept h.2.2.2.2.2 hb⟩
theorem DS.drew (h : DS w0 b x0 x1 x2 x3 w) : DS w0 b x0 x1 x2 x3 w.drew := ⟨h.1.drew, h.2⟩
theorem DS.new (w : World) (x0 x1 x2 : Int) (x3 : ByteArray) : DS w w.heap.size x0 x1 x2 x3 (w.alloc (.cells #[.int .i64 x0, .int .i64 x1, .int .i64 x2, .string x3] 23)) := by
  have hk : Bk (w.alloc (.cells #[.int .i64 x0, .int .i64 x1, .int .i64 x2, .string x3] 23)) w.heap.size 23 ([.int .i64 x0, .int .i64 x1, .int .i64 x2, .string x3] : List Value).toArray := bk_new _ _ _
  exact ⟨(Below.refl _ _).alloc (Nat.le_refl _) _, Nat.le_of_lt hk.lt, hk.at rfl, hk.at rfl, hk.at rfl, hk.at rfl⟩
end
theorem why_port (x0 x1 x2 : Int) (x3 : ByteArray) : (Sg.mk x0 x1 x2 x3).why = if tcode x3 ≠ 0 then tcode x3 else if portB x0 = true then (if portB x1 = true then 0 else 13) else 13 := by
  have e : ∀ x : Int, 0 ≤ x → x ≤ 65535 → portB x = true := fun x h g => by unfold portB; rw [decide_eq_true h, decide_eq_true g]; rfl
  have f : ∀ x : Int, ¬ (0 ≤ x ∧ x ≤ 65535) → portB x = false := fun x h => by
    unfold portB
    by_cases g : 0 ≤ x
    · rw [decide_eq_false (fun k => h ⟨g, k⟩), Bool.and_false]
    · rw [decide_eq_false g, Bool.false_and]
  show (if tcode x3 ≠ 0 then tcode x3 else if x0 < 0 ∨ 65535 < x0 ∨ x1 < 0 ∨ 65535 < x1 then (13 : Int) else 0) = _
  by_cases hc : tcode x3 ≠ 0
  · rw [if_pos hc, if_pos hc]
  · rw [if_neg hc, if_neg hc]
    by_cases a : 0 ≤ x0 ∧ x0 ≤ 65535
    · by_cases b : 0 ≤ x1 ∧ x1 ≤ 65535
      · rw [e x0 a.1 a.2, e x1 b.1 b.2, if_pos rfl, if_pos rfl, if_neg (by omega)]
      · rw [e x0 a.1 a.2, f x1 b, if_pos rfl, if_neg (show ¬ (false = true) by decide), if_pos (by omega)]
    · rw [f x0 a, if_neg (show ¬ (false = true) by decide), if_pos (by omega)]
set_option maxRecDepth 100000 in
theorem refusal_any (x0 x1 x2 : Int) (x3 : ByteArray) (w : World) (hs : x3.size ≤ 70000) :
    Calls Try.prog 30 #[.agg #[.int .i64 x0, .int .i64 x1, .int .i64 x2, .string x3]] w fun e w' => e = .returned (.int .i64 (Sg.mk x0 x1 x2 x3).why) ∧ Below w.heap.size w w' := by
  rw [why_port]
  have HP := Lib.hid (fun W => reft_any x3 W hs)
  have HA := Lib.hid (fun W => isPort_any x0 W)
  have HB := Lib.hid (fun W => isPort_any x1 W)
  generalize portB x0 = p0 at *
  generalize portB x1 = p1 at *
  generalize tcode x3 = c at *
  clear hs
  by_cases hc : c = 0
  · subst hc
    rw [if_neg (fun h => h rfl)]
    go_enter Try.func30, Try.ntmps30
    go_wp2_with fail
    refine (HP.out _).mono ?_
    rintro e w1 ⟨rfl, rfl⟩
    cases p0
    · go_wp2_with fail
      refine (HA.out _).mono ?_
      rintro e w1 ⟨rfl, rfl⟩
      go_wp2_with fail
      go_ret
      exact ⟨rfl, (Below.refl _ _).alloc (Nat.le_refl _) _⟩
    · cases p1
      · go_wp2_with fail
        refine (HA.out _).mono ?_
        rintro e w1 ⟨rfl, rfl⟩
        go_wp2_with fail
        refine (HB.out _).mono ?_
        rintro e w1 ⟨rfl, rfl⟩
        go_wp2_with fail
        go_ret
        exact ⟨rfl, (Below.refl _ _).alloc (Nat.le_refl _) _⟩
      · go_wp2_with fail
        refine (HA.out _).mono ?_
        rintro e w1 ⟨rfl, rfl⟩
        go_wp2_with fail
        refine (HB.out _).mono ?_
        rintro e w1 ⟨rfl, rfl⟩
        go_wp2_with fail
        go_ret
        exact ⟨rfl, (Below.refl _ _).alloc (Nat.le_refl _) _⟩
  · have m : (c != 0) = true := by rw [bne_iff_ne]; exact hc
    rw [if_pos hc]
    clear hc
    go_enter Try.func30, Try.ntmps30
    go_wp2_with fail
    refine (HP.out _).mono ?_
    rintro e w1 ⟨rfl, rfl⟩
    go_wp2_with fail
    go_ret
    exact ⟨rfl, (Below.refl _ _).alloc (Nat.le_refl _) _⟩
end Go.Proofs.Ytljlonligbheaaa
