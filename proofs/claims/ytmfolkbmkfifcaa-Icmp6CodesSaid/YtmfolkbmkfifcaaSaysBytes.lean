/-
  Proved here: what the program's isByte and big answer, and its Bytes where a part is out of its bounds.
  Conditions: none.
-/
import Derived.Test.YtmfolkbmkfifcaaSaysTells
import Derived.Test.YtmfolkbmkfifcaaLow
namespace Go.Proofs.Ytmfolkbmkfifcaa
open Go.RowKit

def byteB (x : Int) : Bool := decide (0 ≤ x) && decide (x ≤ 255)
theorem isByte_any (x : Int) (w : World) :
    Calls Try.prog 25 #[.int .i64 x] w fun e w' => e = .returned (.bool (byteB x)) ∧ w = w' := by
  unfold byteB
  by_cases h0 : 0 ≤ x
  · have d0 := decide_eq_true h0
    by_cases h1 : x ≤ 255
    · have d1 := decide_eq_true h1
      go_enter Try.func25, Try.ntmps25
      go_wp2_with fail
      go_ret
      exact ⟨by simp [d0, d1], rfl⟩
    · have d1 := decide_eq_false h1
      go_enter Try.func25, Try.ntmps25
      go_wp2_with fail
      go_ret
      exact ⟨by simp, rfl⟩
  · have d0 := decide_eq_false h0
    go_enter Try.func25, Try.ntmps25
    go_wp2_with fail
    go_ret
    exact ⟨by simp, rfl⟩
set_option maxRecDepth 100000 in
theorem bigc1 (x : Int) (w : World) (h0 : 0 ≤ x) (h1 : x < 256) :
    Calls Try.prog 26 #[.int .i64 x, .int .i64 1] w fun e w' => e = .returned (.string (strOfNums [x])) ∧ Below w.heap.size w w' := by
  have HB := Lib.hid (fun W => big_ok1 x W h0 h1 (noHigh _ _ h0 h1))
  clear h0 h1
  go_enter Try.func26, Try.ntmps26
  go_wp2_with fail
  refine (HB.out _).mono ?_
  rintro e w1 ⟨rfl, b1⟩
  have B1 := Lib.hid b1
  clear b1
  go_wp2_with fail
  go_ret
  exact ⟨rfl, B1.out⟩
set_option maxRecDepth 100000 in
theorem bigc2 (x : Int) (w : World) (h0 : 0 ≤ x) (h1 : x < 65536) :
    Calls Try.prog 26 #[.int .i64 x, .int .i64 2] w fun e w' => e = .returned (.string (tw x)) ∧ Below w.heap.size w w' := by
  have HB := Lib.hid (fun W => big_ok2 x W h0 h1 (noHigh _ _ h0 h1))
  have HT := Lib.hid (show tw x = strOfNums [x / 256, x % 256] from rfl)
  generalize tw x = T at *
  clear h0 h1
  go_enter Try.func26, Try.ntmps26
  go_wp2_with fail
  refine (HB.out _).mono ?_
  rintro e w1 ⟨rfl, b1⟩
  have B1 := Lib.hid b1
  clear b1
  go_wp2_with fail
  go_ret
  exact ⟨by rw [HT.out]; rfl, B1.out⟩
set_option maxRecDepth 100000 in
theorem bigc4 (x : Int) (w : World) (h0 : 0 ≤ x) (h1 : x < 4294967296) :
    Calls Try.prog 26 #[.int .i64 x, .int .i64 4] w fun e w' => e = .returned (.string (strOfNums [x / 16777216, x / 65536 % 256, x / 256 % 256, x % 256])) ∧ Below w.heap.size w w' := by
  have HB := Lib.hid (fun W => big_ok4 x W h0 h1 (noHigh _ _ h0 h1))
  clear h0 h1
  go_enter Try.func26, Try.ntmps26
  go_wp2_with fail
  refine (HB.out _).mono ?_
  rintro e w1 ⟨rfl, b1⟩
  have B1 := Lib.hid b1
  clear b1
  go_wp2_with fail
  go_ret
  exact ⟨rfl, B1.out⟩
/-- What a region keeps: a message's block. -/
def DS (w0 : World) (b : Nat) (x0 x1 : Int) (x2 : Nat) (x3 : ByteArray) (w' : World) : Prop := Below b w0 w' ∧ b ≤ w'.heap.size ∧ w'.cell? ⟨b, 0, none⟩ = some (.int .i64 x0) ∧ w'.cell? ⟨b, 1, none⟩ = some (.int .i64 x1) ∧ w'.cell? ⟨b, 2, none⟩ = some (.int .u32 (x2 : Nat)) ∧ w'.cell? ⟨b, 3, none⟩ = some (.string x3)
section
variable {w0 w w' : World} {b : Nat} {x0 x1 : Int} {x2 : Nat} {x3 : ByteArray}
theorem DS.below (h : DS w0 b x0 x1 x2 x3 w) (hb : Below w.heap.size w w') : DS w0 b x0 x1 x2 x3 w' :=
  ⟨h.1.trans (hb.mono h.2.1), Nat.le_trans h.2.1 hb.size, cell_kept h.2.2.1 hb, cell_kept h.2.2.2.1 hb, cell_kept h.2.2.2.2.1 hb, cell_kept h.2.2.2.2.2 hb⟩
theorem DS.drew (h : DS w0 b x0 x1 x2 x3 w) : DS w0 b x0 x1 x2 x3 w.drew := ⟨h.1.drew, h.2⟩
theorem DS.alloc (h : DS w0 b x0 x1 x2 x3 w) (o : Obj) : DS w0 b x0 x1 x2 x3 (w.alloc o) := h.below ((Below.refl _ _).alloc (Nat.le_refl _) o)
theorem DS.new (w : World) (x0 x1 : Int) (x2 : Nat) (x3 : ByteArray) : DS w w.heap.size x0 x1 x2 x3 (w.alloc (.cells #[.int .i64 x0, .int .i64 x1, .int .u32 (x2 : Nat), .string x3] 26)) := by
  have hk : Bk (w.alloc (.cells #[.int .i64 x0, .int .i64 x1, .int .u32 (x2 : Nat), .string x3] 26)) w.heap.size 26 ([.int .i64 x0, .int .i64 x1, .int .u32 (x2 : Nat), .string x3] : List Value).toArray := bk_new _ _ _
  exact ⟨(Below.refl _ _).alloc (Nat.le_refl _) _, Nat.le_of_lt hk.lt, hk.at rfl, hk.at rfl, hk.at rfl, hk.at rfl⟩
end
theorem why_byte (x0 x1 : Int) (x2 : Nat) (x3 : ByteArray) : (Ms.mk x0 x1 x2 x3).why = if byteB x0 = true then (if byteB x1 = true then 0 else 13) else 13 := by
  have e : ∀ x : Int, 0 ≤ x → x ≤ 255 → byteB x = true := fun x h g => by unfold byteB; rw [decide_eq_true h, decide_eq_true g]; rfl
  have f : ∀ x : Int, ¬ (0 ≤ x ∧ x ≤ 255) → byteB x = false := fun x h => by
    unfold byteB
    by_cases g : 0 ≤ x
    · rw [decide_eq_false (fun k => h ⟨g, k⟩), Bool.and_false]
    · rw [decide_eq_false g, Bool.false_and]
  show (if x0 < 0 ∨ 255 < x0 ∨ x1 < 0 ∨ 255 < x1 then (13 : Int) else 0) = _
  by_cases a : 0 ≤ x0 ∧ x0 ≤ 255
  · by_cases b : 0 ≤ x1 ∧ x1 ≤ 255
    · rw [e x0 a.1 a.2, e x1 b.1 b.2, if_pos rfl, if_pos rfl, if_neg (by omega)]
    · rw [e x0 a.1 a.2, f x1 b, if_pos rfl, if_neg (show ¬ (false = true) by decide), if_pos (by omega)]
  · rw [f x0 a, if_neg (show ¬ (false = true) by decide), if_pos (by omega)]
set_option maxRecDepth 100000 in
theorem bytes_bad (x0 x1 : Int) (x2 : Nat) (x3 ps : ByteArray) (w : World) (h : (Ms.mk x0 x1 x2 x3).why ≠ 0) :
    Calls Try.prog 11 #[.agg #[.int .i64 x0, .int .i64 x1, .int .u32 (x2 : Nat), .string x3], .string ps] w fun e w' => ∃ x, e = .returned (.tuple #[.string ⟨#[]⟩, x]) ∧ ErrV w.heap.size (Ms.mk x0 x1 x2 x3).why x w' ∧ Below w.heap.size w w' := by
  rw [why_byte] at h
  rw [why_byte]
  have HA := Lib.hid (fun W => isByte_any x0 W)
  have HB := Lib.hid (fun W => isByte_any x1 W)
  generalize byteB x0 = p0 at *
  generalize byteB x1 = p1 at *
  have HD0 := Lib.hid (DS.new w x0 x1 x2 x3)
  go_enter Try.func11, Try.ntmps11
  go_upto_region 1 with (fail)
  generalize w.alloc (.cells #[.int .i64 x0, .int .i64 x1, .int .u32 (x2 : Nat), .string x3] 26) = w1 at *
  have c0 := HD0.out.2.2.1
  have c1 := HD0.out.2.2.2.1
  cases p0
  · clear h
    go_wp2_with fail
    refine (HA.out _).mono ?_
    rintro e w1b ⟨rfl, rfl⟩
    go_wp2_with fail
    refine (fault_any 13 _).mono ?_
    rintro e w2 ⟨rfl, hw2⟩
    have HE := Lib.hid (show ErrV w.heap.size 13 _ w2 from hw2 ▸ err_new 13 (by decide) HD0.out.2.1)
    have HBl := Lib.hid (show Below w.heap.size w w2 from hw2 ▸ HD0.out.1.alloc HD0.out.2.1 _)
    clear hw2
    go_wp2_with fail
    go_ret2
    exact ⟨_, rfl, HE.out, HBl.out⟩
  · cases p1
    · clear h
      go_wp2_with fail
      refine (HA.out _).mono ?_
      rintro e w1 ⟨rfl, rfl⟩
      go_wp2_with fail
      refine (HB.out _).mono ?_
      rintro e w1 ⟨rfl, rfl⟩
      go_wp2_with fail
      refine (fault_any 13 _).mono ?_
      rintro e w2 ⟨rfl, hw2⟩
      have HE := Lib.hid (show ErrV w.heap.size 13 _ w2 from hw2 ▸ err_new 13 (by decide) HD0.out.2.1)
      have HBl := Lib.hid (show Below w.heap.size w w2 from hw2 ▸ HD0.out.1.alloc HD0.out.2.1 _)
      clear hw2
      go_wp2_with fail
      go_ret2
      exact ⟨_, rfl, HE.out, HBl.out⟩
    · exact absurd rfl h
end Go.Proofs.Ytmfolkbmkfifcaa
