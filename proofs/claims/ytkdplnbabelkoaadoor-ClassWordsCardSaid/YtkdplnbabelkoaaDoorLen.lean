/-
  Proved here: what the program's length answers.
  Conditions: none.
-/
import Derived.Test.YtkdplnbabelkoaaDoorFour
namespace Go.Proofs.YtkdplnbabelkoaaDoor
open Go.RowKit

theorem L_vals (most : Nat) : (decS 47 most 1).vals = #[.int .i32 47, .int .i64 10, .int .i64 3, .int .i64 (most : Int), .bool false, .int .i64 1] := rfl
set_option maxRecDepth 100000 in
set_option maxHeartbeats 4000000 in
theorem length_any (s : ByteArray) (most : Nat) (w : World) :
    Calls Tryd.prog 47 #[.string s, .int .i64 (most : Int)] w fun e w' => e = .returned (.tuple #[.int .i64 (lenv s most), .bool (leno s most)]) ∧ Below w.heap.size w w' := by
  have CR := Lib.hid (fun W => read_any (decS 47 most 1) s W (show (10 : Nat) ≤ 16 by omega) (show (3 : Nat) ≤ 4 by omega) (show 0 < 1 by omega) (show 1 ≤ 8 by omega) (show (47 : UInt8).toNat < 128 by decide))
  rw [L_vals, len_doc] at CR
  have HV : Hid (lenv s most = if (spL 47 (bl s)).length = 1 ∧ 0 ≤ numb (bl s) most then numb (bl s) most else 0) := Lib.hid rfl
  have HO : Hid (leno s most = decide ((spL 47 (bl s)).length = 1 ∧ 0 ≤ numb (bl s) most)) := Lib.hid rfl
  generalize lenv s most = V at *
  generalize leno s most = O at *
  go_enter Tryd.func47, Tryd.ntmps47
  go_wp2_with fail
  refine (CR.out w).mono ?_
  rintro e w2 ⟨v, ok1, rfl, hst, b2⟩
  have HB := Lib.hid b2
  clear b2 CR
  by_cases hc : (spL 47 (bl s)).length = 1 ∧ 0 ≤ numb (bl s) most
  · rw [if_pos hc] at hst
    obtain ⟨rfl, _, _, g, cap, rfl, _, hic, _⟩ := hst
    have ci := hic 0 (by simp [ints'])
    have e0 : (ints' [(numb (bl s) most).toNat]).getD 0 0 = numb (bl s) most := by
      show (((numb (bl s) most).toNat : Nat) : Int) = _
      have := hc.2
      omega
    rw [e0] at ci
    have HX1 : Hid (V = numb (bl s) most) := Lib.hid (by rw [HV.out, if_pos hc])
    have HX2 : Hid (O = true) := Lib.hid (by rw [HO.out]; exact decide_eq_true hc)
    clear HV HO hc hic e0
    generalize numb (bl s) most = x at *
    have e1 : [x.toNat].length = 1 := rfl
    rw [e1]
    go_wp2_with fail
    go_ret2
    exact ⟨by rw [HX1.out, HX2.out]; rfl, HB.out⟩
  · rw [if_neg hc] at hst
    obtain ⟨rfl, rfl⟩ := hst
    have HX1 : Hid (V = 0) := Lib.hid (by rw [HV.out, if_neg hc])
    have HX2 : Hid (O = false) := Lib.hid (by rw [HO.out]; exact decide_eq_false hc)
    clear HV HO hc
    go_wp2_with fail
    go_ret2
    exact ⟨by rw [HX1.out, HX2.out]; rfl, HB.out⟩
end Go.Proofs.YtkdplnbabelkoaaDoor
