/-
  Proved here: the law SumKnown answers true, and leaves old memory as it was.
  Conditions: none.
-/
import Derived.Test.YtfpmkadlidbboaaPseudo
namespace Go.Proofs.Ytfpmkadlidbboaa
open Go.RowKit

theorem of_none (w : World) : Calls Try.prog 13 #[.slice none 0 0] w fun e w' => e = .returned (.int .i64 65535) ∧ w = w' :=
  of_any none 0 0 (fun _ => ⟨#[]⟩) w (by omega) (fun i hi => absurd hi (Nat.not_lt_zero i)) (Nat.zero_le _)
theorem right_none (w : World) : Calls Try.prog 14 #[.slice none 0 0] w fun e w' => e = .returned (.bool false) ∧ w = w' :=
  right_any none 0 0 (fun _ => ⟨#[]⟩) w (by omega) (fun i hi => absurd hi (Nat.not_lt_zero i)) (Nat.zero_le _)

set_option maxRecDepth 100000 in
set_option maxHeartbeats 1000000 in
theorem sumKnown_any (w : World) :
    Calls Try.prog 3 #[] w fun e w' => e = .returned (.bool true) ∧ Below w.heap.size w w' := by
  have HA := Lib.hid (show sumL (⟨#[1]⟩ : ByteArray).data.toList = 65279 by decide)
  have HU := Lib.hid (show upd 47843 (⟨#[0, 28]⟩ : ByteArray).data.toList (⟨#[0, 29]⟩ : ByteArray).data.toList = 47842 by decide)
  have HV := Lib.hid (show upd 65534 (⟨#[0, 1]⟩ : ByteArray).data.toList (⟨#[0, 0]⟩ : ByteArray).data.toList = 0 by decide)
  go_enter Try.func3, Try.ntmps3
  go_wp2_with fail
  refine (awake_true w).mono ?_
  rintro e w1 ⟨rfl, b1⟩
  have hB1 := Lib.hid b1
  clear b1
  go_wp2_with fail
  refine (of1 _ _ (by decide)).mono ?_
  rintro e w2 ⟨rfl, b2⟩
  have hB2 := Lib.hid (hB1.out.trans (b2.mono hB1.out.size))
  clear b2
  rw [HA.out]
  go_wp2_with fail
  refine (of_none _).mono ?_
  rintro e w3 ⟨rfl, rfl⟩
  go_wp2_with fail
  refine (right_none _).mono ?_
  rintro e w3 ⟨rfl, rfl⟩
  go_wp2_with fail
  refine (update_any _ _ _ _ (by decide) (by decide)).mono ?_
  rintro e w3 ⟨rfl, b3⟩
  have hB3 := Lib.hid (hB2.out.trans (b3.mono hB2.out.size))
  clear b3
  rw [HU.out]
  go_wp2_with fail
  refine (update_any _ _ _ _ (by decide) (by decide)).mono ?_
  rintro e w4 ⟨rfl, b4⟩
  have hB4 := Lib.hid (hB3.out.trans (b4.mono hB3.out.size))
  clear b4
  rw [HV.out]
  go_wp2_with fail
  refine (pseudo4_any _ _ _ _ _ _ _ _ _ _ _).mono ?_
  rintro e w5 ⟨rfl, b5⟩
  have hB5 := Lib.hid (hB4.out.trans (b5.mono hB4.out.size))
  clear b5
  rw [show strOfNums [10, 0, 0, 1] ++ strOfNums [10, 0, 0, 2] ++ ⟨#[0]⟩ ++ strOfNums (lowN 1 17) ++ strOfNums (lowN 2 9) = (⟨#[10, 0, 0, 1, 10, 0, 0, 2, 0, 17, 0, 9]⟩ : ByteArray) by decide]
  go_wp2_with fail
  refine (pseudo6_any _ _ _ _ _ _ _ _ _ _ _ _ _ _ _ _ _ _ _ _ _ _ _ _ _ _ _ _ _ _ _ _ _ _ _).mono ?_
  rintro e w6 ⟨rfl, b6⟩
  have hB6 := Lib.hid (hB5.out.trans (b6.mono hB5.out.size))
  clear b6
  generalize hgs : strOfNums [0, 0, 0, 0, 0, 0, 0, 0, 0, 0, 0, 0, 0, 0, 0, 0] ++ strOfNums [0, 0, 0, 0, 0, 0, 0, 0, 0, 0, 0, 0, 0, 0, 0, 0] ++ strOfNums (lowN 4 1) ++ ⟨#[0, 0, 0]⟩ ++ strOfNums (lowN 1 58) = g
  have hsz : g.size = 40 := by rw [← hgs]; decide
  clear hgs
  go_wp2_with fail
  go_ret
  exact ⟨rfl, hB6.out⟩
end Go.Proofs.Ytfpmkadlidbboaa
