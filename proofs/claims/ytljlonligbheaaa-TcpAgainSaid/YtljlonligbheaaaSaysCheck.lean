/-
  Proved here: what tcp.Check answers.
  Conditions: texts of at most 70000 bytes, pseudo heads of at most 1000.
-/
import Derived.Test.YtljlonligbheaaaSaysParse
namespace Go.Proofs.Ytljlonligbheaaa
open Go.RowKit

theorem kcode_right (s ps : ByteArray) : kcode s ps = if tcode s ≠ 0 then tcode s else if rightB (ps ++ s).data.toList = true then 0 else 9 := by
  unfold kcode
  generalize (ps ++ s).data.toList = l
  by_cases h : sumL l = 0
  · simp [h, (rightB_iff l).2 h]
  · have h2 : rightB l = false := by
      cases hr : rightB l
      · rfl
      · exact absurd ((rightB_iff l).1 hr) h
    simp [h, h2]
theorem right_two (ps s : ByteArray) (w : World) (h : ps.size + s.size ≤ 1099511627776) :
    Calls Try.prog 34 #[.slice (some ⟨w.heap.size, 0, none⟩) 2 2] (w.alloc (.cells #[.string ps, .string s] 9)) fun e w' => e = .returned (.bool (rightB (ps ++ s).data.toList)) ∧ Below w.heap.size w w' := by
  have := right2 w ps s h
  rwa [show allOf [ps, s] = (ps ++ s).data.toList by simp [allOf]] at this
set_option maxRecDepth 100000 in
theorem check_any (s ps : ByteArray) (w : World) (hs : s.size ≤ 70000) (hp : ps.size ≤ 1000) :
    Calls Try.prog 16 #[.string s, .string ps] w fun e w' => ∃ x, e = .returned x ∧ ErrV w.heap.size (kcode s ps) x w' ∧ Below w.heap.size w w' := by
  have HP := Lib.hid (fun W => reft_any s W hs)
  have HO := Lib.hid (fun W => right_two ps s W (by omega))
  have HC := Lib.hid (kcode_right s ps)
  generalize kcode s ps = C at *
  generalize rightB (ps ++ s).data.toList = rb at *
  generalize tcode s = c at *
  clear hs hp
  by_cases hc : c = 0
  · have m : (c != 0) = false := by rw [hc]; rfl
    have HT := Lib.hid (fun h : rb = false => show C = 9 by rw [HC.out, if_neg (fun h => h hc), if_neg (by rw [h]; decide)])
    have HT0 := Lib.hid (fun h : rb = true => show C = 0 by rw [HC.out, if_neg (fun h => h hc), if_pos h])
    clear hc HC
    go_enter Try.func16, Try.ntmps16
    go_wp2_with fail
    refine (HP.out _).mono ?_
    rintro e w1 ⟨rfl, rfl⟩
    go_wp2_with fail
    refine (HO.out _).mono ?_
    rintro e w3 ⟨rfl, b3⟩
    have HB3 := Lib.hid b3
    clear b3
    cases rb
    · have HT1 := Lib.hid (HT.out rfl)
      go_wp2_with fail
      refine (fault_any 9 _).mono ?_
      rintro e w4 ⟨rfl, hw4⟩
      have HE4 : Hid (ErrV w.heap.size C (.iface 67 (.pointer (some ⟨w3.heap.size, 0, none⟩))) w4) := Lib.hid (by rw [HT1.out, hw4]; exact err_new 9 (by decide) HB3.out.size)
      have HB4 := Lib.hid (show Below w.heap.size w w4 from hw4 ▸ HB3.out.alloc HB3.out.size _)
      clear hw4
      go_wp2_with fail
      go_ret
      exact ⟨_, rfl, HE4.out, HB4.out⟩
    · have HT1 := Lib.hid (HT0.out rfl)
      go_wp2_with fail
      go_ret
      exact ⟨_, rfl, .inl ⟨HT1.out, rfl⟩, HB3.out⟩
  · have m : (c != 0) = true := by rw [bne_iff_ne]; exact hc
    have HT : Hid (C = c) := Lib.hid (by rw [HC.out, if_pos hc])
    have HN := Lib.hid hc
    clear hc HC
    go_enter Try.func16, Try.ntmps16
    go_wp2_with fail
    refine (HP.out _).mono ?_
    rintro e w1 ⟨rfl, rfl⟩
    go_wp2_with fail
    refine (fault_any c _).mono ?_
    rintro e w4 ⟨rfl, hw4⟩
    have HE4 : Hid (ErrV w.heap.size C (.iface 67 (.pointer (some ⟨w.heap.size, 0, none⟩))) w4) := Lib.hid (by rw [HT.out, hw4]; exact err_new c HN.out (Nat.le_refl _))
    have HB4 := Lib.hid (show Below w.heap.size w w4 from hw4 ▸ (Below.refl _ _).alloc (Nat.le_refl _) _)
    clear hw4
    go_wp2_with fail
    go_ret
    exact ⟨_, rfl, HE4.out, HB4.out⟩
end Go.Proofs.Ytljlonligbheaaa
