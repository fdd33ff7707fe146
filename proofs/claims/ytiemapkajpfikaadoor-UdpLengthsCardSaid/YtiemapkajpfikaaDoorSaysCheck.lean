/-
  Proved here: what udp.Check answers.
  Conditions: texts of at most 70000 bytes, pseudo heads of at most 1000.
-/
import Derived.Test.YtiemapkajpfikaaDoorSaysRead
namespace Go.Proofs.YtiemapkajpfikaaDoor
open Go.RowKit

theorem ccode_right (s ps : ByteArray) : ccode s ps = if dcode s ≠ 0 then dcode s else if (dans s).sm = 0 then 4 else if rightB (ps ++ s).data.toList = true then 0 else 9 := by
  unfold ccode
  generalize (ps ++ s).data.toList = l
  by_cases h : sumL l = 0
  · simp [h, (rightB_iff l).2 h]
  · have h2 : rightB l = false := by
      cases hr : rightB l
      · rfl
      · exact absurd ((rightB_iff l).1 hr) h
    simp [h, h2]
theorem right_two (ps s : ByteArray) (w : World) (h : ps.size + s.size ≤ 1099511627776) :
    Calls Tryd.prog 12 #[.slice (some ⟨w.heap.size, 0, none⟩) 2 2] (w.alloc (.cells #[.string ps, .string s] 9)) fun e w' => e = .returned (.bool (rightB (ps ++ s).data.toList)) ∧ Below w.heap.size w w' := by
  have := right2 w ps s h
  rwa [show allOf [ps, s] = (ps ++ s).data.toList by simp [allOf]] at this
set_option maxRecDepth 100000 in
set_option maxHeartbeats 400000 in
theorem check_any (s ps : ByteArray) (w : World) (hs : s.size ≤ 70000) (hp : ps.size ≤ 1000) :
    Calls Tryd.prog 7 #[.string s, .string ps] w fun e w' => ∃ x, e = .returned x ∧ ErrV w.heap.size (ccode s ps) x w' ∧ Below w.heap.size w w' := by
  have HP := Lib.hid (fun W => parse_any s W hs)
  have HO := Lib.hid (fun W => right_two ps s W (by omega))
  have HC := Lib.hid (ccode_right s ps)
  generalize ccode s ps = C at *
  generalize rightB (ps ++ s).data.toList = rb at *
  generalize dcode s = c at *
  generalize (dans s).fr = x0 at *
  generalize (dans s).dst = x1 at *
  generalize (dans s).sm = x2 at *
  generalize (dans s).data = x3 at *
  clear hs hp
  go_enter Tryd.func7, Tryd.ntmps7
  go_wp2_with fail
  refine (HP.out _).mono ?_
  rintro e w1 ⟨x, rfl, he, b1⟩
  have hE := he.below ((Below.refl _ _).alloc (Nat.le_refl _) (.cells #[.int .i64 x0, .int .i64 x1, .int .i64 x2, .string x3] 24)) (Nat.le_refl _)
  have hbk : Bk (w1.alloc (.cells #[.int .i64 x0, .int .i64 x1, .int .i64 x2, .string x3] 24)) w1.heap.size 24 ([.int .i64 x0, .int .i64 x1, .int .i64 x2, .string x3] : List Value).toArray := bk_new _ _ _
  have hB2 : Below w.heap.size w (w1.alloc (.cells #[.int .i64 x0, .int .i64 x1, .int .i64 x2, .string x3] 24)) := b1.alloc b1.size _
  have c2 := hbk.at (i := 2) rfl
  have HE := Lib.hid hE
  have HB2 := Lib.hid hB2
  have HS2 := Lib.hid hB2.size
  clear he b1 hE hbk hB2 HP
  generalize hw2 : w1.alloc (.cells #[.int .i64 x0, .int .i64 x1, .int .i64 x2, .string x3] 24) = w2 at *
  go_upto_region 2 with (fail)
  clear hw2
  by_cases hc : c = 0
  · have hx : x = .nilIface := by have h := HE.out; rw [hc] at h; exact h.nil
    subst hx
    by_cases hx2 : x2 = 0
    · have m2 : (x2 == 0) = true := by rw [hx2]; rfl
      have HT : Hid (C = 4) := Lib.hid (by rw [HC.out, if_neg (fun h => h hc), if_pos hx2])
      clear hc hx2
      go_wp2_with fail
      refine (fault_any 4 _).mono ?_
      rintro e w3 ⟨rfl, hw3⟩
      have HE3 : Hid (ErrV w.heap.size C (.iface 38 (.pointer (some ⟨w2.heap.size, 0, none⟩))) w3) := Lib.hid (by rw [HT.out, hw3]; exact err_new 4 (by decide) HS2.out)
      have HB3 := Lib.hid (show Below w.heap.size w w3 from hw3 ▸ HB2.out.alloc HS2.out _)
      clear hw3
      go_wp2_with fail
      go_ret
      exact ⟨_, rfl, HE3.out, HB3.out⟩
    · have m2 : (x2 == 0) = false := by rw [beq_eq_false_iff_ne]; exact hx2
      have HT := Lib.hid (fun h : rb = false => show C = 9 by rw [HC.out, if_neg (fun h => h hc), if_neg hx2, if_neg (by rw [h]; decide)])
      have HT0 := Lib.hid (fun h : rb = true => show C = 0 by rw [HC.out, if_neg (fun h => h hc), if_neg hx2, if_pos h])
      clear hc hx2
      go_wp2_with fail
      refine (HO.out _).mono ?_
      rintro e w3 ⟨rfl, b3⟩
      have HB3 := Lib.hid (HB2.out.trans (b3.mono HS2.out))
      have HS3 := Lib.hid (Nat.le_trans HS2.out b3.size)
      clear b3 HB2 c2
      cases rb
      · have HT1 := Lib.hid (HT.out rfl)
        go_wp2_with fail
        refine (fault_any 9 _).mono ?_
        rintro e w4 ⟨rfl, hw4⟩
        have HE4 : Hid (ErrV w.heap.size C (.iface 38 (.pointer (some ⟨w3.heap.size, 0, none⟩))) w4) := Lib.hid (by rw [HT1.out, hw4]; exact err_new 9 (by decide) HS3.out)
        have HB4 := Lib.hid (show Below w.heap.size w w4 from hw4 ▸ HB3.out.alloc HS3.out _)
        clear hw4
        go_wp2_with fail
        go_ret
        exact ⟨_, rfl, HE4.out, HB4.out⟩
      · have HT1 := Lib.hid (HT0.out rfl)
        go_wp2_with fail
        go_ret
        exact ⟨_, rfl, .inl ⟨HT1.out, rfl⟩, HB3.out⟩
  · obtain ⟨f, hx, hf, hB⟩ : ∃ f, x = .iface 38 (.pointer (some ⟨f, 0, none⟩)) ∧ Flt w2 f c 0 ∧ w.heap.size ≤ f := by
      rcases HE.out with ⟨h, _⟩ | ⟨_, f, h2, h3, h4⟩
      · exact absurd h hc
      · exact ⟨f, h2, h3, h4⟩
    subst hx
    have HT : Hid (C = c) := Lib.hid (by rw [HC.out, if_pos hc])
    have HF := Lib.hid (And.intro hc (And.intro hf hB))
    clear hc hf hB
    go_wp2_with fail
    go_ret
    exact ⟨_, rfl, by rw [HT.out]; exact HE.out, HB2.out⟩
end Go.Proofs.YtiemapkajpfikaaDoor
