/-
  Proved here: what the document's Check answers.
  Conditions: texts of at most 70000 bytes, pseudo heads of at most 1000.
-/
import Derived.Test.YtljlonligbheaaaRefParse
namespace Go.Proofs.Ytljlonligbheaaa
open Go.RowKit

/-- The code of a text and its pseudo head. -/
def kcode (s ps : ByteArray) : Int := if tcode s ≠ 0 then tcode s else if sumL (ps ++ s).data.toList ≠ 0 then 9 else 0
theorem dcat_len (a b : ByteArray) : (a ++ b).size = a.size + b.size := ByteArray.size_append
set_option maxRecDepth 100000 in
theorem rcheck_any (s ps : ByteArray) (w : World) (hs : s.size ≤ 70000) (hp : ps.size ≤ 1000) :
    Calls Try.prog 17 #[.string s, .string ps] w fun e w' => e = .returned (.int .i64 (kcode s ps)) ∧ Below w.heap.size w w' := by
  have HP : Hid (∀ W, Calls Try.prog 15 #[.string s] W fun e w' => e = .returned (.tuple #[.agg #[.int .i64 (tans s).fr, .int .i64 (tans s).dst, .int .i64 (tans s).fl, .string (tans s).raw], .int .i64 (tcode s)]) ∧ Below W.heap.size W w') := Lib.hid (fun W => rparse_any s W hs)
  have HO : Hid (∀ W, Calls Try.prog 35 #[.string (ps ++ s)] W fun e w' => e = .returned (.int .i64 (sumL (ps ++ s).data.toList : Nat)) ∧ Below W.heap.size W w') := Lib.hid (fun W => rof_any _ W (by rw [dcat_len]; omega))
  have HC := Lib.hid (show kcode s ps = if tcode s ≠ 0 then tcode s else if sumL (ps ++ s).data.toList ≠ 0 then 9 else 0 from rfl)
  have zo : ¬ 9223372036854775807 < ps.size + s.size := by omega
  have zc := dcat_len
  generalize kcode s ps = C at *
  generalize sumL (ps ++ s).data.toList = n at *
  generalize tcode s = c at *
  generalize (tans s).fr = x0 at *
  generalize (tans s).dst = x1 at *
  generalize (tans s).fl = x2 at *
  generalize (tans s).raw = x3 at *
  clear hs hp
  go_enter Try.func17, Try.ntmps17
  go_wp2_with fail
  refine (HP.out _).mono ?_
  rintro e w1 ⟨rfl, b1⟩
  have HB := Lib.hid b1
  have HS := Lib.hid b1.size
  clear b1
  by_cases hc : c = 0
  · have m1 : (c != 0) = false := by rw [hc]; rfl
    have HT := Lib.hid (fun h : n ≠ 0 => show C = 9 by rw [HC.out, if_neg (fun h => h hc), if_pos h])
    have HT0 := Lib.hid (fun h : n = 0 => show C = 0 by rw [HC.out, if_neg (fun h => h hc), if_neg (fun h2 => h2 h)])
    clear hc
    go_wp2_with fail
    refine (HO.out _).mono ?_
    rintro e w2 ⟨rfl, b2⟩
    have HB2 := Lib.hid ((HB.out.alloc HS.out _).trans (b2.mono (by have := HS.out; simp; omega)))
    clear b2 HB
    by_cases hn : n = 0
    · have m3 : (((n : Nat) : Int) != 0) = false := by rw [hn]; rfl
      have HT1 := Lib.hid (HT0.out hn)
      clear hn
      go_wp2_with fail
      go_ret
      exact ⟨by rw [HT1.out]; rfl, HB2.out⟩
    · have m3 : (((n : Nat) : Int) != 0) = true := by rw [bne_iff_ne]; omega
      have HT1 := Lib.hid (HT.out hn)
      clear hn
      go_wp2_with fail
      go_ret
      exact ⟨by rw [HT1.out]; rfl, HB2.out⟩
  · have m1 : (c != 0) = true := by rw [bne_iff_ne]; exact hc
    have HT : Hid (C = c) := Lib.hid (by rw [HC.out, if_pos hc])
    clear hc
    go_wp2_with fail
    go_ret
    exact ⟨by rw [HT.out]; rfl, HB.out.alloc HS.out _⟩
end Go.Proofs.Ytljlonligbheaaa
