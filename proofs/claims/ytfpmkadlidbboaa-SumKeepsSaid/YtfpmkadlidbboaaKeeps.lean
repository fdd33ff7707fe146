/-
  Proved here: the law SumKeeps answers true at every input, and leaves old memory as it was.
  Conditions: none.
-/
import Derived.Test.YtfpmkadlidbboaaBack
namespace Go.Proofs.Ytfpmkadlidbboaa
open Go.RowKit

set_option maxRecDepth 100000 in
set_option maxHeartbeats 1000000 in
theorem sumKeeps_long (a b p h o : ByteArray) (w : World) (hx : 2000 < a.size ∨ a.size ≤ 2000 ∧ 2000 < b.size ∨ a.size ≤ 2000 ∧ b.size ≤ 2000 ∧ 2000 < p.size ∨ a.size ≤ 2000 ∧ b.size ≤ 2000 ∧ p.size ≤ 2000 ∧ 2000 < h.size ∨ a.size ≤ 2000 ∧ b.size ≤ 2000 ∧ p.size ≤ 2000 ∧ h.size ≤ 2000 ∧ 2000 < o.size) :
    Calls Try.prog 7 #[.string a, .string b, .string p, .string h, .string o] w fun e w' => e = .returned (.bool true) ∧ Below w.heap.size w w' := by
  rcases hx with h1 | ⟨h1, h2⟩ | ⟨h1, h2, h3⟩ | ⟨h1, h2, h3, h4⟩ | ⟨h1, h2, h3, h4, h5⟩
  all_goals
    go_enter Try.func7, Try.ntmps7
    go_wp2_with fail
    refine (awake_true w).mono ?_
    rintro e w1 ⟨rfl, b1⟩
    have hB1 := Lib.hid b1
    clear b1
    go_wp2_with fail
    go_ret
    exact ⟨rfl, hB1.out⟩

set_option maxRecDepth 100000 in
set_option maxHeartbeats 2000000 in
theorem sumKeeps_walk (a0 b0 p0 h o0 : ByteArray) (w : World) (h1 : a0.size ≤ 2000) (h2 : b0.size ≤ 2000) (h3 : p0.size ≤ 2000) (h4 : h.size ≤ 2000) (h5 : o0.size ≤ 2000) :
    Calls Try.prog 7 #[.string a0, .string b0, .string p0, .string h, .string o0] w fun e w' => e = .returned (.bool true) ∧ Below w.heap.size w w' := by
  go_enter Try.func7, Try.ntmps7
  go_wp2_with fail
  refine (awake_true w).mono ?_
  rintro e w1 ⟨rfl, b1⟩
  have hB1 := Lib.hid b1
  clear b1
  obtain ⟨ea, za⟩ := even_cut a0
  obtain ⟨eb, zb⟩ := even_cut b0
  obtain ⟨ep, zp⟩ := even_cut p0
  go_wp2_with fail
  generalize a0.extract 0 (a0.size / 2 * 2) = a at ea za
  generalize b0.extract 0 (b0.size / 2 * 2) = b at eb zb
  generalize p0.extract 0 (p0.size / 2 * 2) = p at ep zp
  have EA := Lib.hid ea
  have EB := Lib.hid eb
  have EP := Lib.hid ep
  clear ea eb ep
  go_loop [4] (fun t => ∃ o : ByteArray, o.size ≤ 2000 ∧ t = .string o) (fun t => 2000 - lenOf t)
  case atStart => exact ⟨o0, h5, rfl⟩
  case round =>
    obtain ⟨o, hz, rfl⟩ := hrel
    by_cases hlt : o.size < p.size
    · go_wp2_with fail
      go_round
      case rel => exact ⟨_, by rw [ByteArray.size_append]; show o.size + 1 ≤ 2000; omega, rfl⟩
      case measure => show 2000 - (o ++ _).size < 2000 - o.size; rw [ByteArray.size_append]; show 2000 - (o.size + 1) < _; omega
    · go_wp2_with fail
      have zq : (o.extract 0 p.size).size = p.size := by rw [ByteArray.size_extract]; omega
      have eq : evn (o.extract 0 p.size).data.toList.length = true := by rw [list_len, zq, ← list_len]; exact EP.out
      generalize o.extract 0 p.size = q at zq eq
      have EQ := Lib.hid eq
      have zq' : q.size ≤ p.size := by omega
      clear eq zq hz hlt
      refine (of4 _ _ _ _ _ (by omega)).mono ?_
      rintro e w2 ⟨rfl, b2⟩
      have hB2 := Lib.hid (hB1.out.trans (b2.mono hB1.out.size))
      clear b2
      have hX := sumL_le (allOf [a, b, p, h])
      have zs := twoB_size (sumL (allOf [a, b, p, h]))
      have zu := twoB_size (upd (sumL (allOf [a, b, p, h]) : Nat) p.data.toList q.data.toList)
      have ZS := Lib.hid zs
      have ZU := Lib.hid zu
      clear zs zu
      have y1 : (a ++ b).size = a.size + b.size := ByteArray.size_append
      have y2 : (a ++ b ++ p).size = a.size + b.size + p.size := by rw [ByteArray.size_append, y1]
      have y3 : (a ++ b ++ q).size = a.size + b.size + q.size := by rw [ByteArray.size_append, y1]
      have y4 : (a ++ b ++ p ++ h).size = a.size + b.size + p.size + h.size := by rw [ByteArray.size_append, y2]
      have y5 : (a ++ b ++ q ++ h).size = a.size + b.size + q.size + h.size := by rw [ByteArray.size_append, y3]
      go_wp2_with fail
      refine (clean_any _ _ (by omega)).mono ?_
      rintro e w3 ⟨rfl, rfl⟩
      rw [cat4_list]
      have hU := upd_le (sumL (allOf [a, b, p, h]) : Nat) p.data.toList q.data.toList
      cases hc : cleanB (allOf [a, b, p, h])
      · have HC := Lib.hid hc
        clear hc
        go_wp2_with fail
        refine (two_any _ _ (by omega)).mono ?_
        rintro e w4 ⟨rfl, b4⟩
        have hB4 := Lib.hid (hB2.out.trans (b4.mono hB2.out.size))
        clear b4
        go_wp2_with fail
        refine (right5 _ _ _ _ _ _ (by rw [ZS.out]; omega)).mono ?_
        rintro e w5 ⟨rfl, b5⟩
        have hB5 := Lib.hid (hB4.out.trans (b5.mono hB4.out.size))
        clear b5
        rw [keep_right EA.out EB.out EP.out HC.out]
        go_wp2_with fail
        refine (update_any _ _ _ _ (by omega) (by omega)).mono ?_
        rintro e w6 ⟨rfl, b6⟩
        have hB6 := Lib.hid (hB5.out.trans (b6.mono hB5.out.size))
        clear b6
        go_wp2_with fail
        refine (clean_any _ _ (by omega)).mono ?_
        rintro e w7 ⟨rfl, rfl⟩
        rw [cat4_list]
        cases hd : cleanB (allOf [a, b, q, h])
        · have HD := Lib.hid hd
          clear hd
          go_wp2_with fail
          refine (two_any _ _ (by omega)).mono ?_
          rintro e w8 ⟨rfl, b8⟩
          have hB8 := Lib.hid (hB6.out.trans (b8.mono hB6.out.size))
          clear b8
          go_wp2_with fail
          refine (right5 _ _ _ _ _ _ (by rw [ZU.out]; omega)).mono ?_
          rintro e w9 ⟨rfl, b9⟩
          have hB9 := Lib.hid (hB8.out.trans (b9.mono hB8.out.size))
          clear b9
          rw [keep_upd EA.out EB.out EP.out EQ.out HD.out]
          go_wp2_with fail
          go_ret
          exact ⟨rfl, hB9.out⟩
        · clear hd
          go_wp2_with fail
          go_ret
          exact ⟨rfl, hB6.out⟩
      · clear hc
        go_wp2_with fail
        refine (update_any _ _ _ _ (by omega) (by omega)).mono ?_
        rintro e w6 ⟨rfl, b6⟩
        have hB6 := Lib.hid (hB2.out.trans (b6.mono hB2.out.size))
        clear b6
        go_wp2_with fail
        refine (clean_any _ _ (by omega)).mono ?_
        rintro e w7 ⟨rfl, rfl⟩
        rw [cat4_list]
        cases hd : cleanB (allOf [a, b, q, h])
        · have HD := Lib.hid hd
          clear hd
          go_wp2_with fail
          refine (two_any _ _ (by omega)).mono ?_
          rintro e w8 ⟨rfl, b8⟩
          have hB8 := Lib.hid (hB6.out.trans (b8.mono hB6.out.size))
          clear b8
          go_wp2_with fail
          refine (right5 _ _ _ _ _ _ (by rw [ZU.out]; omega)).mono ?_
          rintro e w9 ⟨rfl, b9⟩
          have hB9 := Lib.hid (hB8.out.trans (b9.mono hB8.out.size))
          clear b9
          rw [keep_upd EA.out EB.out EP.out EQ.out HD.out]
          go_wp2_with fail
          go_ret
          exact ⟨rfl, hB9.out⟩
        · clear hd
          go_wp2_with fail
          go_ret
          exact ⟨rfl, hB6.out⟩

theorem sumKeeps_any (a b p h o : ByteArray) (w : World) :
    Calls Try.prog 7 #[.string a, .string b, .string p, .string h, .string o] w fun e w' => e = .returned (.bool true) ∧ Below w.heap.size w w' := by
  by_cases hx : a.size ≤ 2000 ∧ b.size ≤ 2000 ∧ p.size ≤ 2000 ∧ h.size ≤ 2000 ∧ o.size ≤ 2000
  · exact sumKeeps_walk a b p h o w hx.1 hx.2.1 hx.2.2.1 hx.2.2.2.1 hx.2.2.2.2
  · exact sumKeeps_long a b p h o w (by omega)
end Go.Proofs.Ytfpmkadlidbboaa
