/-
  Proved here: the law SumBack answers true at every input, and leaves old memory as it was.
  Conditions: none.
-/
import Derived.Test.YtfpmkadlidbboaaUpd
namespace Go.Proofs.Ytfpmkadlidbboaa
open Go.RowKit

def lenOf : Value → Nat
  | .string o => o.size
  | _ => 0

set_option maxRecDepth 100000 in
theorem sumBack_long (r p o : ByteArray) (w : World) (h : 2000 < r.size ∨ r.size ≤ 2000 ∧ 2000 < p.size ∨ r.size ≤ 2000 ∧ p.size ≤ 2000 ∧ 2000 < o.size) :
    Calls Try.prog 9 #[.string r, .string p, .string o] w fun e w' => e = .returned (.bool true) ∧ Below w.heap.size w w' := by
  rcases h with h | ⟨h, h'⟩ | ⟨h, h', h''⟩
  all_goals
    go_enter Try.func9, Try.ntmps9
    go_wp2_with fail
    refine (awake_true w).mono ?_
    rintro e w1 ⟨rfl, b1⟩
    have hB1 := Lib.hid b1
    clear b1
    go_wp2_with fail
    go_ret
    exact ⟨rfl, hB1.out⟩

set_option maxRecDepth 100000 in
set_option maxHeartbeats 1000000 in
theorem sumBack_walk (r p0 o0 : ByteArray) (w : World) (hr : r.size ≤ 2000) (hp : p0.size ≤ 2000) (ho : o0.size ≤ 2000) :
    Calls Try.prog 9 #[.string r, .string p0, .string o0] w fun e w' => e = .returned (.bool true) ∧ Below w.heap.size w w' := by
  go_enter Try.func9, Try.ntmps9
  go_wp2_with fail
  refine (awake_true w).mono ?_
  rintro e w1 ⟨rfl, b1⟩
  have hB1 := Lib.hid b1
  clear b1
  obtain ⟨ep, zp⟩ := even_cut p0
  go_wp2_with fail
  generalize p0.extract 0 (p0.size / 2 * 2) = p at ep zp
  have EP := Lib.hid ep
  clear ep
  go_loop [2] (fun t => ∃ o : ByteArray, o.size ≤ 2000 ∧ t = .string o) (fun t => 2000 - lenOf t)
  case atStart => exact ⟨o0, ho, rfl⟩
  case round =>
    obtain ⟨o, hz, rfl⟩ := hrel
    by_cases hlt : o.size < p.size
    · go_wp2_with fail
      go_round
      case rel => exact ⟨_, by rw [ByteArray.size_append]; show o.size + 1 ≤ 2000; omega, rfl⟩
      case measure => show 2000 - (o ++ _).size < 2000 - o.size; rw [ByteArray.size_append]; show 2000 - (o.size + 1) < _; omega
    · go_wp2_with fail
      have zq : (o.extract 0 p.size).size = p.size := by rw [ByteArray.size_extract]; omega
      have eq : evn (o.extract 0 p.size).data.toList.length = true := by rw [list_len, zq, ← list_len]; exact EP.out
      generalize o.extract 0 p.size = q at zq eq
      have EQ := Lib.hid eq
      have zq' : q.size ≤ p.size := by omega
      clear eq zq hz hlt
      refine (of2 _ _ _ (by omega)).mono ?_
      rintro e w2 ⟨rfl, b2⟩
      have hB2 := Lib.hid (hB1.out.trans (b2.mono hB1.out.size))
      clear b2
      have hX := sumL_le (allOf [p, r])
      go_wp2_with fail
      refine (update_any _ _ _ _ (by omega) (by omega)).mono ?_
      rintro e w3 ⟨rfl, b3⟩
      have hB3 := Lib.hid (hB2.out.trans (b3.mono hB2.out.size))
      clear b3
      cases hd : cleanB (allOf [q, r])
      · have HD := Lib.hid hd
        clear hd
        rw [upd_back EP.out EQ.out HD.out]
        have hY := sumL_le (allOf [q, r])
        go_wp2_with fail
        refine (update_any _ _ _ _ (by omega) (by omega)).mono ?_
        rintro e w4 ⟨rfl, b4⟩
        have hB4 := Lib.hid (hB3.out.trans (b4.mono hB3.out.size))
        clear b4
        cases hc : cleanB (allOf [p, r])
        · have HC := Lib.hid hc
          clear hc
          rw [upd_back EQ.out EP.out HC.out]
          have zpr : (p ++ r).size = p.size + r.size := ByteArray.size_append
          have zqr : (q ++ r).size = q.size + r.size := ByteArray.size_append
          go_wp2_with fail
          refine (clean_any _ _ (by omega)).mono ?_
          rintro e w5 ⟨rfl, rfl⟩
          rw [cat2_list, HC.out]
          go_wp2_with fail
          refine (clean_any _ _ (by omega)).mono ?_
          rintro e w5 ⟨rfl, rfl⟩
          rw [cat2_list, HD.out]
          go_wp2_with fail
          refine (of2 _ _ _ (by omega)).mono ?_
          rintro e w6 ⟨rfl, b6⟩
          have hB6 := Lib.hid (hB4.out.trans (b6.mono hB4.out.size))
          clear b6
          go_wp2_with fail
          go_ret
          exact ⟨rfl, hB6.out⟩
        · have HC := Lib.hid hc
          clear hc
          have zpr : (p ++ r).size = p.size + r.size := ByteArray.size_append
          have hU := upd_le (sumL (allOf [q, r]) : Nat) q.data.toList p.data.toList
          go_wp2_with fail
          refine (clean_any _ _ (by omega)).mono ?_
          rintro e w5 ⟨rfl, rfl⟩
          rw [cat2_list, HC.out]
          go_wp2_with fail
          go_ret
          exact ⟨rfl, hB4.out⟩
      · have HD := Lib.hid hd
        clear hd
        have hU := upd_le (sumL (allOf [p, r]) : Nat) p.data.toList q.data.toList
        go_wp2_with fail
        refine (update_any _ _ _ _ (by omega) (by omega)).mono ?_
        rintro e w4 ⟨rfl, b4⟩
        have hB4 := Lib.hid (hB3.out.trans (b4.mono hB3.out.size))
        clear b4
        have zpr : (p ++ r).size = p.size + r.size := ByteArray.size_append
        have zqr : (q ++ r).size = q.size + r.size := ByteArray.size_append
        cases hc : cleanB (allOf [p, r])
        · have HC := Lib.hid hc
          clear hc
          go_wp2_with fail
          refine (clean_any _ _ (by omega)).mono ?_
          rintro e w5 ⟨rfl, rfl⟩
          rw [cat2_list, HC.out]
          go_wp2_with fail
          refine (clean_any _ _ (by omega)).mono ?_
          rintro e w5 ⟨rfl, rfl⟩
          rw [cat2_list, HD.out]
          go_wp2_with fail
          go_ret
          exact ⟨rfl, hB4.out⟩
        · have HC := Lib.hid hc
          clear hc
          go_wp2_with fail
          refine (clean_any _ _ (by omega)).mono ?_
          rintro e w5 ⟨rfl, rfl⟩
          rw [cat2_list, HC.out]
          go_wp2_with fail
          go_ret
          exact ⟨rfl, hB4.out⟩

theorem sumBack_any (r p o : ByteArray) (w : World) :
    Calls Try.prog 9 #[.string r, .string p, .string o] w fun e w' => e = .returned (.bool true) ∧ Below w.heap.size w w' := by
  by_cases h : r.size ≤ 2000 ∧ p.size ≤ 2000 ∧ o.size ≤ 2000
  · exact sumBack_walk r p o w h.1 h.2.1 h.2.2
  · exact sumBack_long r p o w (by omega)
end Go.Proofs.Ytfpmkadlidbboaa
