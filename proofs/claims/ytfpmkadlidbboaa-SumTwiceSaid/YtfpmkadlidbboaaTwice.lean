/-
  Proved here: the law SumTwice answers true at every input, and leaves old memory as it was.
  Conditions: none.
-/
import Derived.Test.YtfpmkadlidbboaaUpd
namespace Go.Proofs.Ytfpmkadlidbboaa
open Go.RowKit

theorem twice_sum {a : ByteArray} (ha : evn a.data.toList.length = true) :
    (65535 - ((sumL (allOf [a, a]) : Nat) : Int)) = (if 65535 < 2 * (65535 - ((sumL a.data.toList : Nat) : Int)) then 2 * (65535 - ((sumL a.data.toList : Nat) : Int)) - 65535 else 2 * (65535 - ((sumL a.data.toList : Nat) : Int))) := by
  have h1 := fold_le (acc true a.data.toList)
  have h2 := fold_twice (acc true a.data.toList)
  have h3 := fold_le (acc true a.data.toList + acc true a.data.toList)
  unfold sumL
  rw [all2_even a ha]
  generalize fold (acc true a.data.toList) = f at *
  generalize fold (acc true a.data.toList + acc true a.data.toList) = g at *
  by_cases hx : 65535 < 2 * f
  · rw [if_pos hx] at h2
    rw [if_pos (by omega)]
    omega
  · rw [if_neg hx] at h2
    rw [if_neg (by omega)]
    omega
/-- A text of an even length with its own sum behind it. -/
def own (a : ByteArray) : ByteArray := a ++ twoB (sumL a.data.toList)
theorem own_list (a : ByteArray) : (own a).data.toList = a.data.toList ++ (twoB (sumL a.data.toList)).data.toList := by simp [own]
theorem own_even {a : ByteArray} (ha : evn a.data.toList.length = true) : evn (own a).data.toList.length = true := by
  rw [own_list, List.length_append, evn_add, ha, twoB_len]; rfl
theorem own_size (a : ByteArray) : (own a).size = a.size + 2 := by simp [own, ByteArray.size_append, twoB_size]
theorem own_acc {a : ByteArray} (ha : evn a.data.toList.length = true) : acc true (own a).data.toList = acc true a.data.toList + sumL a.data.toList := by
  rw [own_list, acc_even _ ha, twoB_acc (sumL_le _)]
theorem own_right {a : ByteArray} (ha : evn a.data.toList.length = true) (hc : cleanB a.data.toList = false) : rightB (own a).data.toList = true := by
  have h0 := cleanB_no hc
  apply rightB_yes
  rw [own_acc ha]
  exact fold_own h0
theorem own_both {a b : ByteArray} (ha : evn a.data.toList.length = true) (hb : evn b.data.toList.length = true) (hc : cleanB a.data.toList = false) : rightB (allOf [own a, own b]) = true := by
  have h0 := cleanB_no hc
  apply rightB_yes
  rw [all2_even _ (own_even ha), own_acc ha, own_acc hb]
  exact fold_own2 h0

set_option maxRecDepth 100000 in
theorem sumTwice_long (s t : ByteArray) (w : World) (h : 3000 < s.size ∨ s.size ≤ 3000 ∧ 3000 < t.size) :
    Calls Try.prog 10 #[.string s, .string t] w fun e w' => e = .returned (.bool true) ∧ Below w.heap.size w w' := by
  rcases h with h | ⟨h, h'⟩
  all_goals
    go_enter Try.func10, Try.ntmps10
    go_wp2_with fail
    refine (awake_true w).mono ?_
    rintro e w1 ⟨rfl, b1⟩
    have hB1 := Lib.hid b1
    clear b1
    go_wp2_with fail
    go_ret
    exact ⟨rfl, hB1.out⟩

set_option maxRecDepth 100000 in
set_option maxHeartbeats 1000000 in
theorem sumTwice_walk (s t : ByteArray) (w : World) (hs : s.size ≤ 3000) (ht : t.size ≤ 3000) :
    Calls Try.prog 10 #[.string s, .string t] w fun e w' => e = .returned (.bool true) ∧ Below w.heap.size w w' := by
  go_enter Try.func10, Try.ntmps10
  go_wp2_with fail
  refine (awake_true w).mono ?_
  rintro e w1 ⟨rfl, b1⟩
  have hB1 := Lib.hid b1
  clear b1
  obtain ⟨ea, za⟩ := even_cut s
  obtain ⟨eb, zb⟩ := even_cut t
  go_wp2_with fail
  generalize s.extract 0 (s.size / 2 * 2) = a at ea za
  generalize t.extract 0 (t.size / 2 * 2) = b at eb zb
  have EA := Lib.hid ea
  have EB := Lib.hid eb
  clear ea eb
  have HT := Lib.hid (twice_sum EA.out)
  have hX := sumL_le a.data.toList
  have hXb := sumL_le b.data.toList
  refine (of1 _ _ (by omega)).mono ?_
  rintro e w2 ⟨rfl, b2⟩
  have hB2 := Lib.hid (hB1.out.trans (b2.mono hB1.out.size))
  clear b2
  have hY := sumL_le (allOf [a, a])
  by_cases hx : 65535 < 2 * (65535 - ((sumL a.data.toList : Nat) : Int))
  all_goals
    have hne : ((65535 - ((sumL (allOf [a, a]) : Nat) : Int)) != (if 65535 < 2 * (65535 - ((sumL a.data.toList : Nat) : Int)) then 2 * (65535 - ((sumL a.data.toList : Nat) : Int)) - 65535 else 2 * (65535 - ((sumL a.data.toList : Nat) : Int)))) = false := by rw [HT.out]; simp
    first | rw [if_pos hx] at hne | rw [if_neg hx] at hne
    go_wp2_with fail
    refine (of2 _ _ _ (by omega)).mono ?_
    rintro e w3 ⟨rfl, b3⟩
    have hB3 := Lib.hid (hB2.out.trans (b3.mono hB2.out.size))
    clear b3
    go_wp2_with fail
    clear hne
    refine (of1 _ _ (by omega)).mono ?_
    rintro e w4 ⟨rfl, b4⟩
    have hB4 := Lib.hid (hB3.out.trans (b4.mono hB3.out.size))
    clear b4
    go_wp2_with fail
    refine (two_any _ _ (by omega)).mono ?_
    rintro e w5 ⟨rfl, b5⟩
    have hB5 := Lib.hid (hB4.out.trans (b5.mono hB4.out.size))
    clear b5
    have z1 := twoB_size (sumL a.data.toList)
    have z2 := twoB_size (sumL b.data.toList)
    go_wp2_with fail
    refine (of1 _ _ (by omega)).mono ?_
    rintro e w6 ⟨rfl, b6⟩
    have hB6 := Lib.hid (hB5.out.trans (b6.mono hB5.out.size))
    clear b6
    go_wp2_with fail
    refine (two_any _ _ (by omega)).mono ?_
    rintro e w7 ⟨rfl, b7⟩
    have hB7 := Lib.hid (hB6.out.trans (b7.mono hB6.out.size))
    clear b7
    go_wp2_with fail
    clear z1 z2
    refine (clean_any _ _ (by omega)).mono ?_
    rintro e w8 ⟨rfl, rfl⟩
    cases hc : cleanB a.data.toList
    · have HC := Lib.hid hc
      clear hc
      go_wp2_with fail
      refine (clean_any _ _ (by omega)).mono ?_
      rintro e w8 ⟨rfl, rfl⟩
      cases hd : cleanB b.data.toList
      · have HD := Lib.hid hd
        clear hd
        have zo : (a ++ twoB (sumL a.data.toList)).size = a.size + 2 := own_size a
        have zp : (b ++ twoB (sumL b.data.toList)).size = b.size + 2 := own_size b
        have ZO := Lib.hid zo
        have ZP := Lib.hid zp
        clear zo zp
        go_wp2_with fail
        refine (right1 _ _ (by rw [ZO.out]; omega)).mono ?_
        rintro e w9 ⟨rfl, b9⟩
        have hB9 := Lib.hid (hB7.out.trans (b9.mono hB7.out.size))
        clear b9
        rw [show rightB (a ++ twoB (sumL a.data.toList)).data.toList = true from own_right EA.out HC.out]
        go_wp2_with fail
        refine (right1 _ _ (by rw [ZP.out]; omega)).mono ?_
        rintro e w10 ⟨rfl, b10⟩
        have hB10 := Lib.hid (hB9.out.trans (b10.mono hB9.out.size))
        clear b10
        rw [show rightB (b ++ twoB (sumL b.data.toList)).data.toList = true from own_right EB.out HD.out]
        go_wp2_with fail
        refine (right2 _ _ _ (by rw [ZO.out, ZP.out]; omega)).mono ?_
        rintro e w11 ⟨rfl, b11⟩
        have hB11 := Lib.hid (hB10.out.trans (b11.mono hB10.out.size))
        clear b11
        rw [show rightB (allOf [a ++ twoB (sumL a.data.toList), b ++ twoB (sumL b.data.toList)]) = true from own_both EA.out EB.out HC.out]
        go_wp2_with fail
        refine (right2 _ _ _ (by rw [ZO.out, ZP.out]; omega)).mono ?_
        rintro e w12 ⟨rfl, b12⟩
        have hB12 := Lib.hid (hB11.out.trans (b12.mono hB11.out.size))
        clear b12
        rw [show rightB (allOf [b ++ twoB (sumL b.data.toList), a ++ twoB (sumL a.data.toList)]) = true from own_both EB.out EA.out HD.out]
        go_wp2_with fail
        go_ret
        exact ⟨rfl, hB12.out⟩
      · clear hd
        go_wp2_with fail
        go_ret
        exact ⟨rfl, hB7.out⟩
    · clear hc
      go_wp2_with fail
      go_ret
      exact ⟨rfl, hB7.out⟩

theorem sumTwice_any (s t : ByteArray) (w : World) :
    Calls Try.prog 10 #[.string s, .string t] w fun e w' => e = .returned (.bool true) ∧ Below w.heap.size w w' := by
  rcases Nat.lt_or_ge 3000 s.size with h | h
  · exact sumTwice_long s t w (.inl h)
  · rcases Nat.lt_or_ge 3000 t.size with h' | h'
    · exact sumTwice_long s t w (.inr ⟨h, h'⟩)
    · exact sumTwice_walk s t w h h'
end Go.Proofs.Ytfpmkadlidbboaa
