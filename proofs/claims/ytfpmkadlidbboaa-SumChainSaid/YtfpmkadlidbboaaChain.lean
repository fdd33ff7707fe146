/-
  Proved here: the law SumChain answers true at every input, and leaves old memory as it was.
  Conditions: none.
-/
import Derived.Test.YtfpmkadlidbboaaUpd
namespace Go.Proofs.Ytfpmkadlidbboaa
open Go.RowKit

set_option maxRecDepth 100000 in
set_option maxHeartbeats 1000000 in
theorem sumChain_long (n : Int) (a b c : ByteArray) (w : World) (h : 2000 < a.size ∨ a.size ≤ 2000 ∧ 2000 < b.size ∨ a.size ≤ 2000 ∧ b.size ≤ 2000 ∧ 2000 < c.size ∨ a.size ≤ 2000 ∧ b.size ≤ 2000 ∧ c.size ≤ 2000 ∧ (n == 65535) = true) :
    Calls Try.prog 11 #[.int .u16 n, .string a, .string b, .string c] w fun e w' => e = .returned (.bool true) ∧ Below w.heap.size w w' := by
  rcases h with h1 | ⟨h1, h2⟩ | ⟨h1, h2, h3⟩ | ⟨h1, h2, h3, h4⟩
  all_goals
    go_enter Try.func11, Try.ntmps11
    go_wp2_with fail
    refine (awake_true w).mono ?_
    rintro e w1 ⟨rfl, b1⟩
    have hB1 := Lib.hid b1
    clear b1
    go_wp2_with fail
    go_ret
    exact ⟨rfl, hB1.out⟩

theorem zeros_even (a : ByteArray) (h : a.size % 2 = 0) : acc true (a.data.toList ++ [0, 0]) = acc true a.data.toList ∧ (a.data.toList.length + [(0 : UInt8), 0].length + 1) / 2 = (a.data.toList.length + 1) / 2 + 1 := by
  have e : evn a.data.toList.length = true := by rw [list_len]; unfold evn; rw [h]; rfl
  rw [acc_even _ e, list_len]
  refine ⟨by simp [acc], ?_⟩
  simp only [List.length_cons, List.length_nil]
  omega
theorem zeros_odd (a : ByteArray) (h : a.size % 2 = 1) : acc true (a.data.toList ++ [0, 0, 0]) = acc true a.data.toList ∧ (a.data.toList.length + [(0 : UInt8), 0, 0].length + 1) / 2 = (a.data.toList.length + 1) / 2 + 1 := by
  have e : evn a.data.toList.length = false := by rw [list_len]; unfold evn; rw [h]; rfl
  rw [acc_append, e, list_len]
  refine ⟨by simp [acc], ?_⟩
  simp only [List.length_cons, List.length_nil]
  omega
theorem cat_even (a : ByteArray) : (a ++ (⟨#[0, 0]⟩ : ByteArray)).data.toList = a.data.toList ++ [0, 0] := by simp
theorem one_zero : ((⟨#[0, 0]⟩ : ByteArray).extract 0 1).data.toList = [0] := by decide
theorem cat_odd (a : ByteArray) : (a ++ (⟨#[0, 0]⟩ : ByteArray).extract 0 1 ++ (⟨#[0, 0]⟩ : ByteArray)).data.toList = a.data.toList ++ [0, 0, 0] := by
  rw [ByteArray.data_append, ByteArray.data_append, Array.toList_append, Array.toList_append, one_zero]
  simp
theorem upd_even {n : Nat} (hn : n < 65535) (a c : ByteArray) (h : a.size % 2 = 0) : upd n (a ++ (⟨#[0, 0]⟩ : ByteArray)).data.toList c.data.toList = upd n a.data.toList c.data.toList := by
  rw [cat_even]
  exact chain_more hn _ _ _ (zeros_even a h).1 (zeros_even a h).2
theorem upd_odd {n : Nat} (hn : n < 65535) (a c : ByteArray) (h : a.size % 2 = 1) : upd n (a ++ (⟨#[0, 0]⟩ : ByteArray).extract 0 1 ++ (⟨#[0, 0]⟩ : ByteArray)).data.toList c.data.toList = upd n a.data.toList c.data.toList := by
  rw [cat_odd]
  exact chain_more hn _ _ _ (zeros_odd a h).1 (zeros_odd a h).2

set_option maxRecDepth 100000 in
set_option maxHeartbeats 2000000 in
theorem sumChain_walk (n : Nat) (a b c : ByteArray) (w : World) (hn : n < 65535) (h1 : a.size ≤ 2000) (h2 : b.size ≤ 2000) (h3 : c.size ≤ 2000) :
    Calls Try.prog 11 #[.int .u16 n, .string a, .string b, .string c] w fun e w' => e = .returned (.bool true) ∧ Below w.heap.size w w' := by
  have hne : ((n : Int) == 65535) = false := by simp; omega
  go_enter Try.func11, Try.ntmps11
  go_wp2_with fail
  refine (awake_true w).mono ?_
  rintro e w1 ⟨rfl, b1⟩
  have hB1 := Lib.hid b1
  clear b1
  go_wp2_with fail
  refine (update_any _ _ _ _ (by omega) (by omega)).mono ?_
  rintro e w2 ⟨rfl, b2⟩
  have hB2 := Lib.hid (hB1.out.trans (b2.mono hB1.out.size))
  clear b2
  have u1 := upd_le n a.data.toList b.data.toList
  go_wp2_with fail
  refine (update_any _ _ _ _ (by omega) (by omega)).mono ?_
  rintro e w3 ⟨rfl, b3⟩
  have hB3 := Lib.hid (hB2.out.trans (b3.mono hB2.out.size))
  clear b3
  rw [chain_once hn]
  have u2 := upd_le n a.data.toList c.data.toList
  go_wp2_with fail
  refine (update_any _ _ _ _ (by omega) (by omega)).mono ?_
  rintro e w4 ⟨rfl, b4⟩
  have hB4 := Lib.hid (hB3.out.trans (b4.mono hB3.out.size))
  clear b4
  go_wp2_with fail
  refine (update_any _ _ _ _ (by omega) (by omega)).mono ?_
  rintro e w5 ⟨rfl, b5⟩
  have hB5 := Lib.hid (hB4.out.trans (b5.mono hB4.out.size))
  clear b5
  rw [chain_same hn]
  rcases Nat.mod_two_eq_zero_or_one a.size with hp | hp
  · go_wp2_with fail
    refine (update_any _ _ _ _ (by rw [ByteArray.size_append]; show a.size + 2 ≤ _; omega) (by omega)).mono ?_
    rintro e w6 ⟨rfl, b6⟩
    have hB6 := Lib.hid (hB5.out.trans (b6.mono hB5.out.size))
    clear b6
    rw [upd_even hn a c hp]
    clear hp
    go_wp2_with fail
    go_ret
    exact ⟨rfl, hB6.out⟩
  · go_wp2_with fail
    refine (update_any _ _ _ _ (by rw [ByteArray.size_append, ByteArray.size_append]; show a.size + 1 + 2 ≤ _; omega) (by omega)).mono ?_
    rintro e w6 ⟨rfl, b6⟩
    have hB6 := Lib.hid (hB5.out.trans (b6.mono hB5.out.size))
    clear b6
    rw [upd_odd hn a c hp]
    clear hp
    go_wp2_with fail
    go_ret
    exact ⟨rfl, hB6.out⟩

theorem sumChain_any (n : Int) (a b c : ByteArray) (w : World) (wn : (Lit.int .u16 n).wf = true) :
    Calls Try.prog 11 #[.int .u16 n, .string a, .string b, .string c] w fun e w' => e = .returned (.bool true) ∧ Below w.heap.size w w' := by
  have hx : 0 ≤ n ∧ n ≤ 65535 := by simpa [Lit.wf, IntKind.min, IntKind.max, IntKind.signed, IntKind.bits] using wn
  by_cases h : a.size ≤ 2000 ∧ b.size ≤ 2000 ∧ c.size ≤ 2000 ∧ n < 65535
  · obtain ⟨m, rfl⟩ : ∃ m : Nat, n = m := ⟨n.toNat, by omega⟩
    exact sumChain_walk m a b c w (by omega) h.1 h.2.1 h.2.2.1
  · refine sumChain_long n a b c w ?_
    by_cases h1 : a.size ≤ 2000
    · by_cases h2 : b.size ≤ 2000
      · by_cases h3 : c.size ≤ 2000
        · exact .inr (.inr (.inr ⟨h1, h2, h3, by have : n = 65535 := by omega
                                                 subst this; rfl⟩))
        · exact .inr (.inr (.inl ⟨h1, h2, by omega⟩))
      · exact .inr (.inl ⟨h1, by omega⟩)
    · exact .inl (by omega)
end Go.Proofs.Ytfpmkadlidbboaa
