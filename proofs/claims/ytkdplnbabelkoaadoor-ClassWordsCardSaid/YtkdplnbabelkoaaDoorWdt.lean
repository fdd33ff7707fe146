/-
  Proved here: plain facts on the two texts that the law ClassWords makes of an address's words.
  Conditions: as each fact says.
-/
import Derived.Test.YtkdplnbabelkoaaDoorWd
import Derived.Test.YtkdplnbabelkoaaDoorRtb
import Derived.Test.YtkdplnbabelkoaaDoorSixp
namespace Go.Proofs.YtkdplnbabelkoaaDoor
open Go.RowKit

theorem bl_app (a b : ByteArray) : bl (a ++ b) = bl a ++ bl b := by
  show (a ++ b).data.toList = _
  rw [ByteArray.data_append, Array.toList_append]
  rfl
/-- The short text when i words are done: the run is from a to b. -/
def shT (W : List (List UInt8)) (a b i : Nat) : List UInt8 := if b = a ∨ i ≤ a then jn [58] (W.take i) else if i ≤ b then jn [58] (W.take a) else jn [58] (W.take a) ++ [58, 58] ++ jn [58] ((W.take i).drop b)
section
variable {W : List (List UInt8)} {a b i : Nat}
theorem take_up (h : i < W.length) : W.take (i + 1) = W.take i ++ [W[i]] := List.take_succ_eq_append_getElem h
theorem long_one (h : 0 < W.length) : jn [58] (W.take (0 + 1)) = W[0] := by rw [take_up h, List.take_zero, List.nil_append, jn_one]
theorem take_ne (h0 : 0 < i) (h : i ≤ W.length) : W.take i ≠ [] := fun e => by
  have := congrArg List.length e
  rw [List.length_take] at this
  have h2 : min i W.length = 0 := this
  omega
theorem long_up (h0 : 0 < i) (h : i < W.length) : jn [58] (W.take (i + 1)) = jn [58] (W.take i) ++ [58] ++ W[i] := by rw [take_up h, jn_snoc _ _ (take_ne h0 (by omega))]
theorem sh_skip (h1 : a ≤ i) (h2 : i < b) : shT W a b (i + 1) = shT W a b i := by
  unfold shT
  rw [if_neg (by omega), if_pos (by omega)]
  by_cases h : i ≤ a
  · rw [if_pos (.inr h), show i = a by omega]
  · rw [if_neg (by omega), if_pos (by omega)]
theorem sh_plain (h : i < a ∨ b = a) : shT W a b (i + 1) = jn [58] (W.take (i + 1)) ∧ shT W a b i = jn [58] (W.take i) := by
  unfold shT
  rw [if_pos (by omega), if_pos (by omega)]
  exact ⟨rfl, rfl⟩
theorem sh_at (h : a < b) (hb : b < W.length) : shT W a b b = jn [58] (W.take a) ∧ shT W a b (b + 1) = jn [58] (W.take a) ++ [58, 58] ++ W[b] := by
  unfold shT
  rw [if_neg (by omega), if_pos (Nat.le_refl _), if_neg (by omega), if_neg (by omega)]
  refine ⟨rfl, ?_⟩
  rw [take_up hb, List.drop_append_of_le_length (by rw [List.length_take]; omega), List.drop_of_length_le (by rw [List.length_take]; omega), List.nil_append, jn_one]
theorem sh_on (h : a < b) (hi : b < i) (hl : i < W.length) : (∃ Z, shT W a b i = Z ++ jn [58] ((W.take i).drop b)) ∧ (W.take i).drop b ≠ [] ∧ shT W a b (i + 1) = shT W a b i ++ [58] ++ W[i] := by
  have hne : (W.take i).drop b ≠ [] := fun e => by
    have := congrArg List.length e
    rw [List.length_drop, List.length_take] at this
    simp at this
    omega
  refine ⟨?_, hne, ?_⟩
  · unfold shT
    rw [if_neg (by omega), if_neg (by omega)]
    exact ⟨_, rfl⟩
  · unfold shT
    rw [if_neg (by omega), if_neg (by omega), if_neg (by omega), if_neg (by omega), take_up hl, List.drop_append_of_le_length (by rw [List.length_take]; omega), jn_snoc _ _ hne]
    simp
/-- The last sign of the short text, where it has one, is no colon. -/
theorem sh_last (hW : ∀ p ∈ W, hok p = true) (hl : i < W.length) (h : (0 < i ∧ (i < a ∨ b = a)) ∨ (a < b ∧ i = b ∧ 0 < a) ∨ (a < b ∧ b < i)) : ∃ l c, shT W a b i = l ++ [c] ∧ c ≠ 58 := by
  have hk : ∀ n, ∀ p ∈ W.take n, hok p = true := fun n p hp => hW p (List.mem_of_mem_take hp)
  rcases h with ⟨h0, h⟩ | ⟨h1, rfl, h2⟩ | ⟨h1, h2⟩
  · rw [(sh_plain h).2]
    exact jn_last _ (take_ne h0 (by omega)) (hk _)
  · rw [(sh_at h1 hl).1]
    exact jn_last _ (take_ne h2 (by omega)) (hk _)
  · obtain ⟨⟨Z, hZ⟩, hne, _⟩ := sh_on h1 h2 hl
    obtain ⟨l, c, e, hc⟩ := jn_last _ hne (fun p hp => hk i p (List.mem_of_mem_drop hp))
    rw [hZ, e]
    exact ⟨Z ++ l, c, by simp, hc⟩
end
/-- All words, and all but the run's, are read as the address. -/
theorem six_words (x : List UInt8) (hx : x.length = 16) (f g : Nat → Bool) : six (jn [58] ((wds x f g).take 8)) = some (x.map fun c => (c.toNat : Int)) := by
  rw [List.take_of_length_le (by rw [wds_len]; exact Nat.le_refl _)]
  exact six_full x hx _ (wds_len x f g) (wds_no x f g) (wds_hok x f g) (wds_val x f g)
theorem six_short (x : List UInt8) (hx : x.length = 16) (f g : Nat → Bool) (a b : Nat) (hb : b < 8) (hab : a ≤ b) (hz : ∀ j, a ≤ j → j < b → grpN x j = 0) : six (shT (wds x f g) a b 8) = some (x.map fun c => (c.toNat : Int)) := by
  unfold shT
  by_cases h : b = a
  · rw [if_pos (.inl h)]; exact six_words x hx f g
  · rw [if_neg (by omega), if_neg (by omega), show (wds x f g).take 8 = wds x f g from List.take_of_length_le (by rw [wds_len]; exact Nat.le_refl _)]
    have := six_run x hx _ (wds_len x f g) (wds_no x f g) (wds_hok x f g) (wds_val x f g) a (b - a) (by omega) (by omega) (fun j h1 h2 => hz j h1 (by omega))
    rwa [show a + (b - a) = b by omega] at this
theorem six_end (x : List UInt8) (hx : x.length = 16) (f g : Nat → Bool) (a : Nat) (ha : a < 8) (hz : ∀ j, a ≤ j → j < 8 → grpN x j = 0) : six (shT (wds x f g) a 8 8 ++ [58, 58]) = some (x.map fun c => (c.toNat : Int)) := by
  unfold shT
  rw [if_neg (by omega), if_pos (Nat.le_refl _)]
  have := six_run x hx _ (wds_len x f g) (wds_no x f g) (wds_hok x f g) (wds_val x f g) a (8 - a) (by omega) (by omega) (fun j h1 h2 => hz j h1 (by omega))
  rw [show a + (8 - a) = 8 by omega, List.drop_of_length_le (by rw [wds_len]; exact Nat.le_refl _)] at this
  simpa [jn] using this
theorem jn_small (ws : List (List UInt8)) (h : ∀ p ∈ ws, hok p = true) (hl : ws.length ≤ 8) : (jn [58] ws).length ≤ 39 := by
  rw [jn_sl]
  have := sl_le ws 4 (fun p hp => (hok_len p (h p hp)).2)
  omega
theorem sh_small (W : List (List UInt8)) (a b i : Nat) (h : ∀ p ∈ W, hok p = true) (hl : W.length = 8) : (shT W a b i).length ≤ 80 := by
  have hk : ∀ n, ∀ p ∈ W.take n, hok p = true := fun n p hp => h p (List.mem_of_mem_take hp)
  have ht : ∀ n, (W.take n).length ≤ 8 := fun n => by rw [List.length_take]; omega
  unfold shT
  split
  · have := jn_small _ (hk i) (ht i); omega
  · split
    · have := jn_small _ (hk a) (ht a); omega
    · have h1 := jn_small _ (hk a) (ht a)
      have h2 := jn_small ((W.take i).drop b) (fun p hp => hk i p (List.mem_of_mem_drop hp)) (by rw [List.length_drop, List.length_take]; omega)
      rw [List.length_append, List.length_append]
      simp
      omega
theorem ix_last (S : ByteArray) (l : List UInt8) (c : UInt8) (h : bl S = l ++ [c]) (W : World) : (Instr.index 9 (.string S) (.int .i64 ((S.size : Int) - 1))).run Tryd.prog W = .ok (.int .u8 (c.toNat : Int)) W := by
  have hs : S.size = l.length + 1 := by rw [← bl_len, h]; simp
  have hi : 0 ≤ (S.size : Int) - 1 ∧ (S.size : Int) - 1 < S.size := by omega
  have e := bl_at S ((S.size : Int) - 1).toNat (by omega)
  rw [h, List.getElem?_append_right (by omega), show ((S.size : Int) - 1).toNat - l.length = 0 by omega] at e
  have e2 : c = S[((S.size : Int) - 1).toNat]'(by omega) := by simpa using e
  rw [run_index_string _ _ _ _ _ Tryd.underlying9, dif_pos hi, e2]
theorem par_ok (S : ByteArray) (y : List UInt8) (h : six (bl S) = some (y.map fun c => (c.toNat : Int))) (hs : S.size < 4294967281) (w : World) (hm : ML w) : Calls Tryd.prog 13 #[.string S] w fun e w' => e = .returned (.tuple #[.agg (bu y).toArray, .bool true]) ∧ Below w.heap.size w w' := by
  have h1 := six_doc S
  rw [h] at h1
  have h2 := parse6_any S w hs hm
  rw [h1.1, h1.2, bu_of] at h2
  exact h2
end Go.Proofs.YtkdplnbabelkoaaDoor
