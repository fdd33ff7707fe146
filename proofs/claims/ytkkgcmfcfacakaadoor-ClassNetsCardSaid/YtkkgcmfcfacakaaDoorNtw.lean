/-
  Proved here: plain facts: a prefix's word is read as it.
  Conditions: as each fact says.
-/
import Derived.Test.YtkkgcmfcfacakaaDoorRtb
import Derived.Test.YtkkgcmfcfacakaaDoorCutx
namespace Go.Proofs.YtkkgcmfcfacakaaDoor
open Go.RowKit

theorem cutR_one (m : UInt8) (a b : List UInt8) (h : m ∉ a) : cutR [m] (a ++ m :: b) = some (a, b) := by
  induction a with
  | nil =>
    show (if ([m] : List UInt8).isPrefixOf (m :: b) = true then some ([], (m :: b).drop 1) else _) = _
    rw [if_pos (by simp)]
    rfl
  | cons c a ih =>
    have hc : c ≠ m := fun e => h (by simp [e])
    show (if ([m] : List UInt8).isPrefixOf (c :: (a ++ m :: b)) = true then _ else (cutR [m] (a ++ m :: b)).map fun q => (c :: q.1, q.2)) = _
    rw [if_neg (by simp; exact fun e => hc e.symm), ih (fun e => h (by simp [e]))]
    rfl
/-- A prefix's word is cut at its stroke. -/
theorem cut_word (s : ByteArray) (a b : List UInt8) (hs : bl s = a ++ 47 :: b) (h : (47 : UInt8) ∉ a) : bl (cutA s) = a ∧ bl (cutB s) = b := by
  have h1 := cut_R [47] s.data.toList (by decide)
  have h2 : cutR [47] s.data.toList = some (a, b) := by
    have h3 := cutR_one 47 a b h
    rw [← hs] at h3
    exact h3
  rw [h2] at h1
  dsimp only at h1
  unfold cutA cutB
  rw [h1]
  exact ⟨bl_mk _, bl_mk _⟩
theorem itoa_len2 (n : Nat) (h : n ≤ 128) : (47 : UInt8) ∉ Lib.itoa (n : Int) ∧ numb (Lib.itoa (n : Int)) 128 = (n : Int) ∧ (n ≤ 32 → numb (Lib.itoa (n : Int)) 32 = (n : Int)) := by
  have : ∀ k : Fin 129, (47 : UInt8) ∉ Lib.itoa ((k.val : Nat) : Int) ∧ numb (Lib.itoa ((k.val : Nat) : Int)) 128 = ((k.val : Nat) : Int) ∧ (k.val ≤ 32 → numb (Lib.itoa ((k.val : Nat) : Int)) 32 = ((k.val : Nat) : Int)) := by decide +kernel
  exact this ⟨n, by omega⟩
theorem len_word (b : ByteArray) (n most : Nat) (hb : bl b = Lib.itoa (n : Int)) (h47 : (47 : UInt8) ∉ Lib.itoa (n : Int)) (hn : numb (Lib.itoa (n : Int)) most = (n : Int)) : leno b most = true ∧ lenv b most = (n : Int) := by
  have h1 : (spL 47 (bl b)).length = 1 ∧ 0 ≤ numb (bl b) most := by
    rw [hb, spL_none 47 _ h47, hn]
    exact ⟨rfl, by omega⟩
  unfold leno lenv
  rw [if_pos h1, hb, hn]
  exact ⟨decide_eq_true (by rw [hb, hn] at h1; exact h1), rfl⟩
theorem txt4_stroke (x : List UInt8) : (47 : UInt8) ∉ txt4 x := fun h => by
  rcases jn_mem [46] _ 47 h with h | ⟨p, hp, hc⟩
  · exact absurd h (by decide)
  · rw [List.mem_map] at hp
    obtain ⟨c, _, rfl⟩ := hp
    exact (itoa_byte _ c.toNat_lt).2.2 hc
theorem txt6_stroke (x : List UInt8) : (47 : UInt8) ∉ txt6 x := fun h => by
  have hj : ∀ ws : List (List UInt8), (∀ p ∈ ws, p ∈ wds6 x) → (47 : UInt8) ∈ jn [58] ws → False := fun ws hs h => by
    rcases jn_mem [58] ws 47 h with h | ⟨p, hp, hcp⟩
    · exact absurd h (by decide)
    · exact wds6_no x 47 (.inr rfl) p (hs p hp) hcp
  unfold txt6 at h
  split at h
  · exact hj _ (fun p hp => hp) h
  · rcases List.mem_append.1 h with h | h
    · rcases List.mem_append.1 h with h | h
      · exact hj _ (fun p hp => List.mem_of_mem_take hp) h
      · simp at h
    · exact hj _ (fun p hp => List.mem_of_mem_drop hp) h
theorem val4u_of (x : List UInt8) (hx : x.length = 4) (s : ByteArray) (hs : bl s = txt4 x) : val4u s = x := by
  unfold val4u
  rw [(txt4_back x hx s hs).2]
  exact un_of x
theorem val6u_of (x : List UInt8) (hx : x.length = 16) (s : ByteArray) (hs : bl s = txt6 x) : val6u s = x := by
  unfold val6u
  rw [(txt6_back x hx s hs).2]
  exact un_of x
/-- A prefix's word. -/
theorem net4_word (s : ByteArray) (x : List UInt8) (n : Nat) (hx : x.length = 4) (hn : n ≤ 32) (hs : bl s = txt4 x ++ 47 :: Lib.itoa (n : Int)) : okN4 s = (Nn.mk x n).may ∧ ((Nn.mk x n).may = true → valN4 s = Nn.mk x n) := by
  obtain ⟨ha, hb⟩ := cut_word s _ _ hs (txt4_stroke x)
  have hi := itoa_len2 n (by omega)
  obtain ⟨h1, h2⟩ := len_word (cutB s) n 32 hb hi.1 (hi.2.2 hn)
  have hp : pN4 s = Nn.mk x n := by unfold pN4; rw [h2, val4u_of x hx _ ha]
  obtain ⟨h3, h4⟩ := okN4_p s
  rw [(txt4_back x hx _ ha).1, h1, hp] at h3
  rw [hp] at h4
  refine ⟨by rw [h3]; rfl, fun hm => ?_⟩
  rw [h4, if_pos (by rw [h3, hm]; rfl)]
theorem net6_word (s : ByteArray) (x : List UInt8) (n : Nat) (hx : x.length = 16) (hn : n ≤ 128) (hs : bl s = txt6 x ++ 47 :: Lib.itoa (n : Int)) : okN6 s = (Nn.mk x n).may ∧ ((Nn.mk x n).may = true → valN6 s = Nn.mk x n) := by
  obtain ⟨ha, hb⟩ := cut_word s _ _ hs (txt6_stroke x)
  have hi := itoa_len2 n hn
  obtain ⟨h1, h2⟩ := len_word (cutB s) n 128 hb hi.1 hi.2.1
  have hp : pN6 s = Nn.mk x n := by unfold pN6; rw [h2, val6u_of x hx _ ha]
  obtain ⟨h3, h4⟩ := okN6_p s
  rw [(txt6_back x hx _ ha).1, h1, hp] at h3
  rw [hp] at h4
  refine ⟨by rw [h3]; rfl, fun hm => ?_⟩
  rw [h4, if_pos (by rw [h3, hm]; rfl)]
theorem net4_long (s : ByteArray) (x : List UInt8) (hs : bl s = txt4 x ++ 47 :: [51, 51]) : okN4 s = false := by
  obtain ⟨ha, hb⟩ := cut_word s _ _ hs (txt4_stroke x)
  have h : leno (cutB s) 32 = false := by
    unfold leno
    rw [hb]
    decide
  rw [(okN4_p s).1, h]
  simp
theorem net6_long (s : ByteArray) (x : List UInt8) (hs : bl s = txt6 x ++ 47 :: [49, 50, 57]) : okN6 s = false := by
  obtain ⟨ha, hb⟩ := cut_word s _ _ hs (txt6_stroke x)
  have h : leno (cutB s) 128 = false := by
    unfold leno
    rw [hb]
    decide
  rw [(okN6_p s).1, h]
  simp
theorem cut_may (x : List UInt8) (n : Nat) (hn : n ≤ 8 * x.length) : (Nn.mk (clr x n) n).may = true := by
  unfold Nn.may
  dsimp only
  rw [clr_len, clr_less x n n (Int.le_refl _)]
  simp
  omega
theorem or_one : ∀ c : Fin 256, bits BinOp.or IntKind.u8 ((c.val : Nat) : Int) 1 = (((UInt8.ofNat (c.val ||| 1)).toNat : Nat) : Int) := by decide +kernel
theorem or_one_clr : ∀ c : Fin 256, ∀ k : Fin 8, (UInt8.ofNat (c.val ||| 1)).toNat >>> (8 - k.val) <<< (8 - k.val) ≠ (UInt8.ofNat (c.val ||| 1)).toNat := by decide +kernel
/-- With its last bit set. -/
def last1 (c : UInt8) : UInt8 := UInt8.ofNat (c.toNat ||| 1)
theorem last1_is (c : UInt8) : bits BinOp.or IntKind.u8 (c.toNat : Int) 1 = ((last1 c).toNat : Int) := or_one ⟨c.toNat, c.toNat_lt⟩
theorem last_not (x : List UInt8) (n i : Nat) (hi : i < x.length) (hn : n < 8 * (i + 1)) : (Nn.mk (x.set i (last1 (x.getD i 0))) n).may = false := by
  unfold Nn.may
  dsimp only
  have h : clr (x.set i (last1 (x.getD i 0))) n ≠ x.set i (last1 (x.getD i 0)) := by
    intro h
    have h1 := congrArg (fun l => l.getD i 0) h
    rw [clr_at _ _ _ (by rw [List.length_set]; exact hi)] at h1
    have h2 : (x.set i (last1 (x.getD i 0))).getD i 0 = last1 (x.getD i 0) := by
      rw [List.getD_eq_getElem?_getD, List.getElem?_set, if_pos rfl, if_pos hi]
      rfl
    rw [h2] at h1
    have hk : kpt (n : Int) i < 8 := by unfold kpt; omega
    have h3 := congrArg UInt8.toNat h1
    rw [clr1_nat] at h3
    exact or_one_clr ⟨(x.getD i 0).toNat, (x.getD i 0).toNat_lt⟩ ⟨_, hk⟩ h3
  rw [decide_eq_false h]
  simp
end Go.Proofs.YtkkgcmfcfacakaaDoor
