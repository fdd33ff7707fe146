/-
  Proved here: plain facts on the ways to write a group: noughts ahead, great letters.
  Conditions: none.
-/
import Derived.Test.YtkdplnbabelkoaaDoorRt
namespace Go.Proofs.YtkdplnbabelkoaaDoor
open Go.RowKit

/-- A sign's great letter. -/
def up (c : UInt8) : UInt8 := if 97 ≤ c.toNat ∧ c.toNat ≤ 102 then UInt8.ofNat (c.toNat - 32) else c
theorem up_hexv (c : UInt8) : hexv (up c) = hexv c := by
  unfold up
  by_cases h : 97 ≤ c.toNat ∧ c.toNat ≤ 102
  · rw [if_pos h]
    have e : (UInt8.ofNat (c.toNat - 32)).toNat = c.toNat - 32 := by rw [UInt8.toNat_ofNat', Nat.mod_eq_of_lt (by omega)]
    unfold hexv
    rw [e, if_neg (by omega), if_neg (by omega), if_pos (by omega), if_neg (by omega), if_pos (by omega)]
    omega
  · rw [if_neg h]
theorem up_all (l : List UInt8) : (l.map up).all isHex = l.all isHex := by
  rw [List.all_map]
  congr 1
  funext c
  show isHex (up c) = isHex c
  unfold isHex
  rw [up_hexv]
theorem up_val (l : List UInt8) : hval (l.map up) = hval l := by
  unfold hval
  rw [List.foldl_map]
  congr 1
  funext n c
  rw [up_hexv]
theorem up_hexb (l : List UInt8) : hexb (l.map up) = hexb l := by
  unfold hexb
  rw [List.length_map, up_all, up_val]
theorem pad_one (p : List UInt8) (h0 : 1 ≤ p.length) (h1 : p.length ≤ 3) : hexb (48 :: p) = hexb p := by
  have h2 : ¬((48 :: p).length = 0 ∨ 4 < (48 :: p).length) := by rw [List.length_cons]; omega
  have h3 : ¬(p.length = 0 ∨ 4 < p.length) := by omega
  have e1 : (48 :: p).all isHex = p.all isHex := by rw [List.all_cons]; rfl
  have e2 : hval (48 :: p) = hval p := by unfold hval; rw [List.foldl_cons]; rfl
  unfold hexb
  rw [if_neg h2, if_neg h3, e1, e2]
theorem pad_some (p : List UInt8) (h0 : 1 ≤ p.length) : ∀ j, p.length + j ≤ 4 → hexb (List.replicate j 48 ++ p) = hexb p := by
  intro j
  induction j with
  | zero => intro _; rfl
  | succ j ih =>
    intro h
    rw [List.replicate_succ, List.cons_append, pad_one _ (by simp; omega) (by simp; omega)]
    exact ih (by omega)
/-- A group's word with noughts ahead or none, in great letters or small ones. -/
def wdp (g : Nat) (b : Bool) : List UInt8 := if b = true then List.replicate (4 - (hexd g).length) 48 ++ hexd g else hexd g
def wd (g : Nat) (b1 b2 : Bool) : List UInt8 := if b2 = true then (wdp g b1).map up else wdp g b1
theorem wdp_hexb (g : Nat) (h : g < 65536) (b : Bool) : hexb (wdp g b) = (g : Int) := by
  have hl := hexd_len g h
  unfold wdp
  split
  · rw [pad_some _ hl.1 _ (by omega), hexb_hexd g h]
  · exact hexb_hexd g h
theorem wd_hexb (g : Nat) (h : g < 65536) (b1 b2 : Bool) : hexb (wd g b1 b2) = (g : Int) := by
  unfold wd
  split
  · rw [up_hexb]; exact wdp_hexb g h b1
  · exact wdp_hexb g h b1
theorem wd_hok (g : Nat) (h : g < 65536) (b1 b2 : Bool) : hok (wd g b1 b2) = true := by
  unfold hok
  rw [wd_hexb g h]
  exact decide_eq_true (by omega)
theorem hok_no (p : List UInt8) (h : hok p = true) : (58 : UInt8) ∉ p := fun hm => by
  unfold hok at h
  have h1 := of_decide_eq_true h
  unfold hexb at h1
  split at h1
  · omega
  · split at h1
    · rename_i ha
      have := List.all_eq_true.1 ha 58 hm
      exact absurd this (by decide)
    · omega
theorem hok_len (p : List UInt8) (h : hok p = true) : 1 ≤ p.length ∧ p.length ≤ 4 := by
  unfold hok at h
  have h1 := of_decide_eq_true h
  unfold hexb at h1
  split at h1
  · omega
  · rename_i hn
    omega
theorem grp_lt (x : List UInt8) (i : Nat) : grpN x i < 65536 := by
  unfold grpN
  have h1 := (x.getD (2 * i) 0).toNat_lt
  have h2 := (x.getD (2 * i + 1) 0).toNat_lt
  omega
/-- All eight words. -/
def wds (x : List UInt8) (f g : Nat → Bool) : List (List UInt8) := (List.range 8).map fun i => wd (grpN x i) (f i) (g i)
theorem wds_len (x : List UInt8) (f g : Nat → Bool) : (wds x f g).length = 8 := by unfold wds; simp
theorem wds_at (x : List UInt8) (f g : Nat → Bool) (i : Nat) (h : i < 8) : (wds x f g)[i]? = some (wd (grpN x i) (f i) (g i)) := by
  unfold wds
  rw [List.getElem?_map, List.getElem?_range h]
  rfl
theorem wds_hok (x : List UInt8) (f g : Nat → Bool) : ∀ p ∈ wds x f g, hok p = true := fun p hp => by
  obtain ⟨i, _, rfl⟩ := List.mem_map.1 hp
  exact wd_hok _ (grp_lt x i) _ _
theorem wds_no (x : List UInt8) (f g : Nat → Bool) : ∀ p ∈ wds x f g, (58 : UInt8) ∉ p := fun p hp => hok_no p (wds_hok x f g p hp)
theorem wds_val (x : List UInt8) (f g : Nat → Bool) : (wds x f g).map hexb = gps x := by
  unfold wds gps
  rw [List.map_map]
  apply List.map_congr_left
  intro i _
  exact wd_hexb _ (grp_lt x i) _ _
/-- A text of words grows by one. -/
theorem jn_snoc (ws : List (List UInt8)) (p : List UInt8) (h : ws ≠ []) : jn [58] (ws ++ [p]) = jn [58] ws ++ [58] ++ p := by
  induction ws with
  | nil => exact absurd rfl h
  | cons q r ih =>
    cases r with
    | nil => rw [List.cons_append, List.nil_append, jn_two, jn_one, jn_one]; simp
    | cons s t =>
      have := ih (by simp)
      rw [List.cons_append, List.cons_append, jn_two, ← List.cons_append, this, jn_two]
      simp
/-- The last sign of a text of words is no colon. -/
theorem jn_last (ws : List (List UInt8)) (hne : ws ≠ []) (hk : ∀ p ∈ ws, hok p = true) : ∃ l c, jn [58] ws = l ++ [c] ∧ c ≠ 58 := by
  have hl := List.dropLast_concat_getLast hne
  generalize hp : ws.getLast hne = p at hl
  have hpm : p ∈ ws := by rw [← hp]; exact List.getLast_mem hne
  have hlen := hok_len p (hk p hpm)
  have hpne : p ≠ [] := fun e => by rw [e] at hlen; simp at hlen
  have hq := List.dropLast_concat_getLast hpne
  have hc : p.getLast hpne ≠ 58 := fun e => hok_no p (hk p hpm) (by rw [← e]; exact List.getLast_mem hpne)
  by_cases h1 : ws.dropLast = []
  · rw [h1, List.nil_append] at hl
    refine ⟨p.dropLast, p.getLast hpne, ?_, hc⟩
    rw [← hl, jn_one, hq]
  · refine ⟨jn [58] ws.dropLast ++ [58] ++ p.dropLast, p.getLast hpne, ?_, hc⟩
    rw [← hl, jn_snoc _ _ h1]
    conv => lhs; rw [← hq]
    simp
end Go.Proofs.YtkdplnbabelkoaaDoor
