/-
  Proved here: what the laws' Great answers.
  Conditions: the slice's cells hold the extensions; texts of at most 2^48 bytes.
-/
import Derived.Test.YtkihhmnlefekoaaPk6
namespace Go.Proofs.Ytkihhmnlefekoaa
open Go.RowKit

/-- The bodies' sizes, none counted above 70001. -/
def gsum (l : List (Int × ByteArray)) : Nat := (l.map fun e => min e.2.size 70001).sum
def Pk6.great (p : Pk6) : Bool := decide (20 < p.exts.length) || decide (70000 < p.data.size + gsum (p.exts.take 21))
theorem gsum_le (l : List (Int × ByteArray)) : gsum l ≤ 70001 * l.length := by
  unfold gsum
  induction l with
  | nil => simp
  | cons e r ih =>
    simp only [List.map_cons, List.sum_cons, List.length_cons]
    have : min e.2.size 70001 ≤ 70001 := Nat.min_le_right _ _
    omega
theorem gsum_snoc (l : List (Int × ByteArray)) (k : Nat) (h : k < l.length) : gsum (l.take (k + 1)) = gsum (l.take k) + min l[k].2.size 70001 := by
  unfold gsum
  rw [List.take_succ_eq_append_getElem h, List.map_append, List.sum_append]
  simp
/-- A packet that is not great is small. -/
theorem great_no {p : Pk6} (h : p.great = false) : p.exts.length ≤ 20 ∧ p.data.size + gsum p.exts ≤ 70000 := by
  unfold Pk6.great at h
  simp only [Bool.or_eq_false_iff, decide_eq_false_iff_not] at h
  have h1 : p.exts.length ≤ 20 := by omega
  refine ⟨h1, ?_⟩
  have h2 := h.2
  rw [List.take_of_length_le (by omega)] at h2
  omega
theorem gsum_at (l : List (Int × ByteArray)) (h : gsum l ≤ 70000) : gsum l = (l.map fun e => e.2.size).sum := by
  unfold gsum at h ⊢
  induction l with
  | nil => rfl
  | cons e r ih =>
    simp only [List.map_cons, List.sum_cons] at h ⊢
    have h1 : min e.2.size 70001 = e.2.size := by omega
    rw [h1, ih (by omega)]
set_option maxRecDepth 100000 in
set_option maxHeartbeats 1000000 in
theorem great_any (p : Pk6) (v : Value) (w : World) (hx : Exs w v p.exts) (hl : p.exts.length ≤ 281474976710656) (hd : p.data.size ≤ 281474976710656) (hb : ∀ e ∈ p.exts, e.2.size ≤ 281474976710656) :
    Calls Try.prog 14 #[.agg (p.vals v).toArray] w fun e w' => e = .returned (.bool p.great) ∧ Below w.heap.size w w' := by
  obtain ⟨ao, cap, rfl, _⟩ := id hx
  obtain ⟨V, hV⟩ : ∃ V, V = p.vals (.slice ao p.exts.length cap) := ⟨_, rfl⟩
  have hK := (Kp.start w).new 35 V
  have hD : Cs6 p (.slice ao p.exts.length cap) w.heap.size (w.alloc (.cells V.toArray 35)) := by
    have h := hK.hd
    rw [hV] at h ⊢
    exact cs6 h
  have HX := Lib.hid (hx.below hK.2.1 (Nat.le_refl _))
  have HB := Lib.hid hK.2.1
  have HBB := Lib.hid hb
  rw [← hV]
  clear hV hK hx hb
  have d35 := hD.c35
  have d41 := hD.c41
  clear hD
  have HG : Hid (p.great = (decide (20 < p.exts.length) || decide (70000 < p.data.size + gsum (p.exts.take 21)))) := Lib.hid rfl
  generalize hw1 : w.alloc (.cells V.toArray 35) = w1 at *
  go_enter Try.func14, Try.ntmps14
  go_upto_region 1 with (fail)
  clear hw1
  go_wp2_with fail
  go_loop [3, 4] (fun n i => ∃ k : Nat, k ≤ p.exts.length ∧ k ≤ 21 ∧ i = .int .i64 k ∧ n = .int .i64 ((p.data.size + gsum (p.exts.take k) : Nat) : Int)) (fun _ i => 22 - (intOf i).toNat)
  case atStart => exact ⟨0, Nat.zero_le _, by omega, rfl, by simp [gsum]⟩
  case round =>
    obtain ⟨k, hk, hk21, rfl, rfl⟩ := hrel
    have hgl := gsum_le (p.exts.take k)
    have hgk : (p.exts.take k).length ≤ 21 := by simp; omega
    have HS1 : gsum (p.exts.take k) ≤ 1470021 := by omega
    clear hgl hgk
    by_cases hlt : k < p.exts.length
    · by_cases h20 : k ≤ 20
      · obtain ⟨ao', cap', e, hc⟩ := HX.out
        injection e with e1 e2 e3
        subst e1
        obtain ⟨b, ob, rfl, g1, g2⟩ := hc k hlt
        clear hc e2 e3
        have HSN := Lib.hid (gsum_snoc p.exts k hlt)
        have hbk := HBB.out _ (List.getElem_mem hlt)
        have hk2 : (k : Int) < (p.exts.length : Int) := by omega
        have hk20 : (k : Int) ≤ 20 := by omega
        generalize p.exts[k].2 = bd at *
        generalize gsum (p.exts.take k) = S at *
        have hmm : min (bd.size : Int) 70001 = ((min bd.size 70001 : Nat) : Int) := by omega
        have hm2 : min bd.size 70001 ≤ 70001 := Nat.min_le_right _ _
        go_wp2_with fail
        go_round
        case rel => exact ⟨k + 1, by omega, by omega, by go_num, by rw [HSN.out]; congr 1; omega⟩
        case measure => simp [intOf]; omega
      · have hT : Hid (p.great = true) := Lib.hid (by rw [HG.out, decide_eq_true (show 20 < p.exts.length by omega)]; rfl)
        have hk2 : (k : Int) < (p.exts.length : Int) := by omega
        have hk20 : ¬ (k : Int) ≤ 20 := by omega
        have hl20 : (20 : Int) < (p.exts.length : Int) := by omega
        generalize gsum (p.exts.take k) = S at *
        go_wp2_with fail
        go_ret
        exact ⟨ret_bool hT.out.symm, HB.out⟩
    · obtain rfl : k = p.exts.length := by omega
      have hg : gsum (p.exts.take p.exts.length) = gsum (p.exts.take 21) := by rw [List.take_length, List.take_of_length_le (by omega)]
      have HG2 := Lib.hid hg
      by_cases h20 : 20 < p.exts.length
      · have hT : Hid (p.great = true) := Lib.hid (by rw [HG.out, decide_eq_true h20]; rfl)
        have hl20 : (20 : Int) < (p.exts.length : Int) := by omega
        clear hg
        generalize gsum (p.exts.take p.exts.length) = S at *
        go_wp2_with fail
        go_ret
        exact ⟨ret_bool hT.out.symm, HB.out⟩
      · have hl20 : ¬ (20 : Int) < (p.exts.length : Int) := by omega
        by_cases h7 : 70000 < p.data.size + gsum (p.exts.take p.exts.length)
        · have hT : Hid (p.great = true) := Lib.hid (by rw [HG.out, decide_eq_false h20, ← hg, decide_eq_true h7]; rfl)
          clear hg
          generalize gsum (p.exts.take p.exts.length) = S at *
          have h7b : (70000 : Int) < (p.data.size : Int) + (S : Int) := by omega
          go_wp2_with fail
          go_ret
          exact ⟨ret_bool hT.out.symm, HB.out⟩
        · have hT : Hid (p.great = false) := Lib.hid (by rw [HG.out, decide_eq_false h20, ← hg, decide_eq_false h7]; rfl)
          clear hg
          generalize gsum (p.exts.take p.exts.length) = S at *
          have h7b : ¬ (70000 : Int) < (p.data.size : Int) + (S : Int) := by omega
          go_wp2_with fail
          go_ret
          exact ⟨ret_bool hT.out.symm, HB.out⟩
end Go.Proofs.Ytkihhmnlefekoaa
