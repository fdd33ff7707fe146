/-
  Proved here: what goes over from IPv4, plainly.
  Conditions: none.
-/
import Derived.Test.YtkihhmnlefekoaaHp
namespace Go.Proofs.Ytkihhmnlefekoaa
open Go.RowKit

theorem hcode_ok {p : P4.Pkt} (h : hcode p = 0) : 2 ≤ p.ttl ∧ p.ttl ≤ 255 ∧ 0 ≤ p.tos ∧ p.tos ≤ 255 ∧ prOk p.proto = true ∧ P4.rtE p.opts.data.toList false = some false := by
  unfold hcode at h
  by_cases hr : p.ttl < 2 ∨ 255 < p.ttl ∨ p.tos < 0 ∨ 255 < p.tos
  · rw [if_pos hr] at h; cases h
  · rw [if_neg hr] at h
    rcases hq : P4.rtE p.opts.data.toList false with _ | _ | _
    · rw [hq] at h; cases h
    · rw [hq] at h
      dsimp only at h
      by_cases hp : prOk p.proto = true
      · exact ⟨by omega, by omega, by omega, by omega, hp, rfl⟩
      · rw [if_neg hp] at h; cases h
    · rw [hq] at h; cases h
theorem pr46_in {n : Int} (h : prOk n = true) : 0 ≤ pr46 n ∧ pr46 n ≤ 255 ∧ pr46 n ≠ 0 ∧ pr46 n ≠ 43 ∧ pr46 n ≠ 44 ∧ pr46 n ≠ 60 := by
  unfold pr46
  by_cases h1 : n = 1
  · rw [if_pos h1]; decide
  · rw [if_neg h1, if_pos h]
    unfold prOk at h
    rw [show (n == 1) = false by rw [beq_eq_false_iff_ne]; exact h1, Bool.false_or] at h
    simp only [Bool.and_eq_true, decide_eq_true_eq, bne_iff_ne] at h
    obtain ⟨a, b, c, d, e, f, g⟩ := h
    exact ⟨by omega, b, by omega, d, e, g⟩
theorem h46_id {p : P4.Pkt} {F T : List UInt8} {hF : F.length = 16} {hT : T.length = 16} : 0 ≤ (h46 p F T hF hT).id ∧ (h46 p F T hF hT).id < 4294967296 := by
  show 0 ≤ (if (p.more || p.pl != 0) = true then IntKind.u32.wrap p.id else 0) ∧ (if (p.more || p.pl != 0) = true then IntKind.u32.wrap p.id else 0) < 4294967296
  split
  · rw [IntKind.wrap_u32]; omega
  · omega
theorem protos_back {n : Int} (h : prOk n = true) : prOk64 (pr46 n) = true ∧ pr64 (pr46 n) = n := by
  unfold pr46
  by_cases h1 : n = 1
  · subst h1
    exact ⟨by decide, by decide⟩
  · rw [if_neg h1, if_pos h]
    unfold prOk at h
    rw [show (n == 1) = false by rw [beq_eq_false_iff_ne]; exact h1, Bool.false_or] at h
    simp only [Bool.and_eq_true, decide_eq_true_eq, bne_iff_ne] at h
    obtain ⟨a, b, c, d, e, f, g⟩ := h
    have hk : prOk64 n = true := by
      unfold prOk64
      rw [show (n == 58) = false by rw [beq_eq_false_iff_ne]; exact f, Bool.false_or]
      simp only [Bool.and_eq_true, decide_eq_true_eq, bne_iff_ne]
      exact ⟨by omega, b, d, e, g⟩
    exact ⟨hk, by unfold pr64; rw [if_neg f, if_pos hk]⟩
theorem pr46_none {n : Int} (h : prOk n = false) : pr46 n = 0 := by
  unfold pr46
  by_cases h1 : n = 1
  · subst h1; cases h
  · rw [if_neg h1, h, if_neg (by simp)]
theorem pr46_other {n : Int} (h : prOk n = true) (h1 : n ≠ 1) : pr46 n = n := by unfold pr46; rw [if_neg h1, if_pos h]
end Go.Proofs.Ytkihhmnlefekoaa
