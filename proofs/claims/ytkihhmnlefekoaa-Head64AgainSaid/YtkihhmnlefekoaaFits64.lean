/-
  Proved here: a head of IPv6 that goes over IPv4 has bytes there, plainly.
  Conditions: the packet has bytes.
-/
import Derived.Test.YtkihhmnlefekoaaHd64
import Derived.Test.YtkihhmnlefekoaaCells
import Derived.Test.YtkihhmnlefekoaaFNumber
namespace Go.Proofs.Ytkihhmnlefekoaa
open Go.RowKit

theorem hcode64_ok {p : Pk6} {id : Int} (h : hcode64 p id = 0) : 2 ≤ p.hop ∧ p.hop ≤ 255 ∧ 0 ≤ p.cls ∧ p.cls ≤ 255 ∧ 0 ≤ id ∧ id ≤ 65535 ∧ prOk64 p.proto = true ∧ rtd p.exts = false ∧ p.pl ≤ 65535 ∧ p.pl + 20 + (p.data.size : Int) ≤ 65535 := by
  unfold hcode64 at h
  by_cases hr : p.hop < 2 ∨ 255 < p.hop ∨ p.cls < 0 ∨ 255 < p.cls ∨ id < 0 ∨ 65535 < id
  · rw [if_pos hr] at h; cases h
  · rw [if_neg hr] at h
    by_cases hp : prOk64 p.proto = false ∨ rtd p.exts = true
    · rw [if_pos hp] at h; cases h
    · rw [if_neg hp] at h
      by_cases hl : 65535 < p.pl ∨ 65535 < p.pl + 20 + (p.data.size : Int)
      · rw [if_pos hl] at h; cases h
      · have h1 : prOk64 p.proto = true := by cases hq : prOk64 p.proto; exact absurd (.inl hq) hp; rfl
        have h2 : rtd p.exts = false := by cases hq : rtd p.exts; rfl; exact absurd (.inr hq) hp
        exact ⟨by omega, by omega, by omega, by omega, by omega, by omega, h1, h2, by omega, by omega⟩
theorem pr64_in {n : Int} (h : prOk64 n = true) : 0 ≤ pr64 n ∧ pr64 n ≤ 255 := by
  unfold pr64
  by_cases h1 : n = 58
  · rw [if_pos h1]; decide
  · rw [if_neg h1, if_pos h]
    unfold prOk64 at h
    rw [show (n == 58) = false by rw [beq_eq_false_iff_ne]; exact h1, Bool.false_or] at h
    simp only [Bool.and_eq_true, decide_eq_true_eq, bne_iff_ne] at h
    obtain ⟨a, b, _⟩ := h
    exact ⟨by omega, b⟩
theorem h64_why {p : Pk6} {f0 f1 f2 f3 t0 t1 t2 t3 id : Int} (hw : p.why = 0) (hc : hcode64 p id = 0) : (h64 p f0 f1 f2 f3 t0 t1 t2 t3 id).why = 0 := by
  have ho := why_ok hw
  obtain ⟨_, _, _, _, _, _, _, _, p0, p1, p8⟩ := bnd_pl ho.bnd
  obtain ⟨a0, a1, a2, a3, a4, a5, a6, _, a8, a9⟩ := hcode64_ok hc
  obtain ⟨r0, r1⟩ := pr64_in a6
  have hpc := ho.piece
  unfold Pk6.piece at hpc
  have hb : (h64 p f0 f1 f2 f3 t0 t1 t2 t3 id).bnd = true := by
    unfold P4.Pkt.bnd
    simp only [Bool.and_eq_true, P4.inB_iff, beq_iff_eq]
    have e1 : (0 : Int) ≤ (h64 p f0 f1 f2 f3 t0 t1 t2 t3 id).id ∧ (h64 p f0 f1 f2 f3 t0 t1 t2 t3 id).id ≤ 65535 := by
      show 0 ≤ (if p.frag = true then p.id % 65536 else if p.data.size ≤ 1240 then id else 0) ∧ (if p.frag = true then p.id % 65536 else if p.data.size ≤ 1240 then id else 0) ≤ 65535
      split
      · omega
      · split <;> omega
    have e2 : (0 : Int) ≤ (h64 p f0 f1 f2 f3 t0 t1 t2 t3 id).pl ∧ (h64 p f0 f1 f2 f3 t0 t1 t2 t3 id).pl ≤ 65528 ∧ (h64 p f0 f1 f2 f3 t0 t1 t2 t3 id).pl % 8 = 0 := by
      show 0 ≤ (if p.frag = true then p.pl else 0) ∧ (if p.frag = true then p.pl else 0) ≤ 65528 ∧ (if p.frag = true then p.pl else 0) % 8 = 0
      split <;> omega
    exact ⟨⟨a2, a3⟩, ⟨by show 0 ≤ p.hop - 1; omega, by show p.hop - 1 ≤ 255; omega⟩, ⟨r0, r1⟩, e1, ⟨e2.1, e2.2.1⟩, e2.2.2⟩
  have hm : ¬ ((h64 p f0 f1 f2 f3 t0 t1 t2 t3 id).more = true ∧ ((h64 p f0 f1 f2 f3 t0 t1 t2 t3 id).data.size = 0 ∨ (h64 p f0 f1 f2 f3 t0 t1 t2 t3 id).data.size % 8 ≠ 0)) := by
    rintro ⟨h1, h2⟩
    have h1' : (p.frag && p.more) = true := h1
    rw [Bool.and_eq_true] at h1'
    rw [h1'.1, if_pos rfl, h1'.2] at hpc
    simp at hpc
    have h2' : p.data.size = 0 ∨ p.data.size % 8 ≠ 0 := h2
    omega
  have hl : (h64 p f0 f1 f2 f3 t0 t1 t2 t3 id).long = 0 := by
    unfold P4.Pkt.long
    show (if (65535 : Int) < 20 + ((0 : Nat) : Int) + (if p.frag = true then p.pl else 0) + (p.data.size : Int) then (3 : Int) else 0) = 0
    cases p.frag
    · rw [if_neg (by rw [if_neg (by simp)]; omega)]
    · rw [if_neg (by rw [if_pos rfl]; omega)]
  unfold P4.Pkt.why
  rw [if_neg (by rw [hb]; simp), if_neg (by show ¬ (40 < 0 ∨ 0 % 4 ≠ 0); omega), if_neg hm, hl]
end Go.Proofs.Ytkihhmnlefekoaa
