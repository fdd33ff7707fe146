/-
  Proved here: a head that goes over has bytes there, plainly.
  Conditions: the packet has bytes.
-/
import Derived.Test.YtdljjcnihajchaaAwk
namespace Go.Proofs.Ytdljjcnihajchaa
open Go.RowKit

theorem hcode_ok {p : P4.Pkt} (h : hcode p = 0) : 2 ≤ p.ttl ∧ p.ttl ≤ 255 ∧ 0 ≤ p.tos ∧ p.tos ≤ 255 ∧ prOk p.proto = true ∧ P4.rtE p.opts.data.toList false = some false := by
  unfold hcode at h
  by_cases hr : p.ttl < 2 ∨ 255 < p.ttl ∨ p.tos < 0 ∨ 255 < p.tos
  · rw [if_pos hr] at h; cases h
  · rw [if_neg hr] at h
    rcases hq : P4.rtE p.opts.data.toList false with _ | _ | _
    · rw [hq] at h; cases h
    · rw [hq] at h
      dsimp only at h
      by_cases hp : prOk p.proto = true
      · exact ⟨by omega, by omega, by omega, by omega, hp, rfl⟩
      · rw [if_neg hp] at h; cases h
    · rw [hq] at h; cases h
theorem pr46_in {n : Int} (h : prOk n = true) : 0 ≤ pr46 n ∧ pr46 n ≤ 255 ∧ pr46 n ≠ 0 ∧ pr46 n ≠ 43 ∧ pr46 n ≠ 44 ∧ pr46 n ≠ 60 := by
  unfold pr46
  by_cases h1 : n = 1
  · rw [if_pos h1]; decide
  · rw [if_neg h1, if_pos h]
    unfold prOk at h
    rw [show (n == 1) = false by rw [beq_eq_false_iff_ne]; exact h1, Bool.false_or] at h
    simp only [Bool.and_eq_true, decide_eq_true_eq, bne_iff_ne] at h
    obtain ⟨a, b, c, d, e, f, g⟩ := h
    exact ⟨by omega, b, by omega, d, e, g⟩
theorem h46_why {p : P4.Pkt} {F T : List UInt8} {hF : F.length = 16} {hT : T.length = 16} (hw : p.why = 0) (hc : hcode p = 0) : (h46 p F T hF hT).why = 0 := by
  obtain ⟨hb, ho, _, hm, hl⟩ := P4.why_ok hw
  obtain ⟨_, _, _, _, _, _, i0, i1, p0, p1, p8⟩ := P4.bnd_pl hb
  obtain ⟨t0, t1, s0, s1, hp, _⟩ := hcode_ok hc
  obtain ⟨r0, r1, r2, r3, r4, r5⟩ := pr46_in hp
  have hbn : (h46 p F T hF hT).bnd = true := by
    unfold Pk6.bnd
    simp only [Bool.and_eq_true, inB_iff, beq_iff_eq]
    exact ⟨⟨s0, s1⟩, ⟨Int.le_refl _, by show (0 : Int) ≤ 1048575; decide⟩, ⟨by show 0 ≤ p.ttl - 1; omega, by show p.ttl - 1 ≤ 255; omega⟩, ⟨r0, r1⟩, ⟨p0, p1⟩, p8⟩
  have hk : (h46 p F T hF hT).kinds = true := by
    unfold Pk6.kinds
    have e1 : isExB (pr46 p.proto) = false := by
      have h0 : ¬ isEx (pr46 p.proto) := by unfold isEx; omega
      unfold isExB
      exact decide_eq_false h0
    show (true && ((p.more || p.pl != 0) || (!isExB (pr46 p.proto) && pr46 p.proto != 44))) = true
    rw [e1, show (pr46 p.proto != 44) = true by rw [bne_iff_ne]; exact r4]
    simp
  have hpc : (h46 p F T hF hT).piece = true := by
    unfold Pk6.piece
    show (if (p.more || p.pl != 0) = true then (!p.more || (decide (0 < p.data.size) && p.data.size % 8 == 0)) else ((if (p.more || p.pl != 0) = true then IntKind.u32.wrap p.id else 0) == 0 && (p.pl == 0 && !p.more))) = true
    cases hmo : p.more
    · by_cases hpl : p.pl = 0
      · rw [hpl]; rfl
      · rw [if_pos (by simp [hpl])]; rfl
    · obtain ⟨d0, d8⟩ := hm hmo
      rw [if_pos (by rw [Bool.true_or])]
      have e1 : decide (0 < p.data.size) = true := by rw [decide_eq_true_eq]; omega
      rw [e1, d8]
      rfl
  have hf : formed (h46 p F T hF hT).exts = true := rfl
  have hr : (h46 p F T hF hT).rch = true := by
    unfold Pk6.rch
    rw [decide_eq_true_eq]
    show p.pl + (p.data.size : Int) ≤ 65535
    omega
  have hbe : (h46 p F T hF hT).behind ≤ 65535 := by
    unfold Pk6.behind
    show p.data.size + (if (p.more || p.pl != 0) = true then 8 else 0) + 0 ≤ 65535
    split <;> omega
  unfold Pk6.why
  rw [if_neg (by rw [hbn]; simp), if_neg (by rw [hk]; simp), if_neg (by rw [hf, hpc]; simp), if_neg (by rw [hr]; show ¬ (8 < 0 ∨ true = false ∨ 65535 < (h46 p F T hF hT).behind); simp; omega)]
theorem h46_sm {p : P4.Pkt} {F T : List UInt8} {hF : F.length = 16} {hT : T.length = 16} (hd : p.data.size ≤ 70000) : Sm (h46 p F T hF hT) := ⟨by show 0 ≤ 20; omega, hd, fun e he => by cases he⟩
theorem h46_id {p : P4.Pkt} {F T : List UInt8} {hF : F.length = 16} {hT : T.length = 16} : 0 ≤ (h46 p F T hF hT).id ∧ (h46 p F T hF hT).id < 4294967296 := by
  show 0 ≤ (if (p.more || p.pl != 0) = true then IntKind.u32.wrap p.id else 0) ∧ (if (p.more || p.pl != 0) = true then IntKind.u32.wrap p.id else 0) < 4294967296
  split
  · rw [IntKind.wrap_u32]; omega
  · omega
theorem pkt_why {s : ByteArray} (h : P4.pcode s = 0) : (P4.ppkt s).why = 0 := by
  unfold P4.pcode at h
  by_cases h0 : P4.mcode s = 0
  · rw [if_pos h0] at h
    by_cases h1 : P4.freeB (s.extract 0 (P4.num2 s 2)) = true ∧ (P4.ppkt s).why = 0
    · exact h1.2
    · rw [if_neg h1] at h; cases h
  · rw [if_neg h0] at h; exact absurd h h0
theorem wpList_skip {P : Program} {ops : Array Oper} {rest : List Oper} {op : Oper} {a : Act} {w : World} {Q : Exit → Act → World → Prop} (hw : Region.wanted op (yielded ops a.tmps) = false) (h : wpList P ops Q rest (a.put op.dst undef) w) : wpList P ops Q (op :: rest) a w :=
  wpList_step fun K hK => by rw [hw]; exact hK _ _ h
end Go.Proofs.Ytdljjcnihajchaa
