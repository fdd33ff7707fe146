/-
  Proved here: plain facts on what is parsed: that it may be, and what its bytes are.
  Conditions: a text of at most 70000 bytes that is parsed.
-/
import Derived.Test.YtkihhmnlefekoaaRound

namespace Go.Proofs.Ytkihhmnlefekoaa
open Go.RowKit

/-- Extensions that are formed, each in its place. -/
def FL (l : List (Int × ByteArray)) : Prop := ∀ i (h : i < l.length), isEx l[i].1 ∧ l[i].2.size ≤ 2046 ∧ l[i].2.size % 8 = 6 ∧ inPl l[i].1 (i : Int) = true
theorem FL.snoc {l : List (Int × ByteArray)} (h : FL l) (e : Int × ByteArray) (h1 : isEx e.1) (h2 : e.2.size ≤ 2046) (h3 : e.2.size % 8 = 6) (h4 : inPl e.1 (l.length : Int) = true) : FL (l ++ [e]) := by
  intro i hi
  rw [List.length_append, List.length_singleton] at hi
  by_cases hlt : i < l.length
  · rw [List.getElem_append_left hlt]
    exact h i hlt
  · obtain rfl : i = l.length := by omega
    rw [List.getElem_concat_length rfl]
    exact ⟨h1, h2, h3, h4⟩
/-- What a chain without a fault is. -/
structure GoodC (l : List (Int × ByteArray)) (n : Int) (t : ByteArray) (R : Chn) : Prop where
  form : FL R.exts
  len : R.exts.length ≤ 8
  stop : ¬ isEx R.proto
  rng : 0 ≤ R.proto ∧ R.proto < 256
  sum : esum R.exts + R.rest.size = esum l + t.size
  first : (R.exts = l ∧ R.proto = n) ∨ ∃ b r, R.exts = l ++ (n, b) :: r
theorem chn_inv : ∀ (f : Nat) (l : List (Int × ByteArray)) (n : Int) (t : ByteArray), FL l → l.length ≤ 8 → 0 ≤ n → n < 256 → (chn f l n t).code = 0 → GoodC l n t (chn f l n t) := by
  intro f
  induction f with
  | zero => intro l n t _ _ _ _ hc; exact absurd hc (by show ¬ (3 : Int) = 0; decide)
  | succ f ih =>
    intro l n t hF h8 hn0 hn1 hc
    unfold chn at hc ⊢
    split at hc
    · rename_i hx
      rw [if_pos hx]
      split at hc
      · exact absurd hc (by show ¬ (8 : Int) = 0; decide)
      · rename_i h1
        rw [if_neg h1]
        split at hc
        · exact absurd hc (by show ¬ (3 : Int) = 0; decide)
        · rename_i h2
          rw [if_neg h2]
          split at hc
          · exact absurd hc (by show ¬ (7 : Int) = 0; decide)
          · rename_i h3
            rw [if_neg h3]
            have hb := byN_lt t 1
            have hb0 := byN_lt t 0
            have hN : exN t = 8 * (1 + byN t 1) := rfl
            have hz : (t.extract 2 (exN t)).size = exN t - 2 := by simp; omega
            have hi : inPl n (l.length : Int) = true := by
              cases hq : inPl n (l.length : Int)
              · exact absurd (inPl_no.1 hq) h1
              · rfl
            have g := ih (l ++ [(n, t.extract 2 (exN t))]) (byN t 0 : Nat) (t.extract (exN t) t.size) (hF.snoc _ hx (by dsimp only; omega) (by dsimp only; omega) hi) (by rw [List.length_append, List.length_singleton]; omega) (by omega) (by omega) hc
            refine ⟨g.form, g.len, g.stop, g.rng, ?_, ?_⟩
            · rw [g.sum]
              have e1 : esum (l ++ [(n, t.extract 2 (exN t))]) = esum l + (2 + (exN t - 2)) := by
                unfold esum
                rw [List.map_append, List.sum_append]
                simp [hz]
              have e2 : (t.extract (exN t) t.size).size = t.size - exN t := by simp
              rw [e1, e2]
              omega
            · rcases g.first with ⟨g1, _⟩ | ⟨b, r, g1⟩
              · exact .inr ⟨_, [], g1⟩
              · exact .inr ⟨_, _, by rw [g1, List.append_assoc]; rfl⟩
    · rename_i hx
      rw [if_neg hx]
      exact ⟨hF, h8, hx, ⟨hn0, hn1⟩, rfl, .inl ⟨rfl, rfl⟩⟩
theorem FL.nil : FL [] := fun i hi => by cases hi
theorem fl_formed {l : List (Int × ByteArray)} (h : FL l) : formed l = true := by
  unfold formed fms
  rw [List.all_eq_true]
  intro k hk
  have hk := List.mem_range.1 hk
  rw [getD_at l k hk]
  obtain ⟨_, h2, h3, h4⟩ := h k hk
  unfold fm1
  rw [decide_eq_true h2, h3, h4]
  rfl
theorem fl_kinds {l : List (Int × ByteArray)} (h : FL l) : l.all (fun e => isExB e.1) = true := by
  rw [List.all_eq_true]
  intro e he
  obtain ⟨i, hi, rfl⟩ := List.mem_iff_getElem.1 he
  exact decide_eq_true (h i hi).1
theorem num_four (l : List UInt8) (h : l.length = 4) : [u8i ((numOf l : Int) / 16777216), u8i ((numOf l : Int) / 65536 % 256), u8i ((numOf l : Int) / 256 % 256), u8i ((numOf l : Int) % 256)] = l := by
  match l, h with
  | [a, b, c, d], _ =>
    have ha := a.toNat_lt
    have hb := b.toNat_lt
    have hc := c.toNat_lt
    have hd := d.toNat_lt
    have e : numOf [a, b, c, d] = (((0 * 256 + a.toNat) * 256 + b.toNat) * 256 + c.toNat) * 256 + d.toNat := rfl
    have q : ∀ (x : Int) (y : UInt8), x = y.toNat → u8i x = y := fun x y hh => by
      apply UInt8.toNat_inj.1
      have := y.toNat_lt
      have := u8i_nat (x := x) (by omega) (by omega)
      omega
    rw [q _ a (by rw [e]; omega), q _ b (by rw [e]; omega), q _ c (by rw [e]; omega), q _ d (by rw [e]; omega)]
theorem num_two (l : List UInt8) (h : l.length = 2) : [u8i ((numOf l : Int) / 256), u8i ((numOf l : Int) % 256)] = l := by
  match l, h with
  | [a, b], _ =>
    have ha := a.toNat_lt
    have hb := b.toNat_lt
    have e : numOf [a, b] = (0 * 256 + a.toNat) * 256 + b.toNat := rfl
    have q : ∀ (x : Int) (y : UInt8), x = y.toNat → u8i x = y := fun x y hh => by
      apply UInt8.toNat_inj.1
      have := y.toNat_lt
      have := u8i_nat (x := x) (by omega) (by omega)
      omega
    rw [q _ a (by rw [e]; omega), q _ b (by rw [e]; omega)]
/-- What is parsed, may be. -/
structure Psd (s : ByteArray) (p : Pk6) : Prop where
  h40 : 40 ≤ s.size
  ok : Ok6 p
  id : 0 ≤ p.id ∧ p.id < 4294967296
  small : Sm p
  word : p.word = (hdW s : Int)
  all : p.behind = hdL s
  next : p.heads.1 = (byN s 6 : Nat)
  fits : 40 + hdL s ≤ s.size
theorem sm_of {p : Pk6} (ho : Ok6 p) : Sm p := by
  have hb := ho.behind
  unfold Pk6.behind at hb
  refine ⟨by have := ho.len; omega, by omega, fun e he => ?_⟩
  have := (ge_all ho.kinds ho.form e he).2.1
  omega
theorem parsed (s : ByteArray) (h : pcode s = 0) : Psd s (ppkt s) := by
  unfold pcode at h
  by_cases h40 : 40 ≤ s.size
  · rw [dif_pos h40] at h
    split at h
    · cases h
    · rename_i h6
      split at h
      · cases h
      · rename_i hb
        split at h
        · rename_i hc; exact absurd h hc
        · rename_i hc
          have hc0 : (prC s).code = 0 := by omega
          have hn := byN_lt s 6
          have hwl := hdW_lt s
          have hll := hdL_lt s
          have hg : GoodC [] (byN s 6 : Nat) (s.extract 40 (40 + hdL s)) (prC s) := chn_inv _ [] _ _ FL.nil (Nat.zero_le _) (by omega) (by omega) hc0
          have hts : (s.extract 40 (40 + hdL s)).size = hdL s := by simp; omega
          have hsum := hg.sum
          rw [hts] at hsum
          have hsum : esum (prC s).exts + (prC s).rest.size = hdL s := by rw [hsum]; exact Nat.zero_add _
          obtain ⟨a1, a2, a3, a4, a5, a6, a7, a8, a9, a10, a11, a12⟩ := prP_facts s h40
          have hb7 := byN_lt s 7
          have hword : ∀ p : Pk6, p.cls = (hdW s : Int) / 1048576 % 256 → p.flow = (hdW s : Int) % 1048576 → p.word = (hdW s : Int) := fun p q1 q2 => by unfold Pk6.word; rw [q1, q2]; omega
          split at h
          · rename_i hp
            have e : ppkt s = prP s h40 := by unfold ppkt; rw [dif_pos h40, if_neg hp]
            rw [e]
            generalize prP s h40 = P at *
            have hbh : P.behind = hdL s := by unfold Pk6.behind; rw [a7, a6, a12]; simp; omega
            have hok : Ok6 P := by
              refine ⟨?_, ?_, ?_, ?_, ?_, ?_, ?_⟩
              · unfold Pk6.bnd
                simp only [Bool.and_eq_true, inB_iff, beq_iff_eq]
                rw [a1, a2, a3, a9, a11]
                have := hg.rng
                omega
              · unfold Pk6.kinds isExB
                rw [a6, a7, a11]
                have h1 := fl_kinds hg.form
                unfold isExB at h1
                rw [h1, decide_eq_false hg.stop, show ((prC s).proto != 44) = true from bne_iff_ne.2 hp]
                rfl
              · rw [a6]; exact fl_formed hg.form
              · unfold Pk6.piece
                rw [a7, a8, a9, a10]
                rfl
              · rw [a6]; exact hg.len
              · unfold Pk6.rch
                rw [a9, a12]
                exact decide_eq_true (by omega)
              · omega
            refine ⟨h40, hok, by rw [a8]; omega, sm_of hok, hword P a1 a2, hbh, ?_, by omega⟩
            unfold Pk6.heads Pk6.st0
            rw [a7, a6]
            rcases hg.first with ⟨g1, g2⟩ | ⟨b, r, g1⟩
            · rw [g1]; show P.proto = _; rw [a11, g2]
            · rw [g1]; rfl
          · rename_i hp
            have hp2 : (prC s).proto = 44 := by omega
            split at h
            · cases h
            · rename_i h8
              split at h
              · cases h
              · rename_i h9
                have e : ppkt s = frP (prP s h40) := by unfold ppkt; rw [dif_pos h40, if_pos hp2]
                rw [e]
                obtain ⟨b1, b2, b3, b4, b5, b6, b7, b8, b9, b10, b11, b12⟩ := frP_facts (prP s h40)
                rw [a1] at b1
                rw [a2] at b2
                rw [a3] at b3
                rw [a6] at b6
                rw [a12] at b8 b9 b10 b11 b12
                have hfw := frW_lt (prC s).rest
                have hfi := frI_lt (prC s).rest
                have hfb := byN_lt (prC s).rest 0
                have hq1 : (frP (prP s h40)).piece = true := by
                  cases hq : (frP (prP s h40)).piece
                  · exact absurd (.inl hq) h9
                  · rfl
                have hq2 : (frP (prP s h40)).rch = true := by
                  cases hq : (frP (prP s h40)).rch
                  · exact absurd (.inr hq) h9
                  · rfl
                generalize frP (prP s h40) = P at *
                have hds : P.data.size = (prC s).rest.size - 8 := by rw [b12]; simp
                have hbh : P.behind = hdL s := by unfold Pk6.behind; rw [b7, b6, hds]; simp; omega
                have hok : Ok6 P := by
                  refine ⟨?_, ?_, ?_, hq1, ?_, hq2, ?_⟩
                  · unfold Pk6.bnd
                    simp only [Bool.and_eq_true, inB_iff, beq_iff_eq]
                    rw [b1, b2, b3, b9, b11]
                    omega
                  · unfold Pk6.kinds
                    rw [b6, b7, fl_kinds hg.form]
                    rfl
                  · rw [b6]; exact fl_formed hg.form
                  · rw [b6]; exact hg.len
                  · omega
                refine ⟨h40, hok, by rw [b8]; omega, sm_of hok, hword P b1 b2, hbh, ?_, by omega⟩
                unfold Pk6.heads Pk6.st0
                rw [b7, b6]
                rcases hg.first with ⟨g1, g2⟩ | ⟨b, r, g1⟩
                · rw [g1]; show (44 : Int) = _; rw [← g2, hp2]
                · rw [g1]; rfl
  · rw [dif_neg h40] at h
    cases h
theorem why_of {p : Pk6} (h : Ok6 p) : p.why = 0 := by
  unfold Pk6.why
  rw [if_neg (by rw [h.bnd]; simp), if_neg (by rw [h.kinds]; simp), if_neg (by rw [h.form, h.piece]; simp), if_neg (by rw [h.rch]; have := h.len; have := h.behind; simp; omega)]
end Go.Proofs.Ytkihhmnlefekoaa
