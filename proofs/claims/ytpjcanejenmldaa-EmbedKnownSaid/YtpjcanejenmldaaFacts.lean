/-
  Proved here: plain facts on prefixes, that the laws rest on.
  Conditions: as each fact says.
-/
import Derived.Test.YtpjcanejenmldaaBegins
import Derived.Test.YtpjcanejenmldaaProgRight
namespace Go.Proofs.Ytpjcanejenmldaa
open Go.RowKit

theorem list16 {l : List Int} (h : l.length = 16) : ∃ x0 x1 x2 x3 x4 x5 x6 x7 x8 x9 x10 x11 x12 x13 x14 x15 : Int, l = [x0, x1, x2, x3, x4, x5, x6, x7, x8, x9, x10, x11, x12, x13, x14, x15] := by
  match l, h with
  | [x0, x1, x2, x3, x4, x5, x6, x7, x8, x9, x10, x11, x12, x13, x14, x15], _ => exact ⟨x0, x1, x2, x3, x4, x5, x6, x7, x8, x9, x10, x11, x12, x13, x14, x15, rfl⟩
theorem list4 {l : List Int} (h : l.length = 4) : ∃ y0 y1 y2 y3 : Int, l = [y0, y1, y2, y3] := by
  match l, h with
  | [y0, y1, y2, y3], _ => exact ⟨y0, y1, y2, y3, rfl⟩
theorem right_ln {p : Nt} (h : p.right = true) : okL p.ln = true := by
  unfold Nt.right at h
  simp only [Bool.and_eq_true] at h
  exact h.1
theorem right_8 {p : Nt} (h : p.right = true) : p.ad.getD 8 0 = 0 := by
  unfold Nt.right at h
  simp only [Bool.and_eq_true, beq_iff_eq] at h
  exact h.2.1
theorem in_right {p : Nt} {x : List Int} (h : p.inside x = true) : p.right = true := by
  unfold Nt.inside at h
  simp only [Bool.and_eq_true] at h
  exact h.1
theorem takes_in {p : Nt} {x : List Int} (h : p.takes x = true) : p.inside x = true := by
  unfold Nt.takes at h
  simp only [Bool.and_eq_true] at h
  exact h.1
theorem not_right_in {p : Nt} (h : p.right = false) (x : List Int) : p.inside x = false := by unfold Nt.inside; rw [h]; rfl
theorem not_right_takes {p : Nt} (h : p.right = false) (x : List Int) : p.takes x = false := by unfold Nt.takes; rw [not_right_in h]; rfl
theorem not_right_emb {p : Nt} (h : p.right = false) (a : List Int) : p.emb a = zero6 := by unfold Nt.emb; rw [h]; rfl
theorem not_takes_ext {p : Nt} {x : List Int} (h : p.takes x = false) : p.ext x = zero4 := by unfold Nt.ext; rw [h]; rfl
theorem in_self {p : Nt} (h : p.right = true) : p.inside p.ad = true := by unfold Nt.inside; rw [h, beq_self_eq_true]; rfl
theorem takes_8 {p : Nt} {x : List Int} (h : x.getD 8 0 ≠ 0) : p.takes x = false := by
  unfold Nt.takes
  rw [beq_eq_false_iff_ne.2 h, Bool.and_false]
/-- What is put into a prefix that may be is inside, and is taken out again; whatever its last byte is, unless the prefix is of 96 bits. -/
theorem emb_all {p : Nt} {a : List Int} (hp : p.ad.length = 16) (ha : a.length = 4) (h : p.right = true) :
    p.inside (p.emb a) = true ∧ p.takes (p.emb a) = true ∧ p.ext (p.emb a) = a ∧ (p.emb a).getD 8 0 = 0 := by
  obtain ⟨ad, L⟩ := p
  obtain ⟨x0, x1, x2, x3, x4, x5, x6, x7, x8, x9, x10, x11, x12, x13, x14, x15, rfl⟩ := list16 hp
  obtain ⟨y0, y1, y2, y3, rfl⟩ := list4 ha
  have hL := right_ln h
  have h' := h
  unfold Nt.right at h'
  rcases okL_cases hL with rfl | rfl | rfl | rfl | rfl | rfl <;>
  · simp [okL, nil8, cut8] at h'
    simp only [h'] at h ⊢
    simp [Nt.emb, Nt.ext, Nt.takes, Nt.inside, h, put4, pos4, get4, cut8]
theorem emb_last {p : Nt} {a : List Int} (v : Int) (hp : p.ad.length = 16) (ha : a.length = 4) (h : p.right = true) (h96 : p.ln < 96) :
    p.takes ((p.emb a).set 15 v) = true ∧ p.ext ((p.emb a).set 15 v) = a := by
  obtain ⟨ad, L⟩ := p
  obtain ⟨x0, x1, x2, x3, x4, x5, x6, x7, x8, x9, x10, x11, x12, x13, x14, x15, rfl⟩ := list16 hp
  obtain ⟨y0, y1, y2, y3, rfl⟩ := list4 ha
  have hL := right_ln h
  have h' := h
  unfold Nt.right at h'
  rcases okL_cases hL with rfl | rfl | rfl | rfl | rfl | rfl
  iterate 5
    · simp [okL, nil8, cut8] at h'
      simp only [h'] at h ⊢
      simp [Nt.emb, Nt.ext, Nt.takes, Nt.inside, h, put4, pos4, get4, cut8]
  · exact absurd h96 (show ¬ ((96 : Int) < 96) by decide)
theorem emb_inj {p : Nt} {a b : List Int} (hp : p.ad.length = 16) (ha : a.length = 4) (hb : b.length = 4) (h : p.right = true) : (p.emb a == p.emb b) = (a == b) := by
  rw [Bool.eq_iff_iff]
  simp only [beq_iff_eq]
  constructor
  · intro e
    have h1 := (emb_all hp ha h).2.2.1
    rw [e, (emb_all hp hb h).2.2.1] at h1
    exact h1.symm
  · rintro rfl
    rfl
/-- From which byte on nothing of an address stands. -/
def lastB (L : Int) : Nat := if L = 32 then 8 else if L = 96 then 16 else cut8 L + 5
theorem once {p : Nt} {x : List Int} (hp : p.ad.length = 16) (hx : x.length = 16) (h : p.takes x = true) :
    p.emb (p.ext x) = bgn x (lastB p.ln) 16 ∧ p.inside (bgn x (lastB p.ln) 16) = true := by
  obtain ⟨ad, L⟩ := p
  have h1 := takes_in h
  have h2 := in_right h1
  have hL := right_ln h2
  obtain ⟨x0, x1, x2, x3, x4, x5, x6, x7, x8, x9, x10, x11, x12, x13, x14, x15, rfl⟩ := list16 hp
  obtain ⟨z0, z1, z2, z3, z4, z5, z6, z7, z8, z9, z10, z11, z12, z13, z14, z15, rfl⟩ := list16 hx
  have h3 := h2
  unfold Nt.right at h3
  have h4 := h1
  unfold Nt.inside at h4
  have h5 := h
  unfold Nt.takes at h5
  rw [h2] at h4
  rw [h1] at h5
  rcases okL_cases hL with rfl | rfl | rfl | rfl | rfl | rfl <;>
  · simp [okL, nil8, cut8] at h3
    simp [cut8] at h4
    simp at h5
    simp only [h3, h4, h5] at h h2 ⊢
    simp [Nt.emb, Nt.ext, Nt.inside, h, h2, put4, pos4, get4, cut8, bgn, lastB, List.replicate]
theorem apart {p q : Nt} {x : List Int} (hp : p.inside x = true) (hq : q.inside x = true) (hl : p.ln ≤ q.ln) : p.inside q.ad = true := by
  have r1 := in_right hp
  unfold Nt.inside at hp hq ⊢
  simp only [Bool.and_eq_true, beq_iff_eq] at hp hq ⊢
  refine ⟨r1, ?_⟩
  have hc : cut8 p.ln ≤ cut8 q.ln := by unfold cut8; omega
  have e := congrArg (List.take (cut8 p.ln)) hq.2
  rw [List.take_take, List.take_take, Nat.min_eq_left hc] at e
  rw [hp.2, e]
theorem same_pre {p q : Nt} {x : List Int} (hpl : p.ad.length = 16) (hql : q.ad.length = 16) (hp : p.inside x = true) (hq : q.inside x = true) (hl : p.ln = q.ln) : p.ad = q.ad := by
  have r1 := in_right hp
  have r2 := in_right hq
  unfold Nt.inside at hp hq
  simp only [Bool.and_eq_true, beq_iff_eq] at hp hq
  have e : p.ad.take (cut8 p.ln) = q.ad.take (cut8 p.ln) := by rw [hp.2, hl, hq.2]
  have s1 := beg_same p.ad p.ln hpl (right_ln r1)
  have s2 := beg_same q.ad q.ln hql (right_ln r2)
  unfold Nt.right at r1 r2
  simp only [Bool.and_eq_true] at r1 r2
  rw [r1.2.2, beg_is p.ad p.ln hpl] at s1
  rw [r2.2.2, beg_is q.ad q.ln hql] at s2
  rw [← eq_of_beq s1, ← eq_of_beq s2, ← hl, e]
end Go.Proofs.Ytpjcanejenmldaa
