/-
  Proved here: what head46.Head answers, in one.
  Conditions: none.
-/
import Derived.Test.YtkihhmnlefekoaaHq
import Derived.Test.YtkihhmnlefekoaaHpd
namespace Go.Proofs.Ytkihhmnlefekoaa
open Go.RowKit

theorem hcode_range {p : P4.Pkt} (h : p.ttl < 2 ∨ 255 < p.ttl ∨ p.tos < 0 ∨ 255 < p.tos) : hcode p = 13 := by unfold hcode; rw [if_pos h]
theorem hcode_in {p : P4.Pkt} (h0 : ¬ p.ttl < 2) (h1 : ¬ 255 < p.ttl) (h2 : ¬ p.tos < 0) (h3 : ¬ 255 < p.tos) : hcode p = (match P4.rtE p.opts.data.toList false with
    | none => 8
    | some true => 10
    | some false => if prOk p.proto = true then 0 else 10) := by
  unfold hcode
  rw [if_neg (by omega)]
  rcases P4.rtE p.opts.data.toList false with _ | _ | _ <;> rfl
theorem hout_bad {p : P4.Pkt} {F T : List UInt8} {hF : F.length = 16} {hT : T.length = 16} (h : hcode p ≠ 0) : hout p F T hF hT = pk0 := by unfold hout; rw [if_neg h]
theorem hout_ok {p : P4.Pkt} {F T : List UInt8} {hF : F.length = 16} {hT : T.length = 16} (h : hcode p = 0) : hout p F T hF hT = h46 p F T hF hT := by unfold hout; rw [if_pos h]
theorem h46_whole {p : P4.Pkt} {F T : List UInt8} {hF : F.length = 16} {hT : T.length = 16} (hm : p.more = false) (hl : p.pl = 0) : h46 p F T hF hT = ⟨p.tos, 0, p.ttl - 1, F, T, [], false, 0, 0, false, pr46 p.proto, p.data, hF, hT⟩ := by
  unfold h46
  rw [hm, hl]
  rfl
theorem h46_m {p : P4.Pkt} {F T : List UInt8} {hF : F.length = 16} {hT : T.length = 16} (hm : p.more = true) : h46 p F T hF hT = ⟨p.tos, 0, p.ttl - 1, F, T, [], true, IntKind.u32.wrap p.id, p.pl, true, pr46 p.proto, p.data, hF, hT⟩ := by
  unfold h46
  rw [hm]
  rfl
theorem h46_a {p : P4.Pkt} {F T : List UInt8} {hF : F.length = 16} {hT : T.length = 16} (hm : p.more = false) (hl : (p.pl != 0) = true) : h46 p F T hF hT = ⟨p.tos, 0, p.ttl - 1, F, T, [], true, IntKind.u32.wrap p.id, p.pl, false, pr46 p.proto, p.data, hF, hT⟩ := by
  unfold h46
  rw [hm, hl]
  rfl
theorem bad_head {p : P4.Pkt} {F T : List UInt8} {hF : F.length = 16} {hT : T.length = 16} {w : World} {c : Int} (hc : hcode p = c) (h0 : c ≠ 0) {e : Ending} {w' : World} (h : Bad (.agg (pk0.vals (.slice none 0 0)).toArray) c w e w') :
    ∃ x, e = .returned (.tuple #[.agg ((hout p F T hF hT).vals (.slice none 0 0)).toArray, x]) ∧ ErrV w.heap.size (hcode p) x w' ∧ Below w.heap.size w w' := by
  obtain ⟨f, rfl, h1, h2, h3⟩ := h
  rw [hout_bad (by rw [hc]; exact h0), hc]
  exact ⟨_, rfl, .inr ⟨h0, f, rfl, h1, h2⟩, h3⟩
theorem head_any (p : P4.Pkt) (F T : List UInt8) (hF : F.length = 16) (hT : T.length = 16) (w : World) :
    Calls Try.prog 21 #[.agg p.vals.toArray, .agg (bytV F).toArray, .agg (bytV T).toArray] w fun e w' => ∃ x, e = .returned (.tuple #[.agg ((hout p F T hF hT).vals (.slice none 0 0)).toArray, x]) ∧ ErrV w.heap.size (hcode p) x w' ∧ Below w.heap.size w w' := by
  by_cases h0 : p.ttl < 2
  · exact (head_range_a p F T hF hT w h0).mono fun e w' h => bad_head (hcode_range (.inl h0)) (by decide) h
  by_cases h1 : 255 < p.ttl
  · exact (head_range_b p F T hF hT w h0 h1).mono fun e w' h => bad_head (hcode_range (.inr (.inl h1))) (by decide) h
  by_cases h2 : p.tos < 0
  · exact (head_range_c p F T hF hT w h0 h1 h2).mono fun e w' h => bad_head (hcode_range (.inr (.inr (.inl h2)))) (by decide) h
  by_cases h3 : 255 < p.tos
  · exact (head_range_d p F T hF hT w h0 h1 h2 h3).mono fun e w' h => bad_head (hcode_range (.inr (.inr (.inr h3)))) (by decide) h
  have hc := hcode_in h0 h1 h2 h3
  cases hr : P4.rtE p.opts.data.toList false with
  | none =>
    rw [hr] at hc
    have hc : hcode p = 8 := hc
    exact (head_form p F T hF hT w h0 h1 h2 h3 hr).mono fun e w' h => bad_head hc (by decide) h
  | some b =>
    rw [hr] at hc
    cases b
    · cases hp : prOk p.proto
      · rw [hp] at hc
        have hc : hcode p = 10 := hc
        exact (head_kind_p p F T hF hT w h0 h1 h2 h3 hr hp).mono fun e w' h => bad_head hc (by decide) h
      · rw [hp] at hc
        have hc0 : hcode p = 0 := hc
        rw [hout_ok hc0, hc0]
        cases hm : p.more
        · by_cases hl : p.pl = 0
          · rw [h46_whole hm hl]
            exact (head_whole p F T hF hT w h0 h1 h2 h3 hr hp hm hl).mono fun e w' ⟨h, b⟩ => ⟨_, h, .inl ⟨rfl, rfl⟩, b⟩
          · have hl2 : (p.pl != 0) = true := by rw [bne_iff_ne]; exact hl
            rw [h46_a hm hl2]
            exact (head_piece_a p F T hF hT w h0 h1 h2 h3 hr hp hm hl2).mono fun e w' ⟨h, b⟩ => ⟨_, h, .inl ⟨rfl, rfl⟩, b⟩
        · rw [h46_m hm]
          exact (head_piece_m p F T hF hT w h0 h1 h2 h3 hr hp hm).mono fun e w' ⟨h, b⟩ => ⟨_, h, .inl ⟨rfl, rfl⟩, b⟩
    · have hc : hcode p = 10 := hc
      exact (head_kind_r p F T hF hT w h0 h1 h2 h3 hr).mono fun e w' h => bad_head hc (by decide) h
end Go.Proofs.Ytkihhmnlefekoaa
