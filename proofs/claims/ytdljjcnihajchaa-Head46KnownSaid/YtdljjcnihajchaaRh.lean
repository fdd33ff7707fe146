/-
  Proved here: what the document's Head answers, in one.
  Conditions: a text of at most 70000 bytes as options.
-/
import Derived.Test.YtdljjcnihajchaaRhc
import Derived.Test.YtdljjcnihajchaaRhd
import Derived.Test.YtdljjcnihajchaaHp
namespace Go.Proofs.Ytdljjcnihajchaa
open Go.RowKit

theorem rhead_any (p : P4.Pkt) (F T : List UInt8) (hF : F.length = 16) (hT : T.length = 16) (w : World) (hs : p.opts.size ≤ 70000) :
    Calls Try.prog 11 #[.agg p.vals.toArray, .agg (bytV F).toArray, .agg (bytV T).toArray] w fun e w' => e = .returned (.tuple #[.agg ((hout p F T hF hT).vals (.slice none 0 0)).toArray, .int .i64 (hcode p)]) ∧ Below w.heap.size w w' := by
  by_cases h0 : p.ttl < 2
  · have hc := hcode_range (p := p) (.inl h0)
    rw [hout_bad (by rw [hc]; decide), hc]
    exact rhead_range_a p F T hF hT w h0
  by_cases h1 : 255 < p.ttl
  · have hc := hcode_range (p := p) (.inr (.inl h1))
    rw [hout_bad (by rw [hc]; decide), hc]
    exact rhead_range_b p F T hF hT w h0 h1
  by_cases h2 : p.tos < 0
  · have hc := hcode_range (p := p) (.inr (.inr (.inl h2)))
    rw [hout_bad (by rw [hc]; decide), hc]
    exact rhead_range_c p F T hF hT w h0 h1 h2
  by_cases h3 : 255 < p.tos
  · have hc := hcode_range (p := p) (.inr (.inr (.inr h3)))
    rw [hout_bad (by rw [hc]; decide), hc]
    exact rhead_range_d p F T hF hT w h0 h1 h2 h3
  have hc := hcode_in h0 h1 h2 h3
  cases hr : P4.rtE p.opts.data.toList false with
  | none =>
    rw [hr] at hc
    have hc : hcode p = 8 := hc
    rw [hout_bad (by rw [hc]; decide), hc]
    exact rhead_form p F T hF hT w h0 h1 h2 h3 hs hr
  | some b =>
    rw [hr] at hc
    cases b
    · cases hp : prOk p.proto
      · rw [hp] at hc
        have hc : hcode p = 10 := hc
        rw [hout_bad (by rw [hc]; decide), hc]
        exact rhead_kind_p p F T hF hT w h0 h1 h2 h3 hs hr hp
      · rw [hp] at hc
        have hc : hcode p = 0 := hc
        rw [hout_ok hc, hc]
        cases hm : p.more
        · by_cases hl : p.pl = 0
          · rw [h46_whole hm hl]
            exact rhead_whole p F T hF hT w h0 h1 h2 h3 hs hr hp hm hl
          · have hl2 : (p.pl != 0) = true := by rw [bne_iff_ne]; exact hl
            rw [h46_a hm hl2]
            exact rhead_piece_a p F T hF hT w h0 h1 h2 h3 hs hr hp hm hl2
        · rw [h46_m hm]
          exact rhead_piece_m p F T hF hT w h0 h1 h2 h3 hs hr hp hm
    · have hc : hcode p = 10 := hc
      rw [hout_bad (by rw [hc]; decide), hc]
      exact rhead_kind_r p F T hF hT w h0 h1 h2 h3 hs hr
end Go.Proofs.Ytdljjcnihajchaa
