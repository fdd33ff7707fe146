/-
  Proved here: what the document's Parse answers.
  Conditions: a text of at most 70000 bytes.
-/
import Derived.Test.YtjfkfeobmcnonaaRefPktWhy
import Derived.Test.YtjfkfeobmcnonaaRefPktOk
namespace Go.Proofs.Ytjfkfeobmcnonaa
open Go.RowKit

theorem rparse_ok (s : ByteArray) (w : World) (hs : s.size ≤ 70000) (h : pcode s = 0) :
    Calls Try.prog 21 #[.string s] w fun e w' => e = .returned (.tuple #[.agg (ppkt s).vals.toArray, .int .i64 0]) ∧ Below w.heap.size w w' := by
  obtain ⟨hm, hf, hw⟩ := pcode_ok h
  obtain ⟨g1, g2, g3, g4, g5, g6, g7⟩ := mcode_ok hm
  exact rpkt_ok s w hs g1 g2 g3 g4 g5 g6 g7 ((free_iff s (by omega)).1 hf) hw
theorem rparse_bad (s : ByteArray) (w : World) (hs : s.size ≤ 70000) (h : pcode s ≠ 0) :
    Calls Try.prog 21 #[.string s] w fun e w' => e = .returned (.tuple #[.agg pkt0.vals.toArray, .int .i64 (pcode s)]) ∧ Below w.heap.size w w' := by
  unfold pcode at *
  by_cases hm : mcode s = 0
  · obtain ⟨g1, g2, g3, g4, g5, g6, g7⟩ := mcode_ok hm
    rw [if_pos hm] at *
    by_cases hq : freeB (s.extract 0 (num2 s 2)) = true ∧ (ppkt s).why = 0
    · rw [if_pos hq] at h; exact absurd rfl h
    · rw [if_neg hq]
      by_cases h7 : num2 s 6 < 32768
      · have hf := (free_iff s (by omega)).2 h7
        exact rpkt_why s w hs g1 g2 g3 g4 g5 g6 g7 h7 (by rw [bne_iff_ne]; exact fun hy => hq ⟨hf, hy⟩)
      · exact rpkt_high s w hs g1 g2 g3 g4 g5 g6 g7 (by omega)
  · rw [if_neg hm] at *
    exact rparse_none s w hs hm
end Go.Proofs.Ytjfkfeobmcnonaa
