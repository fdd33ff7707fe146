/-
  Proved here: what ip4.Bytes answers.
  Conditions: texts of at most 70000 bytes.
-/
import Derived.Test.YtdljjcnihajchaaFRefusal
import Derived.Test.YtdljjcnihajchaaFReader
namespace Go.Proofs.Ytdljjcnihajchaa.P4
open Go.RowKit

/-- A call that answers v and a fault of code c at place 0. -/
def Bad (v : Value) (c : Int) (w : World) (e : Ending) (w' : World) : Prop :=
  ∃ b, e = .returned (.tuple #[v, .iface 50 (.pointer (some ⟨b, 0, none⟩))]) ∧ Flt w' b c 0 ∧ w.heap.size ≤ b ∧ Below w.heap.size w w'
theorem why_ok {p : Pkt} (h : p.why = 0) : p.bnd = true ∧ p.opts.size ≤ 40 ∧ p.opts.size % 4 = 0 ∧ (p.more = true → p.data.size ≠ 0 ∧ p.data.size % 8 = 0) ∧ 20 + p.opts.size + p.pl + p.data.size ≤ 65535 := by
  unfold Pkt.why Pkt.long at h
  cases hb : p.bnd
  · rw [hb, if_pos rfl] at h; cases h
  · rw [hb, if_neg (by simp)] at h
    by_cases h1 : 40 < p.opts.size ∨ p.opts.size % 4 ≠ 0
    · rw [if_pos h1] at h; cases h
    · rw [if_neg h1] at h
      by_cases h2 : p.more = true ∧ (p.data.size = 0 ∨ p.data.size % 8 ≠ 0)
      · rw [if_pos h2] at h; cases h
      · rw [if_neg h2] at h
        by_cases h3 : 65535 < 20 + p.opts.size + p.pl + p.data.size
        · rw [if_pos h3] at h; cases h
        · refine ⟨rfl, by omega, by omega, fun hm => ?_, by omega⟩
          have : ¬ (p.data.size = 0 ∨ p.data.size % 8 ≠ 0) := fun hh => h2 ⟨hm, hh⟩
          omega

end Go.Proofs.Ytdljjcnihajchaa.P4
