/-
  Proved here: the document's Why of any packet.
  Conditions: at most 20 extensions, sizes as in Sm.
-/
import Derived.Test.YtphemimpkbjfoaaRefWhyWhole
import Derived.Test.YtphemimpkbjfoaaRefWhyFrag
namespace Go.Proofs.Ytphemimpkbjfoaa
open Go.RowKit

theorem rwhy_any (p : Pk6) (v : Value) (w : World) (hx : Exs w v p.exts) (hs : Sm p) :
    Calls Try.prog 41 #[.agg (p.vals v).toArray] w fun e w' => e = .returned (.int .i64 p.why) ∧ Below w.heap.size w w' := by
  cases hb : p.bnd
  · have hw : p.why = 13 := by unfold Pk6.why; rw [if_pos hb]
    rw [hw]
    exact rwhy_bnd p v w hb
  · cases hn : p.exts.all (fun e => isExB e.1)
    · have hw : p.why = 10 := by unfold Pk6.why; rw [if_neg (by rw [hb]; decide), if_pos (by unfold Pk6.kinds; rw [hn]; rfl)]
      rw [hw]
      exact rwhy_ext p v w hx hs hb hn
    · cases hk : p.kinds
      · have hw : p.why = 10 := by unfold Pk6.why; rw [if_neg (by rw [hb]; decide), if_pos hk]
        rw [hw]
        unfold Pk6.kinds at hk
        rw [hn, Bool.true_and, Bool.or_eq_false_iff] at hk
        refine rwhy_proto p v w hx hs hb hn hk.1 ?_
        have h2 := hk.2
        cases h3 : isExB p.proto
        · rw [h3] at h2
          have : p.proto = 44 := by simpa using h2
          exact .inr (.inr (.inl this))
        · rcases isExB_yes h3 with h | h | h
          · exact .inl h
          · exact .inr (.inl h)
          · exact .inr (.inr (.inr h))
      · cases hf : formed p.exts
        · have hw : p.why = 8 := by unfold Pk6.why; rw [if_neg (by rw [hb]; decide), if_neg (by rw [hk]; decide), if_pos (.inl hf)]
          rw [hw]
          exact rwhy_form p v w hx hs hb hk hf
        · cases hg : p.frag
          · exact rwhy_whole p v w hx hs hb hk hf hg
          · exact rwhy_frag p v w hx hs hb hk hf hg
end Go.Proofs.Ytphemimpkbjfoaa
