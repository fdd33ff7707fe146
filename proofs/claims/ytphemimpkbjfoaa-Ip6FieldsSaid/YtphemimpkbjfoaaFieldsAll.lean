/-
  Proved here: the law Ip6Fields answers true whatever it is given.
  Conditions: the packet's sizes are within the form's own reach.
-/
import Derived.Test.YtphemimpkbjfoaaFields
namespace Go.Proofs.Ytphemimpkbjfoaa
open Go.RowKit

theorem ip6Fields_any (p : Pk6) (v : Value) (h i : Int) (w : World) (hx : Exs w v p.exts) (hr : Reach6 p) (hh : (Lit.int .u8 h).wf = true) (hi : (Lit.int .u32 i).wf = true) :
    Calls Try.prog 10 #[.agg (p.vals v).toArray, .int .u8 h, .int .u32 i] w fun e w' => e = .returned (.bool true) ∧ Below w.heap.size w w' := by
  have h3 : 0 ≤ h ∧ h ≤ 255 := by simpa [Lit.wf, IntKind.min, IntKind.max, IntKind.signed, IntKind.bits] using hh
  have h4 : 0 ≤ i ∧ i ≤ 4294967295 := by simpa [Lit.wf, IntKind.min, IntKind.max, IntKind.signed, IntKind.bits] using hi
  cases hg : p.great
  · by_cases hw : p.why = 0
    · cases hf : p.frag
      · by_cases hb : p.behind + 8 ≤ 65535
        · exact ip6Fields_whole p v h i w hx hr hg h3.1 h3.2 ⟨h4.1, by omega⟩ hw hf hb
        · exact ip6Fields_over p v h i w hx hr hg h3.1 h3.2 hw hf hb
      · exact ip6Fields_frag p v h i w hx hr hg h3.1 h3.2 hw hf
    · exact ip6Fields_bad p v h i w hx hr hg h3.1 h3.2 hw
  · exact ip6Fields_great p v h i w hx hr hg
end Go.Proofs.Ytphemimpkbjfoaa
