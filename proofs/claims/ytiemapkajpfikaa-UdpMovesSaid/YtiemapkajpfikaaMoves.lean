/-
  Proved here: the law UdpMoves answers true whatever it is given.
  Conditions: none.
-/
import Derived.Test.YtiemapkajpfikaaSays
import Derived.Test.YtiemapkajpfikaaMovesLaw
namespace Go.Proofs.Ytiemapkajpfikaa
open Go.RowKit
theorem udpMoves_any (d : Dg) (ps pt : ByteArray) (a b : Int) (w : World) (ha : (Lit.int .u16 a).wf = true) (hb : (Lit.int .u16 b).wf = true) :
    Calls Try.prog 7 #[.agg #[.int .i64 d.fr, .int .i64 d.dst, .int .i64 d.sm, .string d.data], .string ps, .string pt, .int .u16 a, .int .u16 b] w fun e w' => e = .returned (.bool true) ∧ Below w.heap.size w w' := by
  have h1 : 0 ≤ a ∧ a ≤ 65535 := by simpa [Lit.wf, IntKind.min, IntKind.max, IntKind.signed, IntKind.bits] using ha
  have h2 : 0 ≤ b ∧ b ≤ 65535 := by simpa [Lit.wf, IntKind.min, IntKind.max, IntKind.signed, IntKind.bits] using hb
  obtain ⟨m, rfl⟩ : ∃ m : Nat, a = m := ⟨a.toNat, by omega⟩
  obtain ⟨n, rfl⟩ : ∃ n : Nat, b = n := ⟨b.toNat, by omega⟩
  exact udpMoves_all uSays d ps pt m n (by omega) (by omega) w
end Go.Proofs.Ytiemapkajpfikaa
