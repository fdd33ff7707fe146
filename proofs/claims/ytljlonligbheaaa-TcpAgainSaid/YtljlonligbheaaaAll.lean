/-
  Proved here: the six laws of layer 6 answer true whatever they are given.
  Conditions: none (what the program's functions answer is proved in Says).
-/
import Derived.Test.YtljlonligbheaaaSays
import Derived.Test.YtljlonligbheaaaWritesLaw
import Derived.Test.YtljlonligbheaaaReadsLaw
import Derived.Test.YtljlonligbheaaaAgainLaw
import Derived.Test.YtljlonligbheaaaKnown
namespace Go.Proofs.Ytljlonligbheaaa
open Go.RowKit
theorem tcpKnown_any (w : World) :
    Calls Try.prog 3 #[] w fun e w' => e = .returned (.bool true) ∧ Below w.heap.size w w' := tcpKnown_all tSays w
theorem tcpWrites_any (d : Sg) (ps : ByteArray) (w : World) :
    Calls Try.prog 5 #[.agg #[.int .i64 d.fr, .int .i64 d.dst, .int .i64 d.fl, .string d.raw], .string ps] w fun e w' => e = .returned (.bool true) ∧ Below w.heap.size w w' := tcpWrites_all tSays d ps w
theorem tcpReads_any (s ps : ByteArray) (w : World) :
    Calls Try.prog 4 #[.string s, .string ps] w fun e w' => e = .returned (.bool true) ∧ Below w.heap.size w w' := tcpReads_all tSays s ps w
theorem tcpBack_any (d : Sg) (ps : ByteArray) (a b : Int) (w : World) (ha : (Lit.int .u16 a).wf = true) (hb : (Lit.int .u8 b).wf = true) :
    Calls Try.prog 6 #[.agg #[.int .i64 d.fr, .int .i64 d.dst, .int .i64 d.fl, .string d.raw], .string ps, .int .u16 a, .int .u8 b] w fun e w' => e = .returned (.bool true) ∧ Below w.heap.size w w' := by
  have h1 : 0 ≤ a ∧ a ≤ 65535 := by simpa [Lit.wf, IntKind.min, IntKind.max, IntKind.signed, IntKind.bits] using ha
  have h2 : 0 ≤ b ∧ b ≤ 255 := by simpa [Lit.wf, IntKind.min, IntKind.max, IntKind.signed, IntKind.bits] using hb
  obtain ⟨m, rfl⟩ : ∃ m : Nat, a = m := ⟨a.toNat, by omega⟩
  obtain ⟨n, rfl⟩ : ∃ n : Nat, b = n := ⟨b.toNat, by omega⟩
  exact tcpBack_all tSays d ps m n (by omega) (by omega) w
theorem tcpAgain_any (s ps : ByteArray) (a b : Int) (w : World) (ha : (Lit.int .u16 a).wf = true) (hb : (Lit.int .u16 b).wf = true) :
    Calls Try.prog 7 #[.string s, .string ps, .int .u16 a, .int .u16 b] w fun e w' => e = .returned (.bool true) ∧ Below w.heap.size w w' := by
  have h1 : 0 ≤ a ∧ a ≤ 65535 := by simpa [Lit.wf, IntKind.min, IntKind.max, IntKind.signed, IntKind.bits] using ha
  have h2 : 0 ≤ b ∧ b ≤ 65535 := by simpa [Lit.wf, IntKind.min, IntKind.max, IntKind.signed, IntKind.bits] using hb
  obtain ⟨m, rfl⟩ : ∃ m : Nat, a = m := ⟨a.toNat, by omega⟩
  obtain ⟨n, rfl⟩ : ∃ n : Nat, b = n := ⟨b.toNat, by omega⟩
  exact tcpAgain_all tSays s ps m n (by omega) (by omega) w
theorem tcpMoves_any (d : Sg) (ps pt : ByteArray) (w : World) :
    Calls Try.prog 8 #[.agg #[.int .i64 d.fr, .int .i64 d.dst, .int .i64 d.fl, .string d.raw], .string ps, .string pt] w fun e w' => e = .returned (.bool true) ∧ Below w.heap.size w w' := tcpMoves_all tSays d ps pt w
end Go.Proofs.Ytljlonligbheaaa
