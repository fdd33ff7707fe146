/-
  Proved here: the laws UdpWrites, UdpBack and UdpReads answer true whatever they are given.
  Conditions: none (what the program's functions answer is proved in Says).
-/
import Derived.Test.YtiemapkajpfikaaSays
import Derived.Test.YtiemapkajpfikaaWritesLaw
import Derived.Test.YtiemapkajpfikaaBackLaw
import Derived.Test.YtiemapkajpfikaaReadsLaw
namespace Go.Proofs.Ytiemapkajpfikaa
open Go.RowKit
theorem udpWrites_any (d : Dg) (ps : ByteArray) (w : World) :
    Calls Try.prog 5 #[.agg #[.int .i64 d.fr, .int .i64 d.dst, .int .i64 d.sm, .string d.data], .string ps] w fun e w' => e = .returned (.bool true) ∧ Below w.heap.size w w' := udpWrites_all uSays d ps w
theorem udpBack_any (d : Dg) (ps : ByteArray) (a b : Int) (w : World) (ha : (Lit.int .u16 a).wf = true) (hb : (Lit.int .u8 b).wf = true) :
    Calls Try.prog 6 #[.agg #[.int .i64 d.fr, .int .i64 d.dst, .int .i64 d.sm, .string d.data], .string ps, .int .u16 a, .int .u8 b] w fun e w' => e = .returned (.bool true) ∧ Below w.heap.size w w' := by
  have h1 : 0 ≤ a ∧ a ≤ 65535 := by simpa [Lit.wf, IntKind.min, IntKind.max, IntKind.signed, IntKind.bits] using ha
  have h2 : 0 ≤ b ∧ b ≤ 255 := by simpa [Lit.wf, IntKind.min, IntKind.max, IntKind.signed, IntKind.bits] using hb
  obtain ⟨m, rfl⟩ : ∃ m : Nat, a = m := ⟨a.toNat, by omega⟩
  obtain ⟨n, rfl⟩ : ∃ n : Nat, b = n := ⟨b.toNat, by omega⟩
  exact udpBack_all uSays d ps m n (by omega) (by omega) w
theorem udpReads_any (s ps : ByteArray) (w : World) :
    Calls Try.prog 4 #[.string s, .string ps] w fun e w' => e = .returned (.bool true) ∧ Below w.heap.size w w' := udpReads_all uSays s ps w
end Go.Proofs.Ytiemapkajpfikaa
