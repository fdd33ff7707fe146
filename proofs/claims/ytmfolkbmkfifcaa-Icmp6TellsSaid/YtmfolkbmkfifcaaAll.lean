/-
  Proved here: the five laws of layer 8 answer true whatever they are given.
  Conditions: Rest fits its places (what the program's functions answer is proved in Says).
-/
import Derived.Test.YtmfolkbmkfifcaaSays
import Derived.Test.YtmfolkbmkfifcaaCodesLaw
import Derived.Test.YtmfolkbmkfifcaaTellsLaw
import Derived.Test.YtmfolkbmkfifcaaIdsLaw
import Derived.Test.YtmfolkbmkfifcaaBackLaw
import Derived.Test.YtmfolkbmkfifcaaKnown
namespace Go.Proofs.Ytmfolkbmkfifcaa
open Go.RowKit

theorem icmp6Known_any  (w : World) :
    Calls Try.prog 3 #[] w fun e w' => e = .returned (.bool true) ∧ Below w.heap.size w w' := icmp6Known_all mSays w
theorem icmp6Codes_any (d : Ms) (s : ByteArray) (ps : ByteArray) (w : World) (hx : d.rs < 4294967296) :
    Calls Try.prog 4 #[.agg #[.int .i64 d.kd, .int .i64 d.cd, .int .u32 (d.rs : Nat), .string d.da], .string s, .string ps] w fun e w' => e = .returned (.bool true) ∧ Below w.heap.size w w' := icmp6Codes_all mSays d s ps hx w
theorem icmp6Tells_any (d : Ms) (id : Int) (w : World) (hx : d.rs < 4294967296) (hi : (Lit.int .i64 id).wf = true) :
    Calls Try.prog 5 #[.agg #[.int .i64 d.kd, .int .i64 d.cd, .int .u32 (d.rs : Nat), .string d.da], .int .i64 id] w fun e w' => e = .returned (.bool true) ∧ Below w.heap.size w w' := by
  have h1 : -9223372036854775808 ≤ id ∧ id ≤ 9223372036854775807 := by simpa [Lit.wf, IntKind.min, IntKind.max, IntKind.signed, IntKind.bits] using hi
  exact icmp6Tells_all mSays d id hx h1.1 h1.2 w
theorem icmp6Ids_any (d : Ms) (id : Int) (w : World) (hx : d.rs < 4294967296) (hi : (Lit.int .u16 id).wf = true) :
    Calls Try.prog 7 #[.agg #[.int .i64 d.kd, .int .i64 d.cd, .int .u32 (d.rs : Nat), .string d.da], .int .u16 id] w fun e w' => e = .returned (.bool true) ∧ Below w.heap.size w w' := by
  have h1 : 0 ≤ id ∧ id ≤ 65535 := by simpa [Lit.wf, IntKind.min, IntKind.max, IntKind.signed, IntKind.bits] using hi
  obtain ⟨m, rfl⟩ : ∃ m : Nat, id = m := ⟨id.toNat, by omega⟩
  exact icmp6Ids_all mSays d m (by omega) hx w
theorem icmp6Back_any (d : Ms) (s : ByteArray) (ps : ByteArray) (a b : Int) (w : World) (hx : d.rs < 4294967296) (ha : (Lit.int .u16 a).wf = true) (hb : (Lit.int .u8 b).wf = true) :
    Calls Try.prog 6 #[.agg #[.int .i64 d.kd, .int .i64 d.cd, .int .u32 (d.rs : Nat), .string d.da], .string s, .string ps, .int .u16 a, .int .u8 b] w fun e w' => e = .returned (.bool true) ∧ Below w.heap.size w w' := by
  have h1 : 0 ≤ a ∧ a ≤ 65535 := by simpa [Lit.wf, IntKind.min, IntKind.max, IntKind.signed, IntKind.bits] using ha
  have h2 : 0 ≤ b ∧ b ≤ 255 := by simpa [Lit.wf, IntKind.min, IntKind.max, IntKind.signed, IntKind.bits] using hb
  obtain ⟨m, rfl⟩ : ∃ m : Nat, a = m := ⟨a.toNat, by omega⟩
  obtain ⟨n, rfl⟩ : ∃ n : Nat, b = n := ⟨b.toNat, by omega⟩
  exact icmp6Back_all mSays d s ps m n (by omega) (by omega) hx w
end Go.Proofs.Ytmfolkbmkfifcaa
