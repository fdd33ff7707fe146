/-
  Proved here: what the laws' own same answers; what the program's five functions are asked to answer, as one predicate (MSays); a message equals itself.
  Conditions: none.
-/
import Derived.Test.YtmfolkbmkfifcaaFlt
namespace Go.Proofs.Ytmfolkbmkfifcaa
open Go.RowKit

/-- An error of a code: none, or a new fault at place 0. -/
def ErrV (B : Nat) (c : Int) (v : Value) (w : World) : Prop :=
  (c = 0 ∧ v = .nilIface) ∨ (c ≠ 0 ∧ ∃ f, v = .iface 59 (.pointer (some ⟨f, 0, none⟩)) ∧ Flt w f c 0 ∧ B ≤ f)
theorem ErrV.below {B C : Nat} {c : Int} {v : Value} {w w' : World} (h : ErrV B c v w) (hb : Below C w w') (hC : w.heap.size ≤ C) : ErrV B c v w' := by
  rcases h with h | ⟨h1, f, h2, h3, h4⟩
  · exact .inl h
  · exact .inr ⟨h1, f, h2, h3.below hb (Nat.lt_of_lt_of_le h3.lt hC), h4⟩
theorem ErrV.nil {B : Nat} {v : Value} {w : World} (h : ErrV B 0 v w) : v = .nilIface := by
  rcases h with ⟨_, h⟩ | ⟨h, _⟩
  · exact h
  · exact absurd rfl h
/-- What the program's functions answer. -/
structure MSays : Prop where
  parse : ∀ (s ps : ByteArray) (W : World), s.size ≤ 78000 → ps.size ≤ 1000 → Calls Try.prog 10 #[.string s, .string ps] W fun e w' => ∃ x, e = .returned (.tuple #[.agg #[.int .i64 (mans ps s).kd, .int .i64 (mans ps s).cd, .int .u32 ((mans ps s).rs : Nat), .string (mans ps s).da], x]) ∧ ErrV W.heap.size (mcode ps s) x w' ∧ Below W.heap.size W w'
  bytes : ∀ (d : Ms) (ps : ByteArray) (W : World), d.rs < 4294967296 → d.da.size ≤ 78000 → ps.size ≤ 1000 → Calls Try.prog 11 #[.agg #[.int .i64 d.kd, .int .i64 d.cd, .int .u32 (d.rs : Nat), .string d.da], .string ps] W fun e w' => ∃ x, e = .returned (.tuple #[.string (d.out ps), x]) ∧ ErrV W.heap.size d.why x w' ∧ Below W.heap.size W w'
  echo : ∀ (d : Ms) (W : World), d.rs < 4294967296 → Calls Try.prog 8 #[.agg #[.int .i64 d.kd, .int .i64 d.cd, .int .u32 (d.rs : Nat), .string d.da]] W fun e w' => e = .returned (.tuple #[.int .i64 d.idn, .bool d.asks, .bool d.is]) ∧ Below W.heap.size W w'
  withId : ∀ (d : Ms) (id : Int) (W : World), d.rs < 4294967296 → -9223372036854775808 ≤ id → id ≤ 9223372036854775807 → Calls Try.prog 13 #[.agg #[.int .i64 d.kd, .int .i64 d.cd, .int .u32 (d.rs : Nat), .string d.da], .int .i64 id] W fun e w' => e = .returned (.agg #[.int .i64 (d.withId id).kd, .int .i64 (d.withId id).cd, .int .u32 ((d.withId id).rs : Nat), .string (d.withId id).da]) ∧ Below W.heap.size W w'
  fails : ∀ (d : Ms) (W : World), d.rs < 4294967296 → Calls Try.prog 14 #[.agg #[.int .i64 d.kd, .int .i64 d.cd, .int .u32 (d.rs : Nat), .string d.da]] W fun e w' => e = .returned (.bool d.fails) ∧ Below W.heap.size W w'
theorem same_ok (w : World) :
    Calls Try.prog 15 #[.nilIface, .int .i64 0] w fun e w' => e = .returned (.bool true) ∧ w = w' := by
  go_enter Try.func15, Try.ntmps15
  go_wp2_with fail
  go_ret
  exact ⟨rfl, rfl⟩
theorem Try.isFault (v : Option Addr) (w : World) : (Instr.typeAssert (.iface 59 (.pointer v)) 29 59 true).run Try.prog w = .ok (.tuple #[.pointer v, .bool true]) w := by kernel_rfl
set_option maxRecDepth 100000 in
theorem same_fault {w : World} {b : Nat} {c : Int} (hf : Flt w b c 0) (hc : (c == 0) = false) :
    Calls Try.prog 15 #[.iface 59 (.pointer (some ⟨b, 0, none⟩)), .int .i64 c] w fun e w' => e = .returned (.bool true) ∧ w = w' := by
  have c0 := hf.c0
  have c1 := hf.c1
  have hT := Try.isFault
  clear hf
  go_enter Try.func15, Try.ntmps15
  go_wp2_with fail
  go_ret
  exact ⟨rfl, rfl⟩
/-- An error of a code is the one of that code. -/
theorem same_any {w : World} {B : Nat} {c : Int} {x : Value} (h : ErrV B c x w) :
    Calls Try.prog 15 #[x, .int .i64 c] w fun e w' => e = .returned (.bool true) ∧ w = w' := by
  rcases h with ⟨rfl, rfl⟩ | ⟨hc, f, rfl, hf, _⟩
  · exact same_ok w
  · exact same_fault hf (by rw [beq_eq_false_iff_ne]; exact hc)
theorem Try.fieldsMs : Try.prog.underlying 26 = some (.struct (Try.prog.fieldsOf 26)) := by kernel_rfl
theorem Try.heldMs : Try.prog.stoodInHeld 26 = false := by kernel_rfl
theorem eqlMs (a b c : Int) (d : ByteArray) (w : World) : (binOp .eql 26 (.agg #[.int .i64 a, .int .i64 b, .int .u32 c, .string d]) (.agg #[.int .i64 a, .int .i64 b, .int .u32 c, .string d])).run Try.prog w = .ok (.bool true) w := by
  have q0 : ∀ W, (part 3 #[.int .i64 a, .int .i64 b, .int .u32 c, .string d] 0).run Try.prog W = .ok (.int .i64 a) W := fun _ => by kernel_rfl
  have q1 : ∀ W, (part 3 #[.int .i64 a, .int .i64 b, .int .u32 c, .string d] 1).run Try.prog W = .ok (.int .i64 b) W := fun _ => by kernel_rfl
  have q2 : ∀ W, (part 24 #[.int .i64 a, .int .i64 b, .int .u32 c, .string d] 2).run Try.prog W = .ok (.int .u32 c) W := fun _ => by kernel_rfl
  have q3 : ∀ W, (part 9 #[.int .i64 a, .int .i64 b, .int .u32 c, .string d] 3).run Try.prog W = .ok (.string d) W := fun _ => by kernel_rfl
  have hn := fun (x : Int) (W : World) => run_equalIn_int (P := Try.prog) W 9998 3 .i64 .i64 x x Try.underlying3
  have hu := fun (x : Int) (W : World) => run_equalIn_int (P := Try.prog) W 9998 24 .u32 .u32 x x Try.underlying24
  have hs := fun (x : ByteArray) (W : World) => run_equalIn_string (P := Try.prog) W 9998 9 x x Try.underlying9
  rw [run_eql_struct, run_equalIn_struct w 9999 26 _ _ Try.fieldsMs Try.heldMs]
  simp only [Program.fieldsOf, Try.underlying26]
  simp [Op.eqFields, q0, q1, q2, q3, hn, hu, hs]
end Go.Proofs.Ytmfolkbmkfifcaa
