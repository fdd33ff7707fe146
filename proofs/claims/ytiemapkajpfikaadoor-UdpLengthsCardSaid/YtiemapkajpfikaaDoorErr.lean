/-
  Proved here: what the laws' own same answers; what the program's three functions are asked to answer, as one predicate (USays); a datagram equals itself.
  Conditions: none.
-/
import Derived.Test.YtiemapkajpfikaaDoorFlt
namespace Go.Proofs.YtiemapkajpfikaaDoor
open Go.RowKit

/-- An error of a code: none, or a new fault at place 0. -/
def ErrV (B : Nat) (c : Int) (v : Value) (w : World) : Prop :=
  (c = 0 ∧ v = .nilIface) ∨ (c ≠ 0 ∧ ∃ f, v = .iface 38 (.pointer (some ⟨f, 0, none⟩)) ∧ Flt w f c 0 ∧ B ≤ f)
theorem ErrV.below {B C : Nat} {c : Int} {v : Value} {w w' : World} (h : ErrV B c v w) (hb : Below C w w') (hC : w.heap.size ≤ C) : ErrV B c v w' := by
  rcases h with h | ⟨h1, f, h2, h3, h4⟩
  · exact .inl h
  · exact .inr ⟨h1, f, h2, h3.below hb (Nat.lt_of_lt_of_le h3.lt hC), h4⟩
theorem ErrV.nil {B : Nat} {v : Value} {w : World} (h : ErrV B 0 v w) : v = .nilIface := by
  rcases h with ⟨_, h⟩ | ⟨h, _⟩
  · exact h
  · exact absurd rfl h
/-- What the program's functions answer. -/
structure USays : Prop where
  parse : ∀ (s : ByteArray) (W : World), s.size ≤ 70000 → Calls Tryd.prog 5 #[.string s] W fun e w' => ∃ x, e = .returned (.tuple #[.agg #[.int .i64 (dans s).fr, .int .i64 (dans s).dst, .int .i64 (dans s).sm, .string (dans s).data], x]) ∧ ErrV W.heap.size (dcode s) x w' ∧ Below W.heap.size W w'
  check : ∀ (s ps : ByteArray) (W : World), s.size ≤ 70000 → ps.size ≤ 1000 → Calls Tryd.prog 7 #[.string s, .string ps] W fun e w' => ∃ x, e = .returned x ∧ ErrV W.heap.size (ccode s ps) x w' ∧ Below W.heap.size W w'
  bytes : ∀ (d : Dg) (ps : ByteArray) (W : World), d.data.size ≤ 70000 → ps.size ≤ 1000 → Calls Tryd.prog 8 #[.agg #[.int .i64 d.fr, .int .i64 d.dst, .int .i64 d.sm, .string d.data], .string ps] W fun e w' => ∃ x, e = .returned (.tuple #[.string (d.out ps), x]) ∧ ErrV W.heap.size d.why x w' ∧ Below W.heap.size W w'
theorem Tryd.fieldsDg : Tryd.prog.underlying 24 = some (.struct (Tryd.prog.fieldsOf 24)) := by kernel_rfl
theorem Tryd.heldDg : Tryd.prog.stoodInHeld 24 = false := by kernel_rfl
theorem eqlDg (a b c : Int) (d : ByteArray) (w : World) : (binOp .eql 24 (.agg #[.int .i64 a, .int .i64 b, .int .i64 c, .string d]) (.agg #[.int .i64 a, .int .i64 b, .int .i64 c, .string d])).run Tryd.prog w = .ok (.bool true) w := by
  have q0 : ∀ W, (part 3 #[.int .i64 a, .int .i64 b, .int .i64 c, .string d] 0).run Tryd.prog W = .ok (.int .i64 a) W := fun _ => by kernel_rfl
  have q1 : ∀ W, (part 3 #[.int .i64 a, .int .i64 b, .int .i64 c, .string d] 1).run Tryd.prog W = .ok (.int .i64 b) W := fun _ => by kernel_rfl
  have q2 : ∀ W, (part 3 #[.int .i64 a, .int .i64 b, .int .i64 c, .string d] 2).run Tryd.prog W = .ok (.int .i64 c) W := fun _ => by kernel_rfl
  have q3 : ∀ W, (part 9 #[.int .i64 a, .int .i64 b, .int .i64 c, .string d] 3).run Tryd.prog W = .ok (.string d) W := fun _ => by kernel_rfl
  have hn := fun (x : Int) (W : World) => run_equalIn_int (P := Tryd.prog) W 9998 3 .i64 .i64 x x Tryd.underlying3
  have hs := fun (x : ByteArray) (W : World) => run_equalIn_string (P := Tryd.prog) W 9998 9 x x Tryd.underlying9
  rw [run_eql_struct, run_equalIn_struct w 9999 24 _ _ Tryd.fieldsDg Tryd.heldDg]
  simp only [Program.fieldsOf, Tryd.underlying24]
  simp [Op.eqFields, q0, q1, q2, q3, hn, hs]
end Go.Proofs.YtiemapkajpfikaaDoor
