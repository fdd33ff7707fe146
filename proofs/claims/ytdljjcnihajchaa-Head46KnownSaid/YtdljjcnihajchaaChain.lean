/-
  Proved here: what ip6.Chain answers.
  Conditions: a text of at most 70000 bytes.
-/
import Derived.Test.YtdljjcnihajchaaExt1
namespace Go.Proofs.Ytdljjcnihajchaa
open Go.RowKit

/-- An error of a code: none, or a new fault at place 0. -/
def ErrV (B : Nat) (c : Int) (v : Value) (w : World) : Prop :=
  (c = 0 ∧ v = .nilIface) ∨ (c ≠ 0 ∧ ∃ f, v = .iface 50 (.pointer (some ⟨f, 0, none⟩)) ∧ Flt w f c 0 ∧ B ≤ f)
theorem ErrV.below {B C : Nat} {c : Int} {v : Value} {w w' : World} (h : ErrV B c v w) (hb : Below C w w') (hC : w.heap.size ≤ C) : ErrV B c v w' := by
  rcases h with h | ⟨h1, f, h2, h3, h4⟩
  · exact .inl h
  · exact .inr ⟨h1, f, h2, h3.below hb (Nat.lt_of_lt_of_le h3.lt hC), h4⟩
theorem ext_ext (s : ByteArray) (p a : Nat) : (s.extract p s.size).extract a (s.extract p s.size).size = s.extract (p + a) s.size := by
  apply ba_ext
  rw [ext_end, ext_end, ext_end, List.drop_drop]
theorem ext_in (s : ByteArray) (p a b : Nat) : (s.extract p s.size).extract a b = s.extract (p + a) (p + b) := by
  apply ba_ext
  rw [ext_list, ext_end, ext_list, List.take_drop, List.drop_drop]
theorem ext_all (s : ByteArray) : s.extract 0 s.size = s := by
  apply ba_ext
  rw [ext_end]
  rfl
theorem inPl_no {m : Int} {l : List (Int × ByteArray)} : inPl m l.length = false ↔ m = 0 ∧ l ≠ [] := by
  unfold inPl
  cases l <;> simp
  omega
theorem grown_self {B : Nat} {w w1 w2 : World} (h : Below B w w1) (g : w1.grownBy w2 (some B)) (hB : B ≤ w1.heap.size) : Below B w w2 := h.grown g hB (fun k hk => by injection hk with hk; omega)
end Go.Proofs.Ytdljjcnihajchaa
