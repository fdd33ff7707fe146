/-
  Proved here: what a bit that is turned does to a byte and to a text's sum.
  Conditions: as each fact says.
-/
import Derived.Test.YtmfolkbmkfifcaaTells
namespace Go.Proofs.Ytmfolkbmkfifcaa
open Go.RowKit
theorem xor_u8 (a c : Nat) (ha : a < 256) (hc : c < 256) : bits .xor .u8 (a : Int) (c : Int) = ((a ^^^ c : Nat) : Int) := by
  have h1 : (BitVec.ofInt 8 (a : Int)).toNat = a := by
    rw [BitVec.ofInt_natCast, BitVec.toNat_ofNat]; exact Nat.mod_eq_of_lt (by omega)
  have h2 : (BitVec.ofInt 8 (c : Int)).toNat = c := by
    rw [BitVec.ofInt_natCast, BitVec.toNat_ofNat]; exact Nat.mod_eq_of_lt (by omega)
  have h3 : a ^^^ c < 2 ^ 8 := Nat.xor_lt_two_pow ha hc
  show IntKind.u8.wrap ((BitVec.ofInt 8 (a : Int) ^^^ BitVec.ofInt 8 (c : Int)).toNat : Int) = _
  rw [BitVec.toNat_xor, h1, h2]
  simp only [IntKind.wrap, IntKind.bits, IntKind.signed]
  simp
  omega
theorem turn_bit (c : UInt8) (m : Nat) (m' : Int) (hm' : m' = (m : Int)) (hm : m < 256) (h0 : 0 < m) : ∃ y : UInt8, bits .xor .u8 (c.toNat : Int) m' = (y.toNat : Int) ∧ y ≠ c ∧ y.toNat = c.toNat ^^^ m := by
  subst hm'
  have e : (c ^^^ UInt8.ofNat m).toNat = c.toNat ^^^ m := by rw [UInt8.toNat_xor, UInt8.toNat_ofNat', Nat.mod_eq_of_lt hm]
  refine ⟨c ^^^ UInt8.ofNat m, ?_, ?_, e⟩
  · rw [xor_u8 _ _ c.toNat_lt hm, e]
  · intro h
    have h1 := congrArg UInt8.toNat h
    rw [e] at h1
    have h2 : c.toNat ^^^ (c.toNat ^^^ m) = c.toNat ^^^ c.toNat := by rw [h1]
    rw [← Nat.xor_assoc, Nat.xor_self, Nat.zero_xor] at h2
    omega
theorem acc_mid (p r : List UInt8) : ∃ (x f : Nat), (f = 1 ∨ f = 256) ∧ ∀ c : UInt8, acc true (p ++ (c :: r)) = x + f * c.toNat := by
  cases he : evn p.length
  · refine ⟨acc true p + acc true r, 1, .inl rfl, fun c => ?_⟩
    rw [acc_append, he]
    show acc true p + (c.toNat + acc true r) = _
    omega
  · refine ⟨acc true p + acc false r, 256, .inr rfl, fun c => ?_⟩
    rw [acc_append, he]
    show acc true p + (c.toNat * 256 + acc false r) = _
    omega
theorem fold_near {a b : Nat} (h : a ≠ b) (h1 : a < b + 65535) (h2 : b < a + 65535) : fold a ≠ fold b := by
  intro he
  obtain ⟨q, hq⟩ := fold_form a
  obtain ⟨q', hq'⟩ := fold_form b
  rw [he] at hq
  have : q = q' := by omega
  omega
theorem sum_turned {l : List UInt8} {K : Nat} (hK : K < l.length) {y : UInt8} (hne : y ≠ l[K]) : sumL (l.set K y) ≠ sumL l := by
  obtain ⟨x, f, hf, hx⟩ := acc_mid (l.take K) (l.drop (K + 1))
  have e1 : acc true l = x + f * l[K].toNat := by
    have := hx l[K]
    rwa [List.getElem_cons_drop, List.take_append_drop] at this
  have e2 : acc true (l.set K y) = x + f * y.toNat := by
    rw [List.set_eq_take_append_cons_drop, if_pos hK]
    exact hx y
  have hn : y.toNat ≠ l[K].toNat := fun h => hne (UInt8.toNat_inj.1 h)
  have b1 := y.toNat_lt
  have b2 := l[K].toNat_lt
  have h9 : fold (acc true (l.set K y)) ≠ fold (acc true l) := by
    rw [e1, e2]
    rcases hf with rfl | rfl
    · exact fold_near (by omega) (by omega) (by omega)
    · exact fold_near (by omega) (by omega) (by omega)
  unfold sumL
  have := fold_le (acc true (l.set K y))
  have := fold_le (acc true l)
  omega
/-- A text with one byte changed. -/
def setB (s : ByteArray) (K : Nat) (y : UInt8) : ByteArray := ⟨(s.data.toList.set K y).toArray⟩
theorem setB_list (s : ByteArray) (K : Nat) (y : UInt8) : (setB s K y).data.toList = s.data.toList.set K y := rfl
theorem setB_size (s : ByteArray) (K : Nat) (y : UInt8) : (setB s K y).size = s.size := by
  rw [← ba_size, setB_list, List.length_set, ba_size]
end Go.Proofs.Ytmfolkbmkfifcaa
