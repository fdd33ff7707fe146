/-
  Proved here: a packet's bytes with one byte of the head changed are no packet, unless it is the first one and its higher four bits stay.
  Conditions: the packet may be.
-/
import Derived.Test.YtjfkfeobmcnonaaCutPlain
namespace Go.Proofs.Ytjfkfeobmcnonaa
open Go.RowKit

theorem xor_u8 (a c : Nat) (ha : a < 256) (hc : c < 256) : bits .xor .u8 (a : Int) (c : Int) = ((a ^^^ c : Nat) : Int) := by
  have h1 : (BitVec.ofInt 8 (a : Int)).toNat = a := by
    rw [BitVec.ofInt_natCast, BitVec.toNat_ofNat]; exact Nat.mod_eq_of_lt (by omega)
  have h2 : (BitVec.ofInt 8 (c : Int)).toNat = c := by
    rw [BitVec.ofInt_natCast, BitVec.toNat_ofNat]; exact Nat.mod_eq_of_lt (by omega)
  have h3 : a ^^^ c < 2 ^ 8 := Nat.xor_lt_two_pow ha hc
  show IntKind.u8.wrap ((BitVec.ofInt 8 (a : Int) ^^^ BitVec.ofInt 8 (c : Int)).toNat : Int) = _
  rw [BitVec.toNat_xor, h1, h2]
  simp only [IntKind.wrap, IntKind.bits, IntKind.signed]
  simp
  omega
theorem turn_bit (c : UInt8) (m : Nat) (m' : Int) (hm' : m' = (m : Int)) (hm : m < 256) (h0 : 0 < m) : ∃ y : UInt8, bits .xor .u8 (c.toNat : Int) m' = (y.toNat : Int) ∧ y ≠ c ∧ y.toNat = c.toNat ^^^ m := by
  subst hm'
  have e : (c ^^^ UInt8.ofNat m).toNat = c.toNat ^^^ m := by rw [UInt8.toNat_xor, UInt8.toNat_ofNat', Nat.mod_eq_of_lt hm]
  refine ⟨c ^^^ UInt8.ofNat m, ?_, ?_, e⟩
  · rw [xor_u8 _ _ c.toNat_lt hm, e]
  · intro h
    have h1 := congrArg UInt8.toNat h
    rw [e] at h1
    have h2 : c.toNat ^^^ (c.toNat ^^^ m) = c.toNat ^^^ c.toNat := by rw [h1]
    rw [← Nat.xor_assoc, Nat.xor_self, Nat.zero_xor] at h2
    omega
theorem acc_mid (p r : List UInt8) : ∃ (x f : Nat), (f = 1 ∨ f = 256) ∧ ∀ c : UInt8, acc true (p ++ (c :: r)) = x + f * c.toNat := by
  cases he : evn p.length
  · refine ⟨acc true p + acc true r, 1, .inl rfl, fun c => ?_⟩
    rw [acc_append, he]
    show acc true p + (c.toNat + acc true r) = _
    omega
  · refine ⟨acc true p + acc false r, 256, .inr rfl, fun c => ?_⟩
    rw [acc_append, he]
    show acc true p + (c.toNat * 256 + acc false r) = _
    omega
theorem fold_near {a b : Nat} (h : a ≠ b) (h1 : a < b + 65535) (h2 : b < a + 65535) : fold a ≠ fold b := by
  intro he
  obtain ⟨q, hq⟩ := fold_form a
  obtain ⟨q', hq'⟩ := fold_form b
  rw [he] at hq
  have : q = q' := by omega
  omega
theorem sum_turned {l : List UInt8} {K : Nat} (hK : K < l.length) {y : UInt8} (hne : y ≠ l[K]) : sumL (l.set K y) ≠ sumL l := by
  obtain ⟨x, f, hf, hx⟩ := acc_mid (l.take K) (l.drop (K + 1))
  have e1 : acc true l = x + f * l[K].toNat := by
    have := hx l[K]
    rwa [List.getElem_cons_drop, List.take_append_drop] at this
  have e2 : acc true (l.set K y) = x + f * y.toNat := by
    rw [List.set_eq_take_append_cons_drop, if_pos hK]
    exact hx y
  have hn : y.toNat ≠ l[K].toNat := fun h => hne (UInt8.toNat_inj.1 h)
  have b1 := y.toNat_lt
  have b2 := l[K].toNat_lt
  have h9 : fold (acc true (l.set K y)) ≠ fold (acc true l) := by
    rw [e1, e2]
    rcases hf with rfl | rfl
    · exact fold_near (by omega) (by omega) (by omega)
    · exact fold_near (by omega) (by omega) (by omega)
  unfold sumL
  have := fold_le (acc true (l.set K y))
  have := fold_le (acc true l)
  omega
/-- A text with one byte changed. -/
def setB (s : ByteArray) (K : Nat) (y : UInt8) : ByteArray := ⟨(s.data.toList.set K y).toArray⟩
theorem setB_list (s : ByteArray) (K : Nat) (y : UInt8) : (setB s K y).data.toList = s.data.toList.set K y := rfl
theorem setB_size (s : ByteArray) (K : Nat) (y : UInt8) : (setB s K y).size = s.size := by
  rw [← ba_size, setB_list, List.length_set, ba_size]
theorem turn_code {p : Pkt} (hw : p.why = 0) (K : Nat) (hK : K < 20 + p.opts.size) (hK' : K < p.bytes.size) (y : UInt8) (hy : y ≠ p.bytes[K]'hK') (hn : K = 0 → y.toNat / 16 ≠ 4) : pcode (setB p.bytes K y) ≠ 0 := by
  intro h
  obtain ⟨hb, ho, ho4, _, hl⟩ := why_ok hw
  have B := begins p hw ⟨#[]⟩
  rw [ba_nil] at B
  obtain ⟨h20, hk, _, _, hr, _, _⟩ := mcode_ok (pcode_ok h).1
  rcases Nat.eq_zero_or_pos K with rfl | hp
  · refine hn rfl ?_
    have e : byN (setB p.bytes 0 y) 0 = y.toNat := by
      unfold byN
      rw [setB_list, List.getD_eq_getElem?_getD, List.getElem?_set_self (by rw [ba_size]; exact hK')]
      rfl
    rw [← e]
    exact hk
  · have e : byN (setB p.bytes K y) 0 = byN p.bytes 0 := by
      unfold byN
      rw [setB_list, List.getD_eq_getElem?_getD, List.getElem?_set_ne (by omega), ← List.getD_eq_getElem?_getD]
    have eh : hdN (setB p.bytes K y) = 20 + p.opts.size := by
      rw [← B.hd]
      unfold hdN
      rw [e]
    rw [eh, ext_list, List.drop_zero, setB_list, List.take_set] at hr
    have h1 := (rightB_iff _).1 hr
    have hh := head_right p ho
    have e2 : (p.headB p.sum).data.toList = p.bytes.data.toList.take (20 + p.opts.size) := by
      rw [← B.head, B.hd, ext_list, List.drop_zero]
    rw [e2] at hh
    have h2 := (rightB_iff _).1 hh
    have hlt : K < (p.bytes.data.toList.take (20 + p.opts.size)).length := by
      rw [List.length_take, ba_size]
      omega
    refine sum_turned hlt (y := y) ?_ (by rw [h1, h2])
    rw [List.getElem_take]
    exact hy
/-- The first byte with one of its higher bits turned. -/
theorem high_turned (c b : Nat) (hc : c < 256) (hb : b < 8) (h4 : 4 ≤ b) (hk : c / 16 = 4) : (c ^^^ 2 ^ b) / 16 ≠ 4 := by
  have h : ∀ c : Fin 256, ∀ b : Fin 8, 4 ≤ b.val → c.val / 16 = 4 → (c.val ^^^ 2 ^ b.val) / 16 ≠ 4 := by decide +kernel
  exact h ⟨c, hc⟩ ⟨b, hb⟩ h4 hk
end Go.Proofs.Ytjfkfeobmcnonaa
