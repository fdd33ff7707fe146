/-
  Proved here: no beginning of a packet's bytes is a packet; the bytes of one with a byte more of data.
  Conditions: the packet may be.
-/
import Derived.Test.YtjfkfeobmcnonaaFieldsPlain
import Derived.Test.YtjfkfeobmcnonaaAgainPlain
namespace Go.Proofs.Ytjfkfeobmcnonaa
open Go.RowKit

theorem ba_nil (s : ByteArray) : s ++ ⟨#[]⟩ = s := by apply ba_ext; simp
theorem cut_code {p : Pkt} (hw : p.why = 0) (k : Nat) (hk : k < p.bytes.size) : pcode (p.bytes.extract 0 k) ≠ 0 := by
  intro h
  have B := begins p hw ⟨#[]⟩
  rw [ba_nil] at B
  obtain ⟨h20, _, _, _, _, _, h7⟩ := mcode_ok (pcode_ok h).1
  have hz : (p.bytes.extract 0 k).size = k := by simp; omega
  rw [num2_ext p.bytes k 2 (by omega), B.all, hz] at h7
  rw [bytes_size] at hk
  omega
/-- The packet, of no more pieces, with other data. -/
def Pkt.wData (p : Pkt) (d : ByteArray) : Pkt := { p with more := false, data := d }
theorem wData_why {p : Pkt} (h : p.why = 0) (d : ByteArray) : (p.wData d).why = if 65535 < 20 + p.opts.size + p.pl + d.size then 3 else 0 := by
  obtain ⟨hb, ho, ho4, _, _⟩ := why_ok h
  unfold Pkt.why
  rw [if_neg (by show ¬ p.bnd = false; rw [hb]; decide), if_neg (by show ¬ (40 < p.opts.size ∨ p.opts.size % 4 ≠ 0); omega), if_neg (by intro hm; exact absurd hm.1 (by show ¬ false = true; decide))]
  rfl
theorem wData_size (p : Pkt) (d : ByteArray) : (p.wData d).bytes.size = 20 + p.opts.size + d.size := bytes_size _
theorem wData_last (p : Pkt) (c : UInt8) (n : Nat) (hn : n = p.bytes.size) (h : n < (p.wData (p.data ++ ⟨#[c]⟩)).bytes.size) : (p.wData (p.data ++ ⟨#[c]⟩)).bytes[n]'h = c := by
  apply at_of h
  have e : (p.wData (p.data ++ ⟨#[c]⟩)).bytes.data.toList = ((p.wData (p.data ++ ⟨#[c]⟩)).fix (p.wData (p.data ++ ⟨#[c]⟩)).sum ++ (p.opts.data.toList ++ p.data.data.toList)) ++ [c] := by
    rw [bytes_list]
    show _ ++ (p.opts.data.toList ++ (p.data ++ ⟨#[c]⟩).data.toList) = _
    rw [ByteArray.data_append, Array.toList_append, ← List.append_assoc, ← List.append_assoc, ← List.append_assoc]
  rw [e, List.getElem?_append_right (by rw [hn, bytes_size, List.length_append, List.length_append, ba_size, ba_size]; show 20 + _ ≤ _; omega)]
  have z : n - ((p.wData (p.data ++ ⟨#[c]⟩)).fix (p.wData (p.data ++ ⟨#[c]⟩)).sum ++ (p.opts.data.toList ++ p.data.data.toList)).length = 0 := by
    rw [hn, bytes_size, List.length_append, List.length_append, ba_size, ba_size]
    show _ - (20 + _) = 0
    omega
  rw [z]
  rfl
theorem more_data (m : Int) : strOfNums [m] = ⟨#[u8 m]⟩ := rfl
theorem wData_more (p : Pkt) (m : Int) (h0 : 0 ≤ m) (h1 : m ≤ 255) (D : ByteArray) (hD : D = p.data ++ strOfNums [m]) : D.size = p.data.size + 1 ∧ ∀ (n : Nat) (_ : n = p.bytes.size) (h : n < (p.wData D).bytes.size), (((p.wData D).bytes[n]'h).toNat : Int) = m := by
  rw [more_data] at hD
  subst hD
  refine ⟨by rw [ByteArray.size_append]; rfl, fun n hn h => ?_⟩
  have e := wData_last p (u8 m) n hn h
  rw [e, u8_nat h0 (by omega)]
end Go.Proofs.Ytjfkfeobmcnonaa
