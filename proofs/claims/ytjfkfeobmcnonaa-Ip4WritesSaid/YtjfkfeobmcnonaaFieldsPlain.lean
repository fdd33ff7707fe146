/-
  Proved here: plain facts on the bytes of a packet with another Ttl, and of one with its addresses turned about; why neither may be.
  Conditions: none.
-/
import Derived.Test.YtjfkfeobmcnonaaRound
namespace Go.Proofs.Ytjfkfeobmcnonaa
open Go.RowKit

theorem ext_end (s : ByteArray) (k : Nat) : (s.extract k s.size).data.toList = s.data.toList.drop k := by
  rw [ext_list, List.take_of_length_le (by rw [ba_size]; exact Nat.le_refl _)]
/-- The packet with another Ttl. -/
def Pkt.wTtl (p : Pkt) (t : Int) : Pkt := { p with ttl := t }
/-- The packet with its addresses turned about. -/
def Pkt.flip (p : Pkt) : Pkt := { p with a0 := p.b0, a1 := p.b1, a2 := p.b2, a3 := p.b3, b0 := p.a0, b1 := p.a1, b2 := p.a2, b3 := p.a3 }
theorem flip_why (p : Pkt) : p.flip.why = p.why := rfl
theorem why_bnd {p : Pkt} (h : p.why = 0) : p.bnd = true := (why_ok h).1
theorem why_same {p q : Pkt} (hb : q.bnd = p.bnd) (h1 : q.opts = p.opts) (h2 : q.more = p.more) (h3 : q.data = p.data) (h4 : q.pl = p.pl) : q.why = p.why := by
  unfold Pkt.why Pkt.long
  rw [hb, h1, h2, h3, h4]
theorem wTtl_why {p : Pkt} (h : p.why = 0) (t : Int) (h0 : 0 ≤ t) (h1 : t ≤ 255) : (p.wTtl t).why = 0 := by
  have hb := why_bnd h
  have e : (p.wTtl t).bnd = p.bnd := by
    rw [hb]
    unfold Pkt.bnd at hb ⊢
    simp only [Bool.and_eq_true, inB_iff] at hb ⊢
    exact ⟨hb.1, ⟨h0, h1⟩, hb.2.2⟩
  rw [why_same e rfl rfl rfl rfl, h]
theorem acc_two (x y : UInt8) (l : List UInt8) : acc true (x :: y :: l) = x.toNat * 256 + (y.toNat + acc true l) := rfl
theorem acc_turn (x0 x1 x2 x3 y0 y1 y2 y3 : UInt8) (l : List UInt8) : acc true (x0 :: x1 :: x2 :: x3 :: y0 :: y1 :: y2 :: y3 :: l) = acc true (y0 :: y1 :: y2 :: y3 :: x0 :: x1 :: x2 :: x3 :: l) := by
  simp only [acc_two]
  omega
/-- The first eight bytes. -/
def Pkt.b8 (p : Pkt) : List UInt8 :=
  [u8 (64 + (20 + p.opts.size : Int) / 4), u8 p.tos, u8 (p.all / 256), u8 (p.all % 256), u8 (p.id / 256), u8 (p.id % 256), u8 (p.place / 256), u8 (p.place % 256)]
theorem fix_b8 (p : Pkt) (s : Int) (l : List UInt8) : p.fix s ++ l = p.b8 ++ (u8 p.ttl :: u8 p.proto :: u8 (s / 256) :: u8 (s % 256) :: u8 p.a0 :: u8 p.a1 :: u8 p.a2 :: u8 p.a3 :: u8 p.b0 :: u8 p.b1 :: u8 p.b2 :: u8 p.b3 :: l) := rfl
theorem flip_b8 (p : Pkt) : p.flip.b8 = p.b8 := rfl
theorem wTtl_b8 (p : Pkt) (t : Int) : (p.wTtl t).b8 = p.b8 := rfl
theorem b8_len (p : Pkt) : p.b8.length = 8 := rfl
section
variable {L : List UInt8} (h : L.length = 8) (x y z u a0 a1 a2 a3 b0 b1 b2 b3 : UInt8) (r : List UInt8)
include h
theorem cut_8 : ((L ++ r).take 8).drop 0 = L := by rw [List.drop_zero, List.take_append_of_le_length (by omega), List.take_of_length_le (by omega)]
theorem cut_end (k : Nat) : (L ++ r).drop (8 + k) = r.drop k := by rw [List.drop_append, List.drop_of_length_le (by omega), List.nil_append, h, Nat.add_sub_cancel_left]
theorem get_end (k : Nat) : (L ++ r)[8 + k]? = r[k]? := by rw [List.getElem?_append_right (by omega), h, Nat.add_sub_cancel_left]
theorem cut_12 : ((L ++ (x :: y :: z :: u :: r)).take 12).drop 0 = L ++ [x, y, z, u] := by
  rw [List.drop_zero, List.take_append, h, List.take_of_length_le (by omega)]
  rfl
theorem cut_mid (k : Nat) : ((L ++ r).take (8 + (k + 4))).drop (8 + k) = (r.take (k + 4)).drop k := by
  rw [List.take_append, h, List.take_of_length_le (by omega), cut_end h, Nat.add_sub_cancel_left]
end
theorem flip_sum (p : Pkt) : p.flip.sum = p.sum := by
  unfold Pkt.sum sumL
  have he : evn p.b8.length = true := by rw [b8_len]; decide
  rw [headB_list, headB_list, fix_b8, fix_b8, flip_b8, acc_even _ he, acc_even _ he, acc_two, acc_two, acc_two (u8 p.ttl), acc_two (u8 (0 / 256))]
  show 65535 - fold (_ + (_ + (_ + (_ + (_ + acc true (u8 p.b0 :: u8 p.b1 :: u8 p.b2 :: u8 p.b3 :: u8 p.a0 :: u8 p.a1 :: u8 p.a2 :: u8 p.a3 :: p.opts.data.toList)))))) = _
  rw [acc_turn]
  rfl
section
variable (p : Pkt) (t : Int)
theorem own_list : p.bytes.data.toList = p.b8 ++ (u8 p.ttl :: u8 p.proto :: u8 ((p.sum : Int) / 256) :: u8 ((p.sum : Int) % 256) :: u8 p.a0 :: u8 p.a1 :: u8 p.a2 :: u8 p.a3 :: u8 p.b0 :: u8 p.b1 :: u8 p.b2 :: u8 p.b3 :: (p.opts.data.toList ++ p.data.data.toList)) := by
  rw [bytes_list, fix_b8]
theorem wTtl_list : (p.wTtl t).bytes.data.toList = p.b8 ++ (u8 t :: u8 p.proto :: u8 (((p.wTtl t).sum : Int) / 256) :: u8 (((p.wTtl t).sum : Int) % 256) :: u8 p.a0 :: u8 p.a1 :: u8 p.a2 :: u8 p.a3 :: u8 p.b0 :: u8 p.b1 :: u8 p.b2 :: u8 p.b3 :: (p.opts.data.toList ++ p.data.data.toList)) := by
  have h := own_list (p.wTtl t)
  rw [wTtl_b8, show (p.wTtl t).ttl = t from rfl, show (p.wTtl t).proto = p.proto from rfl, show (p.wTtl t).a0 = p.a0 from rfl, show (p.wTtl t).a1 = p.a1 from rfl, show (p.wTtl t).a2 = p.a2 from rfl, show (p.wTtl t).a3 = p.a3 from rfl, show (p.wTtl t).b0 = p.b0 from rfl, show (p.wTtl t).b1 = p.b1 from rfl, show (p.wTtl t).b2 = p.b2 from rfl, show (p.wTtl t).b3 = p.b3 from rfl, show (p.wTtl t).opts = p.opts from rfl, show (p.wTtl t).data = p.data from rfl] at h
  exact h
theorem flip_list : p.flip.bytes.data.toList = p.b8 ++ (u8 p.ttl :: u8 p.proto :: u8 ((p.sum : Int) / 256) :: u8 ((p.sum : Int) % 256) :: u8 p.b0 :: u8 p.b1 :: u8 p.b2 :: u8 p.b3 :: u8 p.a0 :: u8 p.a1 :: u8 p.a2 :: u8 p.a3 :: (p.opts.data.toList ++ p.data.data.toList)) := by
  have h := own_list p.flip
  rw [flip_b8, flip_sum, show p.flip.ttl = p.ttl from rfl, show p.flip.proto = p.proto from rfl, show p.flip.a0 = p.b0 from rfl, show p.flip.a1 = p.b1 from rfl, show p.flip.a2 = p.b2 from rfl, show p.flip.a3 = p.b3 from rfl, show p.flip.b0 = p.a0 from rfl, show p.flip.b1 = p.a1 from rfl, show p.flip.b2 = p.a2 from rfl, show p.flip.b3 = p.a3 from rfl, show p.flip.opts = p.opts from rfl, show p.flip.data = p.data from rfl] at h
  exact h
theorem wTtl_size : (p.wTtl t).bytes.size = p.bytes.size := by
  rw [bytes_size, bytes_size]
  rfl
theorem flip_size : p.flip.bytes.size = p.bytes.size := by
  rw [bytes_size, bytes_size]
  rfl
theorem wTtl_pre : p.bytes.extract 0 8 = (p.wTtl t).bytes.extract 0 8 := by
  apply ba_ext
  rw [ext_list, ext_list, own_list, wTtl_list, cut_8 (b8_len p), cut_8 (b8_len p)]
theorem wTtl_post : p.bytes.extract 12 p.bytes.size = (p.wTtl t).bytes.extract 12 p.bytes.size := by
  apply ba_ext
  have e := ext_end (p.wTtl t).bytes 12
  rw [wTtl_size] at e
  rw [e, ext_end, own_list, wTtl_list, cut_end (b8_len p) _ 4, cut_end (b8_len p) _ 4]
  simp only [List.drop_succ_cons, List.drop_zero]
theorem at_of {s : ByteArray} {i : Nat} (h : i < s.size) (c : UInt8) (hc : s.data.toList[i]? = some c) : s[i] = c := by
  apply UInt8.toNat_inj.1
  rw [← byN_at s i h]
  unfold byN
  rw [List.getD_eq_getElem?_getD, hc]
  rfl
theorem own_nine : p.bytes.data.toList[9]? = some (u8 p.proto) := by
  rw [own_list]
  exact get_end (b8_len p) _ 1
theorem wTtl_nine' : (p.wTtl t).bytes.data.toList[9]? = some (u8 p.proto) := by
  rw [wTtl_list]
  exact get_end (b8_len p) _ 1
theorem wTtl_eight' : (p.wTtl t).bytes.data.toList[8]? = some (u8 t) := by
  rw [wTtl_list]
  exact get_end (b8_len p) _ 0
theorem wTtl_nine (h : 9 < p.bytes.size) (h' : 9 < (p.wTtl t).bytes.size) : p.bytes[9]'h = (p.wTtl t).bytes[9]'h' := by
  have e1 := at_of h' (u8 p.proto) (wTtl_nine' p t)
  have e2 := at_of h (u8 p.proto) (own_nine p)
  rw [e1, e2]
theorem wTtl_eight (h0 : 0 ≤ t) (h1 : t ≤ 255) (h : 8 < (p.wTtl t).bytes.size) : (((p.wTtl t).bytes[8]'h).toNat : Int) = t := by
  have e1 := at_of h (u8 t) (wTtl_eight' p t)
  rw [e1, u8_nat h0 (by omega)]
theorem flip_pre : p.bytes.extract 0 12 = p.flip.bytes.extract 0 12 := by
  apply ba_ext
  rw [ext_list, ext_list, own_list, flip_list, cut_12 (b8_len p), cut_12 (b8_len p)]
theorem flip_a : p.bytes.extract 12 16 = p.flip.bytes.extract 16 20 := by
  apply ba_ext
  rw [ext_list, ext_list, own_list, flip_list, cut_mid (b8_len p) _ 4, cut_mid (b8_len p) _ 8]
  simp only [List.take_succ_cons, List.take_zero, List.drop_succ_cons, List.drop_zero]
theorem flip_b : p.bytes.extract 16 20 = p.flip.bytes.extract 12 16 := by
  apply ba_ext
  rw [ext_list, ext_list, own_list, flip_list, cut_mid (b8_len p) _ 8, cut_mid (b8_len p) _ 4]
  simp only [List.take_succ_cons, List.take_zero, List.drop_succ_cons, List.drop_zero]
theorem flip_post : p.bytes.extract 20 p.bytes.size = p.flip.bytes.extract 20 p.bytes.size := by
  apply ba_ext
  have e := ext_end p.flip.bytes 20
  rw [flip_size] at e
  rw [e, ext_end, own_list, flip_list, cut_end (b8_len p) _ 12, cut_end (b8_len p) _ 12]
  simp only [List.drop_succ_cons, List.drop_zero]
end
end Go.Proofs.Ytjfkfeobmcnonaa
