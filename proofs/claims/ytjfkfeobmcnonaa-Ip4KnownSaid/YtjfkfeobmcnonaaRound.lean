/-
  Proved here: plain facts on a packet's bytes: what they are, byte by byte; their sum; that they are parsed as the packet.
  Conditions: the packet may be; its addresses are bytes.
-/
import Derived.Test.YtjfkfeobmcnonaaParse
namespace Go.Proofs.Ytjfkfeobmcnonaa
open Go.RowKit

/-- The addresses are bytes. -/
def Pkt.byt (p : Pkt) : Prop := (0 ≤ p.a0 ∧ p.a0 < 256) ∧ (0 ≤ p.a1 ∧ p.a1 < 256) ∧ (0 ≤ p.a2 ∧ p.a2 < 256) ∧ (0 ≤ p.a3 ∧ p.a3 < 256) ∧ (0 ≤ p.b0 ∧ p.b0 < 256) ∧ (0 ≤ p.b1 ∧ p.b1 < 256) ∧ (0 ≤ p.b2 ∧ p.b2 < 256) ∧ (0 ≤ p.b3 ∧ p.b3 < 256)
def u8 (x : Int) : UInt8 := UInt8.ofNat x.toNat
theorem u8_nat {x : Int} (h0 : 0 ≤ x) (h1 : x < 256) : ((u8 x).toNat : Int) = x := by
  unfold u8
  rw [UInt8.toNat_ofNat']
  omega
/-- How many bytes there are in all. -/
def Pkt.all (p : Pkt) : Int := 20 + p.opts.size + p.data.size
/-- The first twenty bytes. -/
def Pkt.fix (p : Pkt) (s : Int) : List UInt8 :=
  [u8 (64 + (20 + p.opts.size : Int) / 4), u8 p.tos, u8 (p.all / 256), u8 (p.all % 256), u8 (p.id / 256), u8 (p.id % 256), u8 (p.place / 256), u8 (p.place % 256), u8 p.ttl, u8 p.proto, u8 (s / 256), u8 (s % 256), u8 p.a0, u8 p.a1, u8 p.a2, u8 p.a3, u8 p.b0, u8 p.b1, u8 p.b2, u8 p.b3]
theorem headB_list (p : Pkt) (s : Int) : (p.headB s).data.toList = p.fix s ++ p.opts.data.toList := by
  unfold Pkt.headB
  simp only [ByteArray.data_append, Array.toList_append]
  rfl
theorem bytes_list (p : Pkt) : p.bytes.data.toList = p.fix p.sum ++ (p.opts.data.toList ++ p.data.data.toList) := by
  unfold Pkt.bytes
  rw [ByteArray.data_append, Array.toList_append, headB_list, List.append_assoc]
theorem bytes_size (p : Pkt) : p.bytes.size = 20 + p.opts.size + p.data.size := by
  unfold Pkt.bytes
  rw [ByteArray.size_append, headB_size]
theorem psum_le (p : Pkt) : p.sum ≤ 65535 := sumL_le _
/-- The head's sum makes it right. -/
theorem fix_acc (p : Pkt) (s : Int) (h0 : 0 ≤ s) (h1 : s ≤ 65535) : acc true (p.fix s ++ p.opts.data.toList) = acc true (p.fix 0 ++ p.opts.data.toList) + s.toNat := by
  have e1 := u8_nat (x := s / 256) (by omega) (by omega)
  have e2 := u8_nat (x := s % 256) (by omega) (by omega)
  have e3 : (u8 (0 / 256)).toNat = 0 := by decide
  have e4 : (u8 (0 % 256)).toNat = 0 := by decide
  have h2 : ∀ (A R : List UInt8) (x y : UInt8), evn A.length = true → acc true (A ++ (x :: y :: R)) = acc true A + (x.toNat * 256 + (y.toNat + acc true R)) := fun A R x y hA => by
    rw [acc_even _ hA]; rfl
  have q : ∀ s : Int, p.fix s ++ p.opts.data.toList = [u8 (64 + (20 + p.opts.size : Int) / 4), u8 p.tos, u8 (p.all / 256), u8 (p.all % 256), u8 (p.id / 256), u8 (p.id % 256), u8 (p.place / 256), u8 (p.place % 256), u8 p.ttl, u8 p.proto] ++ (u8 (s / 256) :: u8 (s % 256) :: ([u8 p.a0, u8 p.a1, u8 p.a2, u8 p.a3, u8 p.b0, u8 p.b1, u8 p.b2, u8 p.b3] ++ p.opts.data.toList)) := fun _ => rfl
  rw [q s, q 0, h2 _ _ _ _ (by show evn 10 = true; decide), h2 _ _ _ _ (by show evn 10 = true; decide), e3, e4]
  generalize acc true _ = X
  generalize acc true _ = Y
  generalize (u8 (s / 256)).toNat = a at *
  generalize (u8 (s % 256)).toNat = b at *
  omega
theorem fix_pos (p : Pkt) (ho : p.opts.size ≤ 40) (l : List UInt8) : 0 < acc true (p.fix 0 ++ l) := by
  have e1 := u8_nat (x := 64 + (20 + p.opts.size : Int) / 4) (by omega) (by omega)
  unfold Pkt.fix
  simp only [List.cons_append, acc]
  omega
theorem head_right (p : Pkt) (ho : p.opts.size ≤ 40) : rightB (p.headB p.sum).data.toList = true := by
  apply rightB_yes
  rw [headB_list, fix_acc p p.sum (by omega) (by have := psum_le p; omega)]
  have e : p.sum = 65535 - fold (acc true (p.fix 0 ++ p.opts.data.toList)) := by
    unfold Pkt.sum sumL
    rw [headB_list]
  rw [show ((p.sum : Nat) : Int).toNat = p.sum by omega, e]
  exact fold_own (fix_pos p ho _)
theorem ba_ext {a b : ByteArray} (h : a.data.toList = b.data.toList) : a = b := by
  obtain ⟨x⟩ := a
  obtain ⟨y⟩ := b
  congr 1
  exact Array.toList_inj.1 h
theorem ba_size (a : ByteArray) : a.data.toList.length = a.size := by simp
section
variable {p : Pkt} {s : Int} {X : ByteArray} {R : List UInt8} (h : X.data.toList = p.fix s ++ R)
include h
theorem by0 : byN X 0 = (u8 (64 + (20 + p.opts.size : Int) / 4)).toNat := by unfold byN; rw [h]; rfl
theorem by1 : byN X 1 = (u8 p.tos).toNat := by unfold byN; rw [h]; rfl
theorem by2 : num2 X 2 = (u8 (p.all / 256)).toNat * 256 + (u8 (p.all % 256)).toNat := by unfold num2 byN; rw [h]; rfl
theorem by4 : num2 X 4 = (u8 (p.id / 256)).toNat * 256 + (u8 (p.id % 256)).toNat := by unfold num2 byN; rw [h]; rfl
theorem by6 : num2 X 6 = (u8 (p.place / 256)).toNat * 256 + (u8 (p.place % 256)).toNat := by unfold num2 byN; rw [h]; rfl
theorem by8 : byN X 8 = (u8 p.ttl).toNat := by unfold byN; rw [h]; rfl
theorem by9 : byN X 9 = (u8 p.proto).toNat := by unfold byN; rw [h]; rfl
theorem by12 : byN X 12 = (u8 p.a0).toNat := by unfold byN; rw [h]; rfl
theorem by13 : byN X 13 = (u8 p.a1).toNat := by unfold byN; rw [h]; rfl
theorem by14 : byN X 14 = (u8 p.a2).toNat := by unfold byN; rw [h]; rfl
theorem by15 : byN X 15 = (u8 p.a3).toNat := by unfold byN; rw [h]; rfl
theorem by16 : byN X 16 = (u8 p.b0).toNat := by unfold byN; rw [h]; rfl
theorem by17 : byN X 17 = (u8 p.b1).toNat := by unfold byN; rw [h]; rfl
theorem by18 : byN X 18 = (u8 p.b2).toNat := by unfold byN; rw [h]; rfl
theorem by19 : byN X 19 = (u8 p.b3).toNat := by unfold byN; rw [h]; rfl
end
theorem two_u8 {x : Int} (h0 : 0 ≤ x) (h1 : x < 65536) : (((u8 (x / 256)).toNat * 256 + (u8 (x % 256)).toNat : Nat) : Int) = x := by
  have e1 := u8_nat (x := x / 256) (by omega) (by omega)
  have e2 := u8_nat (x := x % 256) (by omega) (by omega)
  generalize (u8 (x / 256)).toNat = a at *
  generalize (u8 (x % 256)).toNat = b at *
  omega
/-- A text that begins with a packet's bytes. -/
structure Begins (p : Pkt) (X : ByteArray) : Prop where
  hd : hdN X = 20 + p.opts.size
  kind : byN X 0 / 16 = 4
  all : num2 X 2 = 20 + p.opts.size + p.data.size
  place : ((num2 X 6 : Nat) : Int) = p.place
  size : 20 + p.opts.size + p.data.size ≤ X.size
  head : X.extract 0 (hdN X) = p.headB p.sum
  whole : X.extract 0 (num2 X 2) = p.bytes
theorem begins (p : Pkt) (hw : p.why = 0) (Y : ByteArray) : Begins p (p.bytes ++ Y) := by
  obtain ⟨hb, ho, ho4, _, hl⟩ := why_ok hw
  obtain ⟨_, _, _, _, _, _, _, _, p0, p1, _⟩ := bnd_pl hb
  obtain ⟨q0, q1⟩ := place_lt p0 p1
  have hL : (p.bytes ++ Y).data.toList = p.fix p.sum ++ (p.opts.data.toList ++ p.data.data.toList ++ Y.data.toList) := by
    rw [ByteArray.data_append, Array.toList_append, bytes_list, List.append_assoc]
  have h0 := by0 hL
  have e0 := u8_nat (x := 64 + (20 + p.opts.size : Int) / 4) (by omega) (by omega)
  have h2 := by2 hL
  have e2 := two_u8 (x := p.all) (by unfold Pkt.all; omega) (by unfold Pkt.all; omega)
  have h6 := by6 hL
  have e6 := two_u8 (x := p.place) q0 (by omega)
  have hd : hdN (p.bytes ++ Y) = 20 + p.opts.size := by unfold hdN; omega
  have hall : num2 (p.bytes ++ Y) 2 = 20 + p.opts.size + p.data.size := by unfold Pkt.all at *; omega
  have hz : (p.bytes ++ Y).size = 20 + p.opts.size + p.data.size + Y.size := by rw [ByteArray.size_append, bytes_size]
  refine ⟨hd, by omega, hall, by rw [h6]; exact e6, by omega, ?_, ?_⟩
  · apply ba_ext
    rw [hd, ext_list, List.drop_zero, ByteArray.data_append, Array.toList_append]
    unfold Pkt.bytes
    rw [ByteArray.data_append, Array.toList_append, List.append_assoc, List.take_append_of_le_length (by rw [ba_size, headB_size]; exact Nat.le_refl _), List.take_of_length_le (by rw [ba_size, headB_size]; exact Nat.le_refl _)]
  · apply ba_ext
    rw [hall, ext_list, List.drop_zero, ByteArray.data_append, Array.toList_append, List.take_append_of_le_length (by rw [ba_size, bytes_size]; exact Nat.le_refl _), List.take_of_length_le (by rw [ba_size, bytes_size]; exact Nat.le_refl _)]
theorem bytes_rd (p : Pkt) (hw : p.why = 0) (ha : p.byt) : rdP p.bytes (20 + p.opts.size) = p := by
  obtain ⟨hb, ho, ho4, _, hl⟩ := why_ok hw
  obtain ⟨t0, t1, l0, l1, r0, r1, i0, i1, p0, p1, p8⟩ := bnd_pl hb
  obtain ⟨q0, q1⟩ := place_lt p0 p1
  obtain ⟨⟨a00, a01⟩, ⟨a10, a11⟩, ⟨a20, a21⟩, ⟨a30, a31⟩, ⟨b00, b01⟩, ⟨b10, b11⟩, ⟨b20, b21⟩, ⟨b30, b31⟩⟩ := ha
  have hL := bytes_list p
  have e6 : ((num2 p.bytes 6 : Nat) : Int) = p.place := by rw [by6 hL]; exact two_u8 q0 (by omega)
  have g1 : p.bytes.extract 20 (20 + p.opts.size) = p.opts := by
    apply ba_ext
    rw [ext_list, hL, List.take_append, List.take_of_length_le (by show 20 ≤ _; omega), show (20 + p.opts.size - (p.fix p.sum).length) = p.opts.size from by show 20 + p.opts.size - 20 = _; omega, List.take_append_of_le_length (by rw [ba_size]; exact Nat.le_refl _), List.take_of_length_le (by rw [ba_size]; exact Nat.le_refl _)]
    rfl
  have g2 : p.bytes.extract (20 + p.opts.size) p.bytes.size = p.data := by
    apply ba_ext
    rw [ext_list, List.take_of_length_le (by rw [ba_size]; exact Nat.le_refl _)]
    unfold Pkt.bytes
    rw [ByteArray.data_append, Array.toList_append, List.drop_append_of_le_length (by rw [ba_size, headB_size]; exact Nat.le_refl _), List.drop_of_length_le (by rw [ba_size, headB_size]; exact Nat.le_refl _)]
    rfl
  have f1 : (((num2 p.bytes 6 : Nat) : Int) % 8192 * 8) = p.pl := by
    rw [e6]; unfold Pkt.place
    cases p.df <;> cases p.more <;> simp <;> omega
  have f2 : (((num2 p.bytes 6 : Nat) : Int) / 16384 % 2 * 16384 != 0) = p.df := by
    rw [e6]; unfold Pkt.place
    cases p.df <;> cases p.more
    · rw [show (p.pl / 8 + ((if false = true then (16384 : Int) else 0) + if false = true then 8192 else 0)) / 16384 % 2 * 16384 = 0 by simp; omega]; rfl
    · rw [show (p.pl / 8 + ((if false = true then (16384 : Int) else 0) + if true = true then 8192 else 0)) / 16384 % 2 * 16384 = 0 by simp; omega]; rfl
    · rw [show (p.pl / 8 + ((if true = true then (16384 : Int) else 0) + if false = true then 8192 else 0)) / 16384 % 2 * 16384 = 16384 by simp; omega]; rfl
    · rw [show (p.pl / 8 + ((if true = true then (16384 : Int) else 0) + if true = true then 8192 else 0)) / 16384 % 2 * 16384 = 16384 by simp; omega]; rfl
  have f3 : (((num2 p.bytes 6 : Nat) : Int) / 8192 % 2 * 8192 != 0) = p.more := by
    rw [e6]; unfold Pkt.place
    cases p.df <;> cases p.more
    · rw [show (p.pl / 8 + ((if false = true then (16384 : Int) else 0) + if false = true then 8192 else 0)) / 8192 % 2 * 8192 = 0 by simp; omega]; rfl
    · rw [show (p.pl / 8 + ((if false = true then (16384 : Int) else 0) + if true = true then 8192 else 0)) / 8192 % 2 * 8192 = 8192 by simp; omega]; rfl
    · rw [show (p.pl / 8 + ((if true = true then (16384 : Int) else 0) + if false = true then 8192 else 0)) / 8192 % 2 * 8192 = 0 by simp; omega]; rfl
    · rw [show (p.pl / 8 + ((if true = true then (16384 : Int) else 0) + if true = true then 8192 else 0)) / 8192 % 2 * 8192 = 8192 by simp; omega]; rfl
  unfold rdP
  rw [f1, f2, f3, g1, g2, by1 hL, by4 hL, by8 hL, by9 hL, by12 hL, by13 hL, by14 hL, by15 hL, by16 hL, by17 hL, by18 hL, by19 hL, two_u8 i0 (by omega), u8_nat t0 (by omega), u8_nat l0 (by omega), u8_nat r0 (by omega), u8_nat a00 a01, u8_nat a10 a11, u8_nat a20 a21, u8_nat a30 a31, u8_nat b00 b01, u8_nat b10 b11, u8_nat b20 b21, u8_nat b30 b31]
theorem parse_back (p : Pkt) (hw : p.why = 0) (ha : p.byt) (Y : ByteArray) : pcode (p.bytes ++ Y) = 0 ∧ ppkt (p.bytes ++ Y) = p := by
  obtain ⟨hb, ho, ho4, _, hl⟩ := why_ok hw
  obtain ⟨_, _, _, _, _, _, _, _, p0, p1, _⟩ := bnd_pl hb
  obtain ⟨q0, q1⟩ := place_lt p0 p1
  have B := begins p hw Y
  have B0 := begins p hw ⟨#[]⟩
  have hE : p.bytes ++ ⟨#[]⟩ = p.bytes := by apply ba_ext; simp
  rw [hE] at B0
  have hm : mcode (p.bytes ++ Y) = 0 := by
    unfold mcode
    have h1 := B.hd
    have h2 := B.kind
    have h3 := B.all
    have h4 := B.size
    rw [if_neg (by omega), if_neg (by omega), if_neg (by omega), if_neg (by rw [B.head, head_right p ho]; decide), if_neg (by omega), if_neg (by omega)]
  have hp : ppkt (p.bytes ++ Y) = p := by
    unfold ppkt
    rw [B.whole, B.hd]
    exact bytes_rd p hw ha
  have hfree : freeB p.bytes = true := by
    unfold freeB
    rw [B0.place, show p.place / 32768 % 2 * 32768 = 0 by omega]
    rfl
  refine ⟨?_, hp⟩
  unfold pcode
  rw [if_pos hm, hp, B.whole, if_pos ⟨hfree, hw⟩]
end Go.Proofs.Ytjfkfeobmcnonaa
