/-
  Proved here: plain facts on a packet's bytes: that they are parsed as the packet, whatever stands behind.
  Conditions: the packet may be.
-/
import Derived.Test.YtkihhmnlefekoaaParse
namespace Go.Proofs.Ytkihhmnlefekoaa
open Go.RowKit

def u8i (x : Int) : UInt8 := UInt8.ofNat x.toNat
theorem u8i_nat {x : Int} (h0 : 0 ≤ x) (h1 : x < 256) : (((u8i x).toNat : Nat) : Int) = x := by
  unfold u8i
  rw [UInt8.toNat_ofNat']
  omega
theorem nums_list (l : List Int) : (strOfNums l).data.toList = l.map u8i := by
  unfold strOfNums
  simp
  intro a _
  rfl
theorem mid_list {X : ByteArray} {A B C : List UInt8} (h : X.data.toList = A ++ (B ++ C)) {a b : Nat} (ha : a = A.length) (hb : b = A.length + B.length) : (X.extract a b).data.toList = B := by
  rw [ext_list, h, ha, hb, List.take_append, List.take_of_length_le (by omega), Nat.add_sub_cancel_left, List.take_left' rfl, List.drop_left]
theorem four_num {a b c d : UInt8} {x : Int} (h0 : 0 ≤ x) (h1 : x < 4294967296) (ha : a = u8i (x / 16777216)) (hb : b = u8i (x / 65536 % 256)) (hc : c = u8i (x / 256 % 256)) (hd : d = u8i (x % 256)) : ((numOf [a, b, c, d] : Nat) : Int) = x := by
  have e1 := u8i_nat (x := x / 16777216) (by omega) (by omega)
  have e2 := u8i_nat (x := x / 65536 % 256) (by omega) (by omega)
  have e3 := u8i_nat (x := x / 256 % 256) (by omega) (by omega)
  have e4 := u8i_nat (x := x % 256) (by omega) (by omega)
  rw [← ha] at e1
  rw [← hb] at e2
  rw [← hc] at e3
  rw [← hd] at e4
  show (((((0 * 256 + a.toNat) * 256 + b.toNat) * 256 + c.toNat) * 256 + d.toNat : Nat) : Int) = x
  omega
theorem two_num {a b : UInt8} {x : Int} (h0 : 0 ≤ x) (h1 : x < 65536) (ha : a = u8i (x / 256)) (hb : b = u8i (x % 256)) : ((numOf [a, b] : Nat) : Int) = x := by
  have e1 := u8i_nat (x := x / 256) (by omega) (by omega)
  have e2 := u8i_nat (x := x % 256) (by omega) (by omega)
  rw [← ha] at e1
  rw [← hb] at e2
  show (((0 * 256 + a.toNat) * 256 + b.toNat : Nat) : Int) = x
  omega
/-- The head's first eight bytes. -/
def Pk6.h8 (p : Pk6) : List UInt8 := [u8i (p.word / 16777216), u8i (p.word / 65536 % 256), u8i (p.word / 256 % 256), u8i (p.word % 256), u8i (((p.heads.2.size : Int) + (p.data.size : Int)) / 256), u8i (((p.heads.2.size : Int) + (p.data.size : Int)) % 256), u8i p.heads.1, u8i p.hop]
theorem bytes_list (p : Pk6) : p.bytes.data.toList = p.h8 ++ (p.fr ++ (p.dst ++ (p.heads.2.data.toList ++ p.data.data.toList))) := by
  unfold Pk6.bytes
  simp only [ByteArray.data_append, Array.toList_append, nums_list, strB_list, List.append_assoc]
  rfl
theorem bytes_size (p : Pk6) : p.bytes.size = 40 + p.behind := by
  rw [← heads_size, ← ba_size, bytes_list]
  simp only [List.length_append, p.hfr, p.hdst, ba_size]
  show 8 + _ = _
  omega
/-- One extension is gone through. -/
theorem chn_step (l : List (Int × ByteArray)) (e : Int × ByteArray) (st : Int × ByteArray) (d : ByteArray) (hl : l.length < 8) (hk : isEx e.1) (hi : inPl e.1 l.length = true) (hz : e.2.size ≤ 2046) (hm : e.2.size % 8 = 6) (hs : 0 ≤ st.1 ∧ st.1 < 256) :
    chnE l (hstep st e).1 ((hstep st e).2 ++ d) = chnE (l ++ [e]) st.1 (st.2 ++ d) := by
  have hL : ((hstep st e).2 ++ d).data.toList = [u8i st.1, u8i (((e.2.size : Int) - 6) / 8)] ++ (e.2.data.toList ++ (st.2.data.toList ++ d.data.toList)) := by
    unfold hstep
    simp only [ByteArray.data_append, Array.toList_append, nums_list, List.append_assoc]
    rfl
  have b0 : byN ((hstep st e).2 ++ d) 0 = (u8i st.1).toNat := by unfold byN; rw [hL]; rfl
  have b1 : byN ((hstep st e).2 ++ d) 1 = (u8i (((e.2.size : Int) - 6) / 8)).toNat := by unfold byN; rw [hL]; rfl
  have e0 := u8i_nat hs.1 hs.2
  have e1 := u8i_nat (x := ((e.2.size : Int) - 6) / 8) (by omega) (by omega)
  have hN : exN ((hstep st e).2 ++ d) = 2 + e.2.size := by
    unfold exN
    rw [b1]
    omega
  have hsz : ((hstep st e).2 ++ d).size = 2 + e.2.size + st.2.size + d.size := by rw [cat_len, hstep_size]
  have hk2 : isEx (hstep st e).1 := hk
  rw [chnE_next (by omega) hk2 (fun hh => by have := inPl_no.2 hh; rw [show (hstep st e).1 = e.1 from rfl] at this; rw [this] at hi; cases hi) (by omega) (by rw [hN, hsz]; omega)]
  have x1 : ((hstep st e).2 ++ d).extract 2 (exN ((hstep st e).2 ++ d)) = e.2 := by
    apply ba_ext
    rw [hN]
    exact mid_list hL rfl (by rw [ba_size]; rfl)
  have x2 : ((hstep st e).2 ++ d).extract (exN ((hstep st e).2 ++ d)) ((hstep st e).2 ++ d).size = st.2 ++ d := by
    apply ba_ext
    rw [hN, ext_end, hL, List.drop_append, List.drop_of_length_le (by show 2 ≤ _; omega), List.nil_append, List.drop_left' (by rw [ba_size]; show _ = 2 + e.2.size - 2; omega)]
    simp
  rw [x1, x2, b0, e0]
  rfl
theorem chn_all (st0 : Int × ByteArray) (d : ByteArray) (hs : 0 ≤ st0.1 ∧ st0.1 < 256) : ∀ (L l : List (Int × ByteArray)), l.length + L.length ≤ 8 → (∀ i (h : i < L.length), isEx L[i].1 ∧ L[i].2.size ≤ 2046 ∧ L[i].2.size % 8 = 6 ∧ inPl L[i].1 ((l.length + i : Nat) : Int) = true) →
    chnE l (L.foldr (fun e st => hstep st e) st0).1 ((L.foldr (fun e st => hstep st e) st0).2 ++ d) = chnE (l ++ L) st0.1 (st0.2 ++ d) := by
  intro L
  induction L with
  | nil => intro l _ _; rw [List.append_nil]; rfl
  | cons e r ih =>
    intro l hl h
    have h0 := h 0 (by simp)
    rw [List.length_cons] at hl
    rw [List.foldr_cons, chn_step l e _ d (by omega) h0.1 (by simpa using h0.2.2.2) h0.2.1 h0.2.2.1 ?_, ih (l ++ [e]) (by rw [List.length_append, List.length_singleton]; omega) (fun i hi => ?_), List.append_assoc]
    · rfl
    · have := h (i + 1) (by rw [List.length_cons]; omega)
      rw [List.getElem_cons_succ] at this
      rw [List.length_append, List.length_singleton, show l.length + 1 + i = l.length + (i + 1) by omega]
      exact this
    · cases r with
      | nil => exact hs
      | cons e2 r2 => exact isEx_range (h 1 (by simp)).1
/-- What is parsed of a packet's bytes, and of whatever stands behind. -/
theorem parse_chain_back (p : Pk6) (ho : Ok6 p) : chnE [] p.heads.1 (p.heads.2 ++ p.data) = ⟨p.exts, p.st0.1, p.st0.2 ++ p.data, 0⟩ := by
  obtain ⟨c0, c1, f0, f1, h0, h1, r0, r1, p0, p1, p8⟩ := bnd_pl ho.bnd
  have hge := ge_all ho.kinds ho.form
  have hs : 0 ≤ p.st0.1 ∧ p.st0.1 < 256 := by
    unfold Pk6.st0
    split
    · exact ⟨by show (0 : Int) ≤ 44; omega, by show (44 : Int) < 256; omega⟩
    · exact ⟨r0, by show p.proto < 256; omega⟩
  unfold Pk6.heads
  rw [chn_all p.st0 p.data hs p.exts [] (by rw [List.length_nil]; have := ho.len; omega) (fun i hi => ?_)]
  · rw [List.nil_append]
    refine chnE_end _ ho.len ?_
    have hk := ho.kinds
    unfold Pk6.kinds isExB at hk
    unfold Pk6.st0
    cases hf : p.frag
    · rw [hf] at hk
      simp at hk
      exact hk.2.1
    · show ¬ isEx 44
      decide
  · have h1 := hge _ (List.getElem_mem hi)
    have h2 := fms_at ho.form i hi
    unfold fm1 at h2
    simp only [Bool.and_eq_true] at h2
    refine ⟨h1.1, h1.2.1, h1.2.2, ?_⟩
    rw [List.length_nil, Nat.zero_add]
    exact h2.2.2
/-- What a text that begins with a packet's bytes says. -/
structure Beg (p : Pk6) (X : ByteArray) : Prop where
  w : ((hdW X : Nat) : Int) = p.word
  l : hdL X = p.behind
  n : ((byN X 6 : Nat) : Int) = p.heads.1
  hop : ((byN X 7 : Nat) : Int) = p.hop
  fr : adr X 8 = p.fr
  dst : adr X 24 = p.dst
  mid : X.extract 40 (40 + hdL X) = p.heads.2 ++ p.data
  size : 40 + p.behind ≤ X.size
theorem beg (p : Pk6) (ho : Ok6 p) (Y : ByteArray) : Beg p (p.bytes ++ Y) := by
  obtain ⟨c0, c1, f0, f1, h0, h1, r0, r1, p0, p1, p8⟩ := bnd_pl ho.bnd
  have hge := ge_all ho.kinds ho.form
  have hnx := heads_next ⟨r0, by omega⟩ hge
  have hzz := heads_size p
  have hzb := ho.behind
  have hL : (p.bytes ++ Y).data.toList = p.h8 ++ (p.fr ++ (p.dst ++ ((p.heads.2.data.toList ++ p.data.data.toList) ++ Y.data.toList))) := by
    rw [ByteArray.data_append, Array.toList_append, bytes_list]
    simp only [List.append_assoc]
  have hw : ((hdW (p.bytes ++ Y) : Nat) : Int) = p.word := by
    unfold hdW
    have hm := mid_list (A := []) (B := [u8i (p.word / 16777216), u8i (p.word / 65536 % 256), u8i (p.word / 256 % 256), u8i (p.word % 256)]) hL (a := 0) (b := 0 + 4) rfl rfl
    rw [hm]
    exact four_num (by unfold Pk6.word; omega) (by unfold Pk6.word; omega) rfl rfl rfl rfl
  have hl : hdL (p.bytes ++ Y) = p.behind := by
    unfold hdL
    have hm := mid_list (A := [u8i (p.word / 16777216), u8i (p.word / 65536 % 256), u8i (p.word / 256 % 256), u8i (p.word % 256)]) (B := [u8i (((p.heads.2.size : Int) + (p.data.size : Int)) / 256), u8i (((p.heads.2.size : Int) + (p.data.size : Int)) % 256)]) hL (a := 4) (b := 4 + 2) rfl rfl
    rw [hm]
    have := two_num (x := (p.heads.2.size : Int) + (p.data.size : Int)) (by omega) (by omega) rfl rfl
    omega
  have hn : ((byN (p.bytes ++ Y) 6 : Nat) : Int) = p.heads.1 := by
    have : byN (p.bytes ++ Y) 6 = (u8i p.heads.1).toNat := by unfold byN; rw [hL]; rfl
    rw [this]
    exact u8i_nat hnx.1 hnx.2
  have hh : ((byN (p.bytes ++ Y) 7 : Nat) : Int) = p.hop := by
    have : byN (p.bytes ++ Y) 7 = (u8i p.hop).toNat := by unfold byN; rw [hL]; rfl
    rw [this]
    exact u8i_nat h0 (by omega)
  have hfr : adr (p.bytes ++ Y) 8 = p.fr := by
    unfold adr
    exact mid_list hL rfl (by rw [p.hfr]; rfl)
  have hdst : adr (p.bytes ++ Y) 24 = p.dst := by
    unfold adr
    refine mid_list (A := p.h8 ++ p.fr) (B := p.dst) (by rw [hL]; exact (List.append_assoc _ _ _).symm) ?_ ?_
    · rw [List.length_append, p.hfr]; rfl
    · rw [List.length_append, p.hfr, p.hdst]; rfl
  refine ⟨hw, hl, hn, hh, hfr, hdst, ?_, by rw [cat_len, bytes_size]; omega⟩
  apply ba_ext
  rw [hl, mid_list (A := p.h8 ++ p.fr ++ p.dst) (B := p.heads.2.data.toList ++ p.data.data.toList) (C := Y.data.toList) (by rw [hL]; simp only [List.append_assoc])]
  · rw [ByteArray.data_append, Array.toList_append]
  · rw [List.length_append, List.length_append, p.hfr, p.hdst]; rfl
  · rw [List.length_append, List.length_append, List.length_append, p.hfr, p.hdst, ba_size, ba_size, hzz]; rfl
theorem word_parts (p : Pk6) (ho : Ok6 p) : p.word / 268435456 = 6 ∧ p.word / 1048576 % 256 = p.cls ∧ p.word % 1048576 = p.flow := by
  obtain ⟨c0, c1, f0, f1, _⟩ := bnd_pl ho.bnd
  unfold Pk6.word
  omega
/-- The fragment's head is read back. -/
theorem frag_back (p : Pk6) (ho : Ok6 p) (hid : 0 ≤ p.id ∧ p.id < 4294967296) : ((byN (p.fragB ++ p.data) 0 : Nat) : Int) = p.proto ∧ ((frW (p.fragB ++ p.data) : Nat) : Int) = p.place ∧ ((frI (p.fragB ++ p.data) : Nat) : Int) = p.id ∧ (p.fragB ++ p.data).extract 8 (p.fragB ++ p.data).size = p.data := by
  obtain ⟨c0, c1, f0, f1, h0, h1, r0, r1, p0, p1, p8⟩ := bnd_pl ho.bnd
  have hL : (p.fragB ++ p.data).data.toList = [u8i p.proto, u8i 0, u8i (p.place / 256), u8i (p.place % 256), u8i (p.id / 16777216), u8i (p.id / 65536 % 256), u8i (p.id / 256 % 256), u8i (p.id % 256)] ++ p.data.data.toList := by
    unfold Pk6.fragB
    simp only [ByteArray.data_append, Array.toList_append, nums_list, List.append_assoc]
    rfl
  have hpl : 0 ≤ p.place ∧ p.place < 65536 := by unfold Pk6.place; split <;> omega
  refine ⟨?_, ?_, ?_, ?_⟩
  · have : byN (p.fragB ++ p.data) 0 = (u8i p.proto).toNat := by unfold byN; rw [hL]; rfl
    rw [this]
    exact u8i_nat r0 (by omega)
  · unfold frW
    have hm := mid_list (A := [u8i p.proto, u8i 0]) (B := [u8i (p.place / 256), u8i (p.place % 256)]) hL (a := 2) (b := 2 + 2) rfl rfl
    rw [hm]
    exact two_num hpl.1 hpl.2 rfl rfl
  · unfold frI
    have hm := mid_list (A := [u8i p.proto, u8i 0, u8i (p.place / 256), u8i (p.place % 256)]) (B := [u8i (p.id / 16777216), u8i (p.id / 65536 % 256), u8i (p.id / 256 % 256), u8i (p.id % 256)]) hL (a := 4) (b := 4 + 4) rfl rfl
    rw [hm]
    exact four_num hid.1 hid.2 rfl rfl rfl rfl
  · apply ba_ext
    rw [ext_end, hL]
    rfl
theorem pk6_ext {p q : Pk6} (h1 : p.cls = q.cls) (h2 : p.flow = q.flow) (h3 : p.hop = q.hop) (h4 : p.fr = q.fr) (h5 : p.dst = q.dst) (h6 : p.exts = q.exts) (h7 : p.frag = q.frag) (h8 : p.id = q.id) (h9 : p.pl = q.pl) (h10 : p.more = q.more) (h11 : p.proto = q.proto) (h12 : p.data = q.data) : p = q := by
  cases p
  cases q
  simp only at h1 h2 h3 h4 h5 h6 h7 h8 h9 h10 h11 h12
  subst h1 h2 h3 h4 h5 h6 h7 h8 h9 h10 h11 h12
  rfl
/-- The parts of the packet ahead of a fragment's head. -/
theorem prP_facts (s : ByteArray) (h : 40 ≤ s.size) : (prP s h).cls = (hdW s : Int) / 1048576 % 256 ∧ (prP s h).flow = (hdW s : Int) % 1048576 ∧ (prP s h).hop = ((byN s 7 : Nat) : Int) ∧ (prP s h).fr = adr s 8 ∧ (prP s h).dst = adr s 24 ∧ (prP s h).exts = (prC s).exts ∧ (prP s h).frag = false ∧ (prP s h).id = 0 ∧ (prP s h).pl = 0 ∧ (prP s h).more = false ∧ (prP s h).proto = (prC s).proto ∧ (prP s h).data = (prC s).rest := ⟨rfl, rfl, rfl, rfl, rfl, rfl, rfl, rfl, rfl, rfl, rfl, rfl⟩
theorem frP_facts (p : Pk6) : (frP p).cls = p.cls ∧ (frP p).flow = p.flow ∧ (frP p).hop = p.hop ∧ (frP p).fr = p.fr ∧ (frP p).dst = p.dst ∧ (frP p).exts = p.exts ∧ (frP p).frag = true ∧ (frP p).id = ((frI p.data : Nat) : Int) ∧ (frP p).pl = (frW p.data : Int) / 8 * 8 ∧ (frP p).more = ((frW p.data : Int) % 2 != 0) ∧ (frP p).proto = ((byN p.data 0 : Nat) : Int) ∧ (frP p).data = p.data.extract 8 p.data.size := ⟨rfl, rfl, rfl, rfl, rfl, rfl, rfl, rfl, rfl, rfl, rfl, rfl⟩
end Go.Proofs.Ytkihhmnlefekoaa
