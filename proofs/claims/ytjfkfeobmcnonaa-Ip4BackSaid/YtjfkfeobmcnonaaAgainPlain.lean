/-
  Proved here: plain facts on the bytes of what was parsed.
  Conditions: none.
-/
import Derived.Test.YtjfkfeobmcnonaaRound
namespace Go.Proofs.Ytjfkfeobmcnonaa
open Go.RowKit

theorem u8_back (c : UInt8) : u8 ((c.toNat : Nat) : Int) = c := by
  unfold u8
  rw [Int.toNat_natCast]
  exact UInt8.ofNat_toNat
theorem u8_hi (c d : UInt8) : u8 (((c.toNat * 256 + d.toNat : Nat) : Int) / 256) = c := by
  have h := d.toNat_lt
  rw [show ((c.toNat * 256 + d.toNat : Nat) : Int) / 256 = ((c.toNat : Nat) : Int) by omega]
  exact u8_back c
theorem u8_lo (c d : UInt8) : u8 (((c.toNat * 256 + d.toNat : Nat) : Int) % 256) = d := by
  have h := d.toNat_lt
  rw [show ((c.toNat * 256 + d.toNat : Nat) : Int) % 256 = ((d.toNat : Nat) : Int) by omega]
  exact u8_back d
theorem list10 {l : List UInt8} (h : 10 ≤ l.length) : ∃ (c0 c1 c2 c3 c4 c5 c6 c7 c8 c9 : UInt8) (r : List UInt8), l = [c0, c1, c2, c3, c4, c5, c6, c7, c8, c9] ++ r := by
  match l, h with
  | c0 :: c1 :: c2 :: c3 :: c4 :: c5 :: c6 :: c7 :: c8 :: c9 :: r, _ => exact ⟨c0, c1, c2, c3, c4, c5, c6, c7, c8, c9, r, rfl⟩
theorem list20 {l : List UInt8} (h : 20 ≤ l.length) : ∃ (c0 c1 c2 c3 c4 c5 c6 c7 c8 c9 c10 c11 c12 c13 c14 c15 c16 c17 c18 c19 : UInt8) (r : List UInt8), l = [c0, c1, c2, c3, c4, c5, c6, c7, c8, c9, c10, c11, c12, c13, c14, c15, c16, c17, c18, c19] ++ r := by
  obtain ⟨c0, c1, c2, c3, c4, c5, c6, c7, c8, c9, r, rfl⟩ := list10 (l := l) (by omega)
  obtain ⟨d0, d1, d2, d3, d4, d5, d6, d7, d8, d9, r', rfl⟩ := list10 (l := r) (by simp at h; omega)
  exact ⟨c0, c1, c2, c3, c4, c5, c6, c7, c8, c9, d0, d1, d2, d3, d4, d5, d6, d7, d8, d9, r', rfl⟩
theorem pcode_ok {s : ByteArray} (h : pcode s = 0) : mcode s = 0 ∧ freeB (s.extract 0 (num2 s 2)) = true ∧ (ppkt s).why = 0 := by
  unfold pcode at h
  by_cases hc : mcode s = 0
  · rw [if_pos hc] at h
    by_cases hq : freeB (s.extract 0 (num2 s 2)) = true ∧ (ppkt s).why = 0
    · exact ⟨hc, hq.1, hq.2⟩
    · rw [if_neg hq] at h; cases h
  · rw [if_neg hc] at h; exact absurd h hc
theorem byN_ext (s : ByteArray) (n i : Nat) (h : i < n) : byN (s.extract 0 n) i = byN s i := by
  unfold byN
  rw [ext_list, List.drop_zero, List.getD_eq_getElem?_getD, List.getElem?_take_of_lt h, ← List.getD_eq_getElem?_getD]
theorem num2_ext (s : ByteArray) (n i : Nat) (h : i + 1 < n) : num2 (s.extract 0 n) i = num2 s i := by
  unfold num2
  rw [byN_ext s n i (by omega), byN_ext s n (i + 1) h]
theorem rdP_byt (t : ByteArray) (n : Nat) : (rdP t n).byt := by
  have h : ∀ i, 0 ≤ ((byN t i : Nat) : Int) ∧ ((byN t i : Nat) : Int) < 256 := fun i => by have := byN_lt t i; omega
  exact ⟨h 12, h 13, h 14, h 15, h 16, h 17, h 18, h 19⟩
/-- What is parsed has the bytes from which it was, but for the sum. -/
theorem again_list (s : ByteArray) (h : pcode s = 0) : ∃ x y : UInt8, (ppkt s).bytes.data.toList = s.data.toList.take 10 ++ [x, y] ++ (s.data.toList.take (num2 s 2)).drop 12 := by
  obtain ⟨hm, hf, hw⟩ := pcode_ok h
  obtain ⟨g1, g2, g3, g4, _, g6, g7⟩ := mcode_ok hm
  have hh := hdN_le s
  refine ⟨u8 ((ppkt s).sum / 256), u8 ((ppkt s).sum % 256), ?_⟩
  rw [bytes_list]
  have hT : (s.extract 0 (num2 s 2)).size = num2 s 2 := by simp; omega
  have ho : (ppkt s).opts.data.toList ++ (ppkt s).data.data.toList = (s.data.toList.take (num2 s 2)).drop 20 := by
    show ((s.extract 0 (num2 s 2)).extract 20 (hdN s)).data.toList ++ ((s.extract 0 (num2 s 2)).extract (hdN s) (s.extract 0 (num2 s 2)).size).data.toList = _
    simp only [hT, ext_list, List.drop_zero, List.take_take, Nat.min_eq_left g6, Nat.min_self]
    have e : (s.data.toList.take (hdN s)).drop 20 = ((s.data.toList.take (num2 s 2)).drop 20).take (hdN s - 20) := by
      rw [List.take_drop, List.take_take, show 20 + (hdN s - 20) = hdN s by omega, Nat.min_eq_left g6]
    have e2 : (s.data.toList.take (num2 s 2)).drop (hdN s) = ((s.data.toList.take (num2 s 2)).drop 20).drop (hdN s - 20) := by
      rw [List.drop_drop, show 20 + (hdN s - 20) = hdN s by omega]
    rw [e, e2, List.take_append_drop]
  rw [ho]
  have hos : (ppkt s).opts.size = hdN s - 20 := by
    show ((s.extract 0 (num2 s 2)).extract 20 (hdN s)).size = _
    simp
    omega
  have hds : (ppkt s).data.size = num2 s 2 - hdN s := by
    show ((s.extract 0 (num2 s 2)).extract (hdN s) (s.extract 0 (num2 s 2)).size).size = _
    rw [hT]
    simp
    omega
  have hall : (ppkt s).all = ((num2 s 2 : Nat) : Int) := by unfold Pkt.all; omega
  have hz := num2_lt s 6
  have hpl : (ppkt s).place = ((num2 s 6 : Nat) : Int) := by
    have e6 : num2 (s.extract 0 (num2 s 2)) 6 = num2 s 6 := num2_ext s _ 6 (by omega)
    unfold freeB at hf
    rw [e6] at hf
    have hf' : ((num2 s 6 : Nat) : Int) / 32768 % 2 * 32768 = 0 := by simpa using hf
    show ((num2 (s.extract 0 (num2 s 2)) 6 : Nat) : Int) % 8192 * 8 / 8 + ((if (((num2 (s.extract 0 (num2 s 2)) 6 : Nat) : Int) / 16384 % 2 * 16384 != 0) = true then 16384 else 0) + (if (((num2 (s.extract 0 (num2 s 2)) 6 : Nat) : Int) / 8192 % 2 * 8192 != 0) = true then 8192 else 0)) = _
    rw [e6]
    generalize num2 s 6 = m at *
    simp only [bne_iff_ne, ne_eq]
    by_cases h1 : (m : Int) / 16384 % 2 * 16384 = 0 <;> by_cases h2 : (m : Int) / 8192 % 2 * 8192 = 0 <;> simp [h1, h2] <;> omega
  have h64 : 64 + (20 + (ppkt s).opts.size : Int) / 4 = ((byN s 0 : Nat) : Int) := by
    rw [hos]
    have : hdN s = byN s 0 % 16 * 4 := rfl
    omega
  obtain ⟨c0, c1, c2, c3, c4, c5, c6, c7, c8, c9, c10, c11, c12, c13, c14, c15, c16, c17, c18, c19, r, hl⟩ := list20 (l := s.data.toList) (by rw [ba_size]; exact g1)
  have hx : ∀ i, i < 20 → byN (s.extract 0 (num2 s 2)) i = byN s i := fun i hi => byN_ext s _ i (by omega)
  have hb : ∀ i, byN s i = (([c0, c1, c2, c3, c4, c5, c6, c7, c8, c9, c10, c11, c12, c13, c14, c15, c16, c17, c18, c19] ++ r).getD i 0).toNat := fun i => by unfold byN; rw [hl]
  have k2 : num2 s 2 = c2.toNat * 256 + c3.toNat := by unfold num2; rw [hb, hb]; rfl
  have k6 : num2 s 6 = c6.toNat * 256 + c7.toNat := by unfold num2; rw [hb, hb]; rfl
  have k4 : (ppkt s).id = ((c4.toNat * 256 + c5.toNat : Nat) : Int) := by
    show ((num2 (s.extract 0 (num2 s 2)) 4 : Nat) : Int) = _
    rw [num2_ext s _ 4 (by omega)]
    unfold num2
    rw [hb, hb]
    rfl
  unfold Pkt.fix
  rw [h64, hall, hpl, k4]
  rw [show (ppkt s).tos = ((c1.toNat : Nat) : Int) by
    show ((byN (s.extract 0 (num2 s 2)) 1 : Nat) : Int) = _
    rw [hx 1 (by omega), hb]; rfl]
  rw [show (ppkt s).ttl = ((c8.toNat : Nat) : Int) by
    show ((byN (s.extract 0 (num2 s 2)) 8 : Nat) : Int) = _
    rw [hx 8 (by omega), hb]; rfl]
  rw [show (ppkt s).proto = ((c9.toNat : Nat) : Int) by
    show ((byN (s.extract 0 (num2 s 2)) 9 : Nat) : Int) = _
    rw [hx 9 (by omega), hb]; rfl]
  rw [show (ppkt s).a0 = ((c12.toNat : Nat) : Int) by
    show ((byN (s.extract 0 (num2 s 2)) 12 : Nat) : Int) = _
    rw [hx 12 (by omega), hb]; rfl]
  rw [show (ppkt s).a1 = ((c13.toNat : Nat) : Int) by
    show ((byN (s.extract 0 (num2 s 2)) 13 : Nat) : Int) = _
    rw [hx 13 (by omega), hb]; rfl]
  rw [show (ppkt s).a2 = ((c14.toNat : Nat) : Int) by
    show ((byN (s.extract 0 (num2 s 2)) 14 : Nat) : Int) = _
    rw [hx 14 (by omega), hb]; rfl]
  rw [show (ppkt s).a3 = ((c15.toNat : Nat) : Int) by
    show ((byN (s.extract 0 (num2 s 2)) 15 : Nat) : Int) = _
    rw [hx 15 (by omega), hb]; rfl]
  rw [show (ppkt s).b0 = ((c16.toNat : Nat) : Int) by
    show ((byN (s.extract 0 (num2 s 2)) 16 : Nat) : Int) = _
    rw [hx 16 (by omega), hb]; rfl]
  rw [show (ppkt s).b1 = ((c17.toNat : Nat) : Int) by
    show ((byN (s.extract 0 (num2 s 2)) 17 : Nat) : Int) = _
    rw [hx 17 (by omega), hb]; rfl]
  rw [show (ppkt s).b2 = ((c18.toNat : Nat) : Int) by
    show ((byN (s.extract 0 (num2 s 2)) 18 : Nat) : Int) = _
    rw [hx 18 (by omega), hb]; rfl]
  rw [show (ppkt s).b3 = ((c19.toNat : Nat) : Int) by
    show ((byN (s.extract 0 (num2 s 2)) 19 : Nat) : Int) = _
    rw [hx 19 (by omega), hb]; rfl]
  rw [show ((byN s 0 : Nat) : Int) = ((c0.toNat : Nat) : Int) by rw [hb]; rfl]
  have hm2 : 20 ≤ num2 s 2 := by omega
  rw [show ((num2 s 2 : Nat) : Int) = ((c2.toNat * 256 + c3.toNat : Nat) : Int) by rw [k2], show ((num2 s 6 : Nat) : Int) = ((c6.toNat * 256 + c7.toNat : Nat) : Int) by rw [k6]]
  generalize num2 s 2 = M at *
  rw [hl]
  simp only [u8_back, u8_hi, u8_lo]
  obtain ⟨K, rfl⟩ : ∃ K, M = 20 + K := ⟨M - 20, by omega⟩
  rw [Nat.add_comm 20 K]
  rfl
end Go.Proofs.Ytjfkfeobmcnonaa
