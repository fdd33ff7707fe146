/-
  Proved here: what ip4.read answers.
  Conditions: a text of at most 70000 bytes, that has a head.
-/
import Derived.Test.YtdljjcnihajchaaFMeasure
namespace Go.Proofs.Ytdljjcnihajchaa.P4
open Go.RowKit

theorem and_two (x k : Nat) : x &&& 2 ^ k = x / 2 ^ k % 2 * 2 ^ k := by
  apply Nat.eq_of_testBit_eq
  intro i
  rw [Nat.testBit_and, Nat.testBit_two_pow]
  by_cases h : k = i
  · subst h
    rw [Nat.testBit_eq_decide_div_mod_eq, Nat.testBit_eq_decide_div_mod_eq, Nat.mul_div_cancel _ (Nat.two_pow_pos k)]
    simp
  · rcases Nat.mod_two_eq_zero_or_one (x / 2 ^ k) with e | e
    · rw [e]; simp [h]
    · rw [e, Nat.one_mul, Nat.testBit_two_pow]; simp [h]
theorem and_bit (x k : Nat) (hk : k ≤ 20) (hx : x < 1048576) (m : Int) (hm : m = ((2 ^ k : Nat) : Int)) : bits .and .i64 ((x : Nat) : Int) m = ((x / 2 ^ k % 2 * 2 ^ k : Nat) : Int) := by
  subst hm
  have hp : 2 ^ k ≤ 2 ^ 20 := Nat.pow_le_pow_right (by omega) hk
  have h1 : (BitVec.ofInt 64 ((x : Nat) : Int)).toNat = x := by
    rw [BitVec.ofInt_natCast, BitVec.toNat_ofNat]; exact Nat.mod_eq_of_lt (by omega)
  have h2 : (BitVec.ofInt 64 ((2 ^ k : Nat) : Int)).toNat = 2 ^ k := by
    rw [BitVec.ofInt_natCast, BitVec.toNat_ofNat]; exact Nat.mod_eq_of_lt (by omega)
  show IntKind.i64.wrap ((BitVec.ofInt 64 ((x : Nat) : Int) &&& BitVec.ofInt 64 ((2 ^ k : Nat) : Int)).toNat : Int) = _
  rw [BitVec.toNat_and, h1, h2, and_two, IntKind.wrap_i64]
  have h3 : x / 2 ^ k % 2 * 2 ^ k ≤ 1 * 2 ^ k := Nat.mul_le_mul_right _ (by omega)
  omega
/-- The packet of no numbers. -/
def pkt0 : Pkt := ⟨0, 0, 0, 0, 0, false, false, 0, 0, 0, 0, 0, 0, 0, 0, ⟨#[]⟩, ⟨#[]⟩⟩
/-- What lies in memory while a packet is read. -/
def RS (w0 : World) (B b r : Nat) (p : Pkt) (s : ByteArray) (k : Nat) (w : World) : Prop := Bk w b 35 p.vals.toArray ∧ Rd w r s k 0 ∧ Below B w0 w ∧ B ≤ b ∧ B ≤ r ∧ b ≠ r ∧ B ≤ w.heap.size
section
variable {w0 w w' : World} {B b r : Nat} {p : Pkt} {s : ByteArray} {k : Nat}
theorem RS.next (h : RS w0 B b r p s k w) {k' : Nat} (hR : Rd w' r s k' 0) (hG : w.grownBy w' (some r)) : RS w0 B b r p s k' w' := by
  obtain ⟨h1, h2, h3, h4, h5, h6, h7⟩ := h
  refine ⟨h1.grown hG (by simp; omega), hR, h3.grown hG h7 (fun j hj => ?_), h4, h5, h6, Nat.le_trans h7 hG.size⟩
  cases hj
  exact h5
theorem RS.set (h : RS w0 B b r p s k w) (i : Nat) (v : Value) (q : Pkt) (hq : p.vals.toArray.setIfInBounds i v = q.vals.toArray) : RS w0 B b r q s k (w.setCell ⟨b, i, none⟩ v) := by
  obtain ⟨h1, h2, h3, h4, h5, h6, h7⟩ := h
  refine ⟨hq ▸ h1.set i v, h2.set_other (Ne.symm h6) i v, h3.setCell (by exact h4) v, h4, h5, h6, by simpa [World.setCell] using h7⟩
theorem RS.sets (h : RS w0 B b r p s k w) (i : Nat) (vs : List Value) (q : Pkt) (hq : puts p.vals.toArray i vs = q.vals.toArray) : RS w0 B b r q s k (w.setCells b i vs) := by
  obtain ⟨h1, h2, h3, h4, h5, h6, h7⟩ := h
  refine ⟨hq ▸ Bk.sets vs i _ _ h1, h2.sets_other (Ne.symm h6) i vs, below_sets vs h4 i _ h3, h4, h5, h6, by rw [size_sets]; exact h7⟩
end
theorem Bk.there' {w : World} {b : Nat} {T : TypeId} {A : Array Value} (h : Bk w b T A) (o n : Nat) (hn : o + n ≤ A.size) : w.there b o n := by
  intro j hj
  refine ⟨?_, h.z _⟩
  rw [h.c (o + j) (A[o + j]'(by omega)) (by simp)]
  rfl
theorem quadV_eq (s : ByteArray) (i : Nat) (h : i + 4 ≤ s.size) : quadV s i = [.int .u8 (byN s i : Nat), .int .u8 (byN s (i + 1) : Nat), .int .u8 (byN s (i + 2) : Nat), .int .u8 (byN s (i + 3) : Nat)] := by
  have hl : s.data.toList.length = s.size := by simp
  unfold quadV
  rw [ext_list, List.drop_take, show i + 4 - i = 4 by omega, List.drop_eq_getElem_cons (by omega), List.take_succ_cons, List.drop_eq_getElem_cons (by omega), List.take_succ_cons, List.drop_eq_getElem_cons (by omega), List.take_succ_cons, List.drop_eq_getElem_cons (by omega), List.take_succ_cons, List.take_zero]
  unfold byN
  simp only [List.map_cons, List.map_nil, List.getD_eq_getElem?_getD]
  rw [List.getElem?_eq_getElem (by omega), List.getElem?_eq_getElem (by omega), List.getElem?_eq_getElem (by omega), List.getElem?_eq_getElem (by omega)]
  rfl
theorem puts_list (vs : List Value) : ∀ (o : Nat) (A : Array Value), o + vs.length ≤ A.size → (puts A o vs).toList = A.toList.take o ++ vs ++ A.toList.drop (o + vs.length) := by
  induction vs with
  | nil => intro o A _; simp [puts]
  | cons v r ih =>
    intro o A h
    simp only [List.length_cons] at h
    show (puts (A.setIfInBounds o v) (o + 1) r).toList = _
    rw [ih (o + 1) _ (by simp; omega), Array.toList_setIfInBounds, List.take_set, List.drop_set_of_lt (by omega), List.take_succ_eq_append_getElem (by simp; omega), List.set_append_right _ _ (by simp; omega)]
    have e : (A.toList.take o).length = o := by simp; omega
    rw [e, Nat.sub_self, List.set_cons_zero, List.length_cons, show o + 1 + r.length = o + (r.length + 1) by omega]
    simp
theorem puts_all (p q : Pkt) : puts p.vals.toArray 0 q.vals = q.vals.toArray := by
  apply Array.toList_inj.1
  rw [puts_list _ _ _ (show 0 + 17 ≤ 17 by decide)]
  rw [show List.drop (0 + q.vals.length) p.vals.toArray.toList = [] from rfl]
  simp
theorem vals_one (p : Pkt) : p.vals.toArray.all (·.oneCell') = true := by
  simp [Pkt.vals, Value.oneCell']
theorem text_at {w : World} {b : Nat} {s : ByteArray} {p : Nat} (h : Rd w b s p 0) (hs : s.size ≤ maxLen) (x : Int) (n : Nat) (hx : x = n) (hl : p + n ≤ s.size) :
    Calls Try.prog 32 #[.pointer (some ⟨b, 0, none⟩), .int .i64 x] w (Read b s p n (.string (s.extract p (p + n))) w) := by
  subst hx
  exact text_ok h hs n hl
/-- The packet that a text says, whose head has n bytes. -/
def rdP (t : ByteArray) (n : Nat) : Pkt where
  tos := (byN t 1 : Nat)
  id := (num2 t 4 : Nat)
  ttl := (byN t 8 : Nat)
  proto := (byN t 9 : Nat)
  pl := (num2 t 6 : Nat) % 8192 * 8
  df := (((num2 t 6 : Nat) : Int) / 16384 % 2 * 16384 != 0)
  more := (((num2 t 6 : Nat) : Int) / 8192 % 2 * 8192 != 0)
  a0 := (byN t 12 : Nat)
  a1 := (byN t 13 : Nat)
  a2 := (byN t 14 : Nat)
  a3 := (byN t 15 : Nat)
  b0 := (byN t 16 : Nat)
  b1 := (byN t 17 : Nat)
  b2 := (byN t 18 : Nat)
  b3 := (byN t 19 : Nat)
  opts := t.extract 20 n
  data := t.extract n t.size
/-- Is the bit that is nobody's not set? -/
def freeB (t : ByteArray) : Bool := (((num2 t 6 : Nat) : Int) / 32768 % 2 * 32768 == 0)

set_option maxRecDepth 100000 in
set_option maxHeartbeats 400000 in
theorem read_any (t : ByteArray) (n : Nat) (w : World) (ht : t.size ≤ 70000) (h20 : 20 ≤ n) (hn : n ≤ t.size) :
    Calls Try.prog 19 #[.string t, .int .i64 n] w fun e w' => e = .returned (.tuple #[.agg (rdP t n).vals.toArray, .bool (freeB t)]) ∧ Below w.heap.size w w' := by
  have HFB : Hid (freeB t = (((num2 t 6 : Nat) : Int) / 32768 % 2 * 32768 == 0)) := Lib.hid rfl
  have hm : t.size ≤ maxLen := by unfold maxLen; omega
  have HM := Lib.hid hm
  clear hm
  have hmm := num2_lt t 6
  have K1 := Lib.hid (and_low ((num2 t 6 : Nat) : Int) 13 (by decide) 8191 (by decide))
  have K2 := Lib.hid (and_bit (num2 t 6) 14 (by decide) (by omega) 16384 (by decide))
  have K3 := Lib.hid (and_bit (num2 t 6) 13 (by decide) (by omega) 8192 (by decide))
  have K4 := Lib.hid (and_bit (num2 t 6) 15 (by decide) (by omega) 32768 (by decide))
  have F0 : Hid (numOf (t.extract 0 (0 + 1)).data.toList = byN t 0) := Lib.hid (numOf_one t 0 (by omega))
  have F1 : Hid (numOf (t.extract 1 (1 + 1)).data.toList = byN t 1) := Lib.hid (numOf_one t 1 (by omega))
  have F2 : Hid (numOf (t.extract 2 (2 + 2)).data.toList = num2 t 2) := Lib.hid (numOf_two t 2 (by omega))
  have F4 : Hid (numOf (t.extract 4 (4 + 2)).data.toList = num2 t 4) := Lib.hid (numOf_two t 4 (by omega))
  have F6 : Hid (numOf (t.extract 6 (6 + 2)).data.toList = num2 t 6) := Lib.hid (numOf_two t 6 (by omega))
  have F8 : Hid (numOf (t.extract 8 (8 + 1)).data.toList = byN t 8) := Lib.hid (numOf_one t 8 (by omega))
  have F9 : Hid (numOf (t.extract 9 (9 + 1)).data.toList = byN t 9) := Lib.hid (numOf_one t 9 (by omega))
  have F10 : Hid (numOf (t.extract 10 (10 + 2)).data.toList = num2 t 10) := Lib.hid (numOf_two t 10 (by omega))
  have HQ1 := Lib.hid (quadV_eq t 12 (by omega))
  have HQ2 := Lib.hid (quadV_eq t 16 (by omega))
  have hi1 : (Try.prog.info? 33).map (·.size) = some (quadV t 12).toArray.size := by rw [show (quadV t 12).toArray.size = 4 from quadV_len t 12 (by omega)]; kernel_rfl
  have hi2 : (Try.prog.info? 33).map (·.size) = some (quadV t 16).toArray.size := by rw [show (quadV t 16).toArray.size = 4 from quadV_len t 16 (by omega)]; kernel_rfl
  have HI1 := Lib.hid hi1
  have HI2 := Lib.hid hi2
  have HO1 := Lib.hid (all_oneCell_toArray (quadV_one t 12))
  have HO2 := Lib.hid (all_oneCell_toArray (quadV_one t 16))
  have HL1 := Lib.hid (quadV_len t 12 (by omega))
  have HL2 := Lib.hid (quadV_len t 16 (by omega))
  clear hi1 hi2
  have hZ0 := bk_new w 35 pkt0.vals.toArray
  have HZ0 := Lib.hid hZ0
  clear hZ0
  go_enter Try.func19, Try.ntmps19
  go_wp2_with fail
  refine (new_any t _).mono ?_
  rintro e w1 ⟨rfl, hw1⟩
  have hR1 := hw1 ▸ Rd.new _ t
  have hK1 : Bk w1 w.heap.size 35 pkt0.vals.toArray := hw1 ▸ HZ0.out.alloc _
  have hB1 : Below w.heap.size w w1 := hw1 ▸ ((Below.refl _ _).alloc (Nat.le_refl _) _).alloc (by simp) _
  have hS1 : RS w w.heap.size w.heap.size (w.heap.size + 1) pkt0 t 0 w1 := ⟨hK1, by simpa using hR1, hB1, Nat.le_refl _, by omega, by omega, hB1.size⟩
  clear hw1 hR1 hK1 hB1 HZ0
  have HS1 := Lib.hid hS1
  clear hS1
  have hS := HS1.out
  go_wp2_with fail
  refine (u8_of _ _ (number_ok (show Rd _ (w.heap.size + 1) t 0 0 from hS.2.1) HM.out 1 (by decide) (by omega)) two_read).mono ?_
  rintro e w2 ⟨rfl, hR, hG⟩
  rw [F0.out]
  have hS2 : RS w w.heap.size w.heap.size (w.heap.size + 1) _ t 1 w2 := hS.next hR hG
  have HS2 := Lib.hid hS2
  clear hS hS2 hR hG
  clear HS1
  have hS := HS2.out
  go_wp2_with fail
  refine (u8_of _ _ (number_ok (show Rd _ (w.heap.size + 1) t 1 0 from hS.2.1) HM.out 1 (by decide) (by omega)) two_read).mono ?_
  rintro e w3 ⟨rfl, hR, hG⟩
  rw [F1.out]
  have hS2 : RS w w.heap.size w.heap.size (w.heap.size + 1) _ t 2 w3 := hS.next hR hG
  have c := hS2.1.c 0 _ rfl
  have z := hS2.1.z 0
  have HSx := Lib.hid hS2
  clear hS hS2 hR hG
  go_wp2_with fail
  have HS3 := Lib.hid (HSx.out.set 0 (.int .i64 (byN t 1 : Nat)) ⟨(byN t 1 : Nat), 0, 0, 0, 0, false, false, 0, 0, 0, 0, 0, 0, 0, 0, ⟨#[]⟩, ⟨#[]⟩⟩ rfl)
  clear c z HSx
  clear HS2
  have hS := HS3.out
  go_wp2_with fail
  refine (u16_of _ _ (number_ok (show Rd _ (w.heap.size + 1) t 2 0 from hS.2.1) HM.out 2 (by decide) (by omega)) two_read).mono ?_
  rintro e w4 ⟨rfl, hR, hG⟩
  rw [F2.out]
  have hS2 : RS w w.heap.size w.heap.size (w.heap.size + 1) _ t 4 w4 := hS.next hR hG
  have HS4 := Lib.hid hS2
  clear hS hS2 hR hG
  clear HS3
  have hS := HS4.out
  go_wp2_with fail
  refine (u16_of _ _ (number_ok (show Rd _ (w.heap.size + 1) t 4 0 from hS.2.1) HM.out 2 (by decide) (by omega)) two_read).mono ?_
  rintro e w5 ⟨rfl, hR, hG⟩
  rw [F4.out]
  have hS2 : RS w w.heap.size w.heap.size (w.heap.size + 1) _ t 6 w5 := hS.next hR hG
  have c := hS2.1.c 1 _ rfl
  have z := hS2.1.z 1
  have HSx := Lib.hid hS2
  clear hS hS2 hR hG
  go_wp2_with fail
  have HS5 := Lib.hid (HSx.out.set 1 (.int .i64 (num2 t 4 : Nat)) ⟨(byN t 1 : Nat), (num2 t 4 : Nat), 0, 0, 0, false, false, 0, 0, 0, 0, 0, 0, 0, 0, ⟨#[]⟩, ⟨#[]⟩⟩ rfl)
  clear c z HSx
  clear HS4
  have hS := HS5.out
  go_wp2_with fail
  refine (u16_of _ _ (number_ok (show Rd _ (w.heap.size + 1) t 6 0 from hS.2.1) HM.out 2 (by decide) (by omega)) two_read).mono ?_
  rintro e w6 ⟨rfl, hR, hG⟩
  rw [F6.out]
  have hS2 : RS w w.heap.size w.heap.size (w.heap.size + 1) _ t 8 w6 := hS.next hR hG
  have c4 := hS2.1.c 4 _ rfl
  have z4 := hS2.1.z 4
  have c5 := hS2.1.c 5 _ rfl
  have z5 := hS2.1.z 5
  have c6 := hS2.1.c 6 _ rfl
  have z6 := hS2.1.z 6
  have HSx := Lib.hid hS2
  clear hS hS2 hR hG
  have k1 := K1.out
  have k2 := K2.out
  have k3 := K3.out
  go_wp2_with fail
  clear k1 k2 k3 c4 z4 c5 z5 c6 z6
  have HS6 := Lib.hid (((HSx.out.set 4 (.int .i64 ((num2 t 6 : Nat) % 8192 * 8)) ⟨(byN t 1 : Nat), (num2 t 4 : Nat), 0, 0, (num2 t 6 : Nat) % 8192 * 8, false, false, 0, 0, 0, 0, 0, 0, 0, 0, ⟨#[]⟩, ⟨#[]⟩⟩ rfl).set 5 (.bool (((num2 t 6 : Nat) : Int) / 16384 % 2 * 16384 != 0)) ⟨(byN t 1 : Nat), (num2 t 4 : Nat), 0, 0, (num2 t 6 : Nat) % 8192 * 8, (((num2 t 6 : Nat) : Int) / 16384 % 2 * 16384 != 0), false, 0, 0, 0, 0, 0, 0, 0, 0, ⟨#[]⟩, ⟨#[]⟩⟩ rfl).set 6 (.bool (((num2 t 6 : Nat) : Int) / 8192 % 2 * 8192 != 0)) ⟨(byN t 1 : Nat), (num2 t 4 : Nat), 0, 0, (num2 t 6 : Nat) % 8192 * 8, (((num2 t 6 : Nat) : Int) / 16384 % 2 * 16384 != 0), (((num2 t 6 : Nat) : Int) / 8192 % 2 * 8192 != 0), 0, 0, 0, 0, 0, 0, 0, 0, ⟨#[]⟩, ⟨#[]⟩⟩ rfl)
  clear HSx HS5
  have hS := HS6.out
  go_wp2_with fail
  refine (u8_of _ _ (number_ok (show Rd _ (w.heap.size + 1) t 8 0 from hS.2.1) HM.out 1 (by decide) (by omega)) two_read).mono ?_
  rintro e w7 ⟨rfl, hR, hG⟩
  rw [F8.out]
  have hS2 : RS w w.heap.size w.heap.size (w.heap.size + 1) _ t 9 w7 := hS.next hR hG
  have c := hS2.1.c 2 _ rfl
  have z := hS2.1.z 2
  have HSx := Lib.hid hS2
  clear hS hS2 hR hG
  go_wp2_with fail
  have HS7 := Lib.hid (HSx.out.set 2 (.int .i64 (byN t 8 : Nat)) ⟨(byN t 1 : Nat), (num2 t 4 : Nat), (byN t 8 : Nat), 0, (num2 t 6 : Nat) % 8192 * 8, (((num2 t 6 : Nat) : Int) / 16384 % 2 * 16384 != 0), (((num2 t 6 : Nat) : Int) / 8192 % 2 * 8192 != 0), 0, 0, 0, 0, 0, 0, 0, 0, ⟨#[]⟩, ⟨#[]⟩⟩ rfl)
  clear c z HSx
  clear HS6
  have hS := HS7.out
  go_wp2_with fail
  refine (u8_of _ _ (number_ok (show Rd _ (w.heap.size + 1) t 9 0 from hS.2.1) HM.out 1 (by decide) (by omega)) two_read).mono ?_
  rintro e w8 ⟨rfl, hR, hG⟩
  rw [F9.out]
  have hS2 : RS w w.heap.size w.heap.size (w.heap.size + 1) _ t 10 w8 := hS.next hR hG
  have c := hS2.1.c 3 _ rfl
  have z := hS2.1.z 3
  have HSx := Lib.hid hS2
  clear hS hS2 hR hG
  go_wp2_with fail
  have HS8 := Lib.hid (HSx.out.set 3 (.int .i64 (byN t 9 : Nat)) ⟨(byN t 1 : Nat), (num2 t 4 : Nat), (byN t 8 : Nat), (byN t 9 : Nat), (num2 t 6 : Nat) % 8192 * 8, (((num2 t 6 : Nat) : Int) / 16384 % 2 * 16384 != 0), (((num2 t 6 : Nat) : Int) / 8192 % 2 * 8192 != 0), 0, 0, 0, 0, 0, 0, 0, 0, ⟨#[]⟩, ⟨#[]⟩⟩ rfl)
  clear c z HSx
  clear HS7
  have hS := HS8.out
  go_wp2_with fail
  refine (u16_of _ _ (number_ok (show Rd _ (w.heap.size + 1) t 10 0 from hS.2.1) HM.out 2 (by decide) (by omega)) two_read).mono ?_
  rintro e w9 ⟨rfl, hR, hG⟩
  rw [F10.out]
  have hS2 : RS w w.heap.size w.heap.size (w.heap.size + 1) _ t 12 w9 := hS.next hR hG
  have HS9 := Lib.hid hS2
  clear hS hS2 hR hG
  clear HS8
  have hS := HS9.out
  go_wp2_with fail
  refine (address_any (show Rd _ (w.heap.size + 1) t 12 0 from hS.2.1) HM.out (by omega)).mono ?_
  rintro e w10 ⟨rfl, hR, hG⟩
  generalize quadV t 12 = V1 at HQ1 HI1 HO1 HL1 ⊢
  have hS2 : RS w w.heap.size w.heap.size (w.heap.size + 1) _ t 16 w10 := hS.next hR hG
  have hth : w10.there w.heap.size 7 V1.toArray.size := by rw [show V1.toArray.size = 4 from HL1.out]; exact hS2.1.there' 7 4 (show 7 + 4 ≤ 17 by decide)
  have HSx := Lib.hid hS2
  clear hS hS2 hR hG
  dsimp only
  go_wp2_with (refine wpList_store_mid rfl 33 _ _ rfl w.heap.size 7 V1.toArray rfl rfl hth HI1.out HO1.out ?_)
  have HS10 := Lib.hid (HSx.out.sets 7 V1 ⟨(byN t 1 : Nat), (num2 t 4 : Nat), (byN t 8 : Nat), (byN t 9 : Nat), (num2 t 6 : Nat) % 8192 * 8, (((num2 t 6 : Nat) : Int) / 16384 % 2 * 16384 != 0), (((num2 t 6 : Nat) : Int) / 8192 % 2 * 8192 != 0), (byN t 12 : Nat), (byN t 13 : Nat), (byN t 14 : Nat), (byN t 15 : Nat), 0, 0, 0, 0, ⟨#[]⟩, ⟨#[]⟩⟩ (by rw [HQ1.out]; rfl))
  clear hth HSx HS9
  have hS := HS10.out
  go_wp2_with fail
  refine (address_any (show Rd _ (w.heap.size + 1) t 16 0 from hS.2.1) HM.out (by omega)).mono ?_
  rintro e w11 ⟨rfl, hR, hG⟩
  generalize quadV t 16 = V2 at HQ2 HI2 HO2 HL2 ⊢
  have hS2 : RS w w.heap.size w.heap.size (w.heap.size + 1) _ t 20 w11 := hS.next hR hG
  have hth : w11.there w.heap.size 11 V2.toArray.size := by rw [show V2.toArray.size = 4 from HL2.out]; exact hS2.1.there' 11 4 (show 11 + 4 ≤ 17 by decide)
  have HSx := Lib.hid hS2
  clear hS hS2 hR hG
  dsimp only
  go_wp2_with (refine wpList_store_mid rfl 33 _ _ rfl w.heap.size 11 V2.toArray rfl rfl hth HI2.out HO2.out ?_)
  have HS11 := Lib.hid (HSx.out.sets 11 V2 ⟨(byN t 1 : Nat), (num2 t 4 : Nat), (byN t 8 : Nat), (byN t 9 : Nat), (num2 t 6 : Nat) % 8192 * 8, (((num2 t 6 : Nat) : Int) / 16384 % 2 * 16384 != 0), (((num2 t 6 : Nat) : Int) / 8192 % 2 * 8192 != 0), (byN t 12 : Nat), (byN t 13 : Nat), (byN t 14 : Nat), (byN t 15 : Nat), (byN t 16 : Nat), (byN t 17 : Nat), (byN t 18 : Nat), (byN t 19 : Nat), ⟨#[]⟩, ⟨#[]⟩⟩ (by rw [HQ2.out]; rfl))
  clear hth HSx HS10
  have HE : Hid (20 + (n - 20) = n) := Lib.hid (by omega)
  have hS := HS11.out
  go_wp2_with fail
  refine (text_at (show Rd _ (w.heap.size + 1) t 20 0 from hS.2.1) HM.out _ (n - 20) (by omega) (by omega)).mono ?_
  rintro e w12 ⟨rfl, hR, hG⟩
  rw [HE.out] at hR
  rw [HE.out]
  have hS2 : RS w w.heap.size w.heap.size (w.heap.size + 1) _ t n w12 := hS.next hR hG
  have c := hS2.1.c 15 _ rfl
  have z := hS2.1.z 15
  have HSx := Lib.hid hS2
  clear hS hS2 hR hG
  go_wp2_with fail
  have HS12 := Lib.hid (HSx.out.set 15 (.string (t.extract 20 n)) ⟨(byN t 1 : Nat), (num2 t 4 : Nat), (byN t 8 : Nat), (byN t 9 : Nat), (num2 t 6 : Nat) % 8192 * 8, (((num2 t 6 : Nat) : Int) / 16384 % 2 * 16384 != 0), (((num2 t 6 : Nat) : Int) / 8192 % 2 * 8192 != 0), (byN t 12 : Nat), (byN t 13 : Nat), (byN t 14 : Nat), (byN t 15 : Nat), (byN t 16 : Nat), (byN t 17 : Nat), (byN t 18 : Nat), (byN t 19 : Nat), t.extract 20 n, ⟨#[]⟩⟩ rfl)
  clear c z HSx HS11
  have hS := HS12.out
  go_wp2_with fail
  refine (rest_ok (show Rd _ (w.heap.size + 1) t n 0 from hS.2.1) hn).mono ?_
  rintro e w13 ⟨rfl, hR, hG⟩
  have hS2 : RS w w.heap.size w.heap.size (w.heap.size + 1) _ t t.size w13 := hS.next hR hG
  have c := hS2.1.c 16 _ rfl
  have z := hS2.1.z 16
  have HSx := Lib.hid hS2
  have hSf : RS w w.heap.size w.heap.size (w.heap.size + 1) (rdP t n) t t.size (w13.setCell ⟨w.heap.size, 16, none⟩ (.string (t.extract n t.size))) := hS2.set 16 (.string (t.extract n t.size)) (rdP t n) rfl
  have hrf := hSf.1.range
  have htf : (w13.setCell ⟨w.heap.size, 16, none⟩ (.string (t.extract n t.size))).there w.heap.size 0 (rdP t n).vals.toArray.size := hSf.1.there' 0 17 (Nat.le_refl _)
  have HS13 := Lib.hid hSf
  clear hS hS2 hR hG hSf HSx HS12
  obtain ⟨VL, hVL⟩ : ∃ VL, VL = (rdP t n).vals := ⟨_, rfl⟩
  have hrf' : (w13.setCell ⟨w.heap.size, 16, none⟩ (.string (t.extract n t.size))).rangeAt w.heap.size 0 VL := by rw [hVL]; exact hrf
  have htf' : (w13.setCell ⟨w.heap.size, 16, none⟩ (.string (t.extract n t.size))).there w.heap.size 0 VL.toArray.size := by rw [hVL]; exact htf
  have hIv : (Try.prog.info? 35).map (·.size) = some VL.length := by rw [hVL]; exact Try.infoIp (rdP t n)
  have hOv : VL.toArray.all (·.oneCell') = true := by rw [hVL]; exact vals_one (rdP t n)
  have HIv := Lib.hid hIv
  have HOv := Lib.hid hOv
  have HVL := Lib.hid hVL
  clear hrf htf hIv hOv hVL
  have k4 := K4.out
  go_wp2_with (first | (refine wpList_load_mid rfl 35 _ rfl w.heap.size 0 rfl VL _ hrf' Try.underlying35 rfl HIv.out ?_) | (refine wpList_store_mid rfl 35 _ _ rfl w.heap.size 0 VL.toArray rfl rfl htf' HIv.out HOv.out ?_))
  clear k4 c z hrf' htf'
  have hS := HS13.out.sets 0 VL (rdP t n) (by rw [HVL.out]; exact puts_all _ _)
  have hrg : ((w13.setCell ⟨w.heap.size, 16, none⟩ (.string (t.extract n t.size))).setCells w.heap.size 0 VL).rangeAt w.heap.size 0 VL := by
    have := hS.1.range
    rw [show (rdP t n).vals.toArray.toList = VL from HVL.out.symm] at this
    exact this
  refine bodyPost_ret (v := .tuple #[.agg VL.toArray, .bool (freeB t)]) ?_ rfl ⟨by rw [HVL.out], hS.2.2.1⟩
  rw [HFB.out]
  exact results_cell2 rfl rfl rfl (run_loadVar_mid _ w.heap.size 0 35 VL _ hrg Try.underlying35 rfl HIv.out)
end Go.Proofs.Ytdljjcnihajchaa.P4
