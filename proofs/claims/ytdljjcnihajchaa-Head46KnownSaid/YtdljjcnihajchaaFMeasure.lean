/-
  Proved here: what ip4.measure answers.
  Conditions: a text of at most 70000 bytes.
-/
import Derived.Test.YtdljjcnihajchaaFCells
namespace Go.Proofs.Ytdljjcnihajchaa.P4
open Go.RowKit

/-- Byte i of a text. -/
def byN (s : ByteArray) (i : Nat) : Nat := (s.data.toList.getD i 0).toNat
/-- Two bytes of a text, as a number. -/
def num2 (s : ByteArray) (i : Nat) : Nat := byN s i * 256 + byN s (i + 1)
theorem byN_lt (s : ByteArray) (i : Nat) : byN s i < 256 := UInt8.toNat_lt _
theorem num2_lt (s : ByteArray) (i : Nat) : num2 s i < 65536 := by
  have h1 := byN_lt s i
  have h2 := byN_lt s (i + 1)
  unfold num2
  omega
theorem ext_list (s : ByteArray) (a b : Nat) : (s.extract a b).data.toList = (s.data.toList.take b).drop a := by
  rw [ByteArray.data_extract, Array.toList_extract, List.extract_eq_take_drop, List.drop_take]
theorem byN_at (s : ByteArray) (i : Nat) (h : i < s.size) : byN s i = s[i].toNat := by
  unfold byN
  rw [List.getD_eq_getElem?_getD, List.getElem?_eq_getElem (by simpa using h)]
  rfl
theorem ext_one (s : ByteArray) (i : Nat) (h : i < s.size) : (s.extract i (i + 1)).data.toList = [s.data.toList.getD i 0] := by
  have hl : i < s.data.toList.length := by simpa using h
  rw [ext_list, List.drop_take, show i + 1 - i = 1 by omega, List.drop_eq_getElem_cons hl, List.take_succ_cons, List.take_zero, List.getD_eq_getElem?_getD, List.getElem?_eq_getElem hl]
  rfl
theorem ext_two (s : ByteArray) (i : Nat) (h : i + 1 < s.size) : (s.extract i (i + 2)).data.toList = [s.data.toList.getD i 0, s.data.toList.getD (i + 1) 0] := by
  have hl : i + 1 < s.data.toList.length := by simpa using h
  rw [ext_list, List.drop_take, show i + 2 - i = 2 by omega, List.drop_eq_getElem_cons (by omega), List.take_succ_cons, List.drop_eq_getElem_cons hl, List.take_succ_cons, List.take_zero, List.getD_eq_getElem?_getD, List.getElem?_eq_getElem (by omega), List.getD_eq_getElem?_getD, List.getElem?_eq_getElem hl]
  rfl
theorem numOf_one (s : ByteArray) (i : Nat) (h : i < s.size) : numOf (s.extract i (i + 1)).data.toList = byN s i := by
  rw [ext_one s i h]
  simp [numOf, byN]
theorem numOf_two (s : ByteArray) (i : Nat) (h : i + 1 < s.size) : numOf (s.extract i (i + 2)).data.toList = num2 s i := by
  rw [ext_two s i h]
  simp [numOf, byN, num2]

/-- How many bytes the head has, by the first byte. -/
def hdN (s : ByteArray) : Nat := byN s 0 % 16 * 4
/-- By which code a text has no measure; 0: it has. -/
def mcode (s : ByteArray) : Int :=
  if s.size < 20 then 7
  else if byN s 0 / 16 ≠ 4 ∨ hdN s < 20 then 8
  else if s.size < hdN s then 7
  else if rightB (s.extract 0 (hdN s)).data.toList = false then 9
  else if num2 s 2 < hdN s then 8
  else if s.size < num2 s 2 then 7
  else 0
def mhead (s : ByteArray) : Nat := if mcode s = 0 then hdN s else 0
def mall (s : ByteArray) : Nat := if mcode s = 0 then num2 s 2 else 0
set_option maxRecDepth 100000 in
set_option maxHeartbeats 400000 in
theorem measure_short (s : ByteArray) (w : World) (hs : s.size ≤ 70000) (h20 : s.size < 20) :
    Calls Try.prog 18 #[.string s] w fun e w' => e = .returned (.tuple #[.int .i64 0, .int .i64 0, .int .i64 7]) ∧ Below w.heap.size w w' := by
  go_enter Try.func18, Try.ntmps18
  go_wp2_with fail
  go_ret3
  exact ⟨rfl, Below.refl _ _⟩
set_option maxRecDepth 100000 in
set_option maxHeartbeats 400000 in
theorem measure_kind (s : ByteArray) (w : World) (hs : s.size ≤ 70000) (h20 : 20 ≤ s.size) (h1 : (((byN s 0 : Nat) : Int) / 16 != 4) = true) :
    Calls Try.prog 18 #[.string s] w fun e w' => e = .returned (.tuple #[.int .i64 0, .int .i64 0, .int .i64 8]) ∧ Below w.heap.size w w' := by
  have hm : s.size ≤ maxLen := by unfold maxLen; omega
  have HM := Lib.hid hm
  have F1 : Hid (numOf (s.extract 0 (0 + 1)).data.toList = byN s 0) := Lib.hid (numOf_one s 0 (by omega))
  have F3 : Hid (numOf (s.extract (0 + 1 + 1) (0 + 1 + 1 + 2)).data.toList = num2 s 2) := Lib.hid (numOf_two s 2 (by omega))
  have F2 : Hid (numOf (s.extract (0 + 1) (0 + 1 + 1)).data.toList = byN s 1) := Lib.hid (numOf_one s 1 (by omega))
  have hN : ((byN s 0 : Nat) : Int) % 16 * 4 = ((hdN s : Nat) : Int) := by unfold hdN; omega
  have HN := Lib.hid hN
  have hx := byN_lt s 0
  have hy := byN_lt s 1
  have hz := num2_lt s 2
  have hn60 : hdN s ≤ 60 := by unfold hdN; omega
  clear hm hN
  generalize byN s 0 = x at *
  generalize byN s 1 = y at *
  generalize num2 s 2 = m at *
  generalize hdN s = N at *
  go_enter Try.func18, Try.ntmps18
  go_wp2_with fail
  refine (new_any s _).mono ?_
  rintro e w1 ⟨rfl, hw1⟩
  have R1 : Rd w1 w.heap.size s 0 0 := hw1 ▸ Rd.new w s
  have B1 := Lib.hid (show Below w.heap.size w w1 from hw1 ▸ (Below.refl _ _).alloc (Nat.le_refl _) _)
  clear hw1
  go_wp2_with fail
  refine (u8_of _ _ (number_ok R1 HM.out 1 (by decide) (by omega)) two_read).mono ?_
  rintro e w2 ⟨rfl, R2, G2⟩
  rw [F1.out]
  have B2 := Lib.hid (B1.out.grown G2 B1.out.size (by simp))
  clear G2 R1
  go_wp2_with fail
  refine (u8_of _ _ (number_ok R2 HM.out 1 (by decide) (by omega)) two_read).mono ?_
  rintro e w3 ⟨rfl, R3, G3⟩
  rw [F2.out]
  have B3 := Lib.hid (B2.out.grown G3 B2.out.size (by simp))
  clear G3 R2
  go_wp2_with fail
  refine (u16_of _ _ (number_ok R3 HM.out 2 (by decide) (by omega)) two_read).mono ?_
  rintro e w4 ⟨rfl, R4, G4⟩
  rw [F3.out]
  have B4 := Lib.hid (B3.out.grown G4 B3.out.size (by simp))
  clear G4 R3 R4
  have hN := HN.out
  go_wp2_with fail
  go_ret3
  exact ⟨rfl, B4.out⟩
set_option maxRecDepth 100000 in
set_option maxHeartbeats 400000 in
theorem measure_few (s : ByteArray) (w : World) (hs : s.size ≤ 70000) (h20 : 20 ≤ s.size) (h1 : (((byN s 0 : Nat) : Int) / 16 != 4) = false) (h2 : hdN s < 20) :
    Calls Try.prog 18 #[.string s] w fun e w' => e = .returned (.tuple #[.int .i64 0, .int .i64 0, .int .i64 8]) ∧ Below w.heap.size w w' := by
  have hm : s.size ≤ maxLen := by unfold maxLen; omega
  have HM := Lib.hid hm
  have F1 : Hid (numOf (s.extract 0 (0 + 1)).data.toList = byN s 0) := Lib.hid (numOf_one s 0 (by omega))
  have F3 : Hid (numOf (s.extract (0 + 1 + 1) (0 + 1 + 1 + 2)).data.toList = num2 s 2) := Lib.hid (numOf_two s 2 (by omega))
  have F2 : Hid (numOf (s.extract (0 + 1) (0 + 1 + 1)).data.toList = byN s 1) := Lib.hid (numOf_one s 1 (by omega))
  have hN : ((byN s 0 : Nat) : Int) % 16 * 4 = ((hdN s : Nat) : Int) := by unfold hdN; omega
  have HN := Lib.hid hN
  have hx := byN_lt s 0
  have hy := byN_lt s 1
  have hz := num2_lt s 2
  have hn60 : hdN s ≤ 60 := by unfold hdN; omega
  clear hm hN
  generalize byN s 0 = x at *
  generalize byN s 1 = y at *
  generalize num2 s 2 = m at *
  generalize hdN s = N at *
  go_enter Try.func18, Try.ntmps18
  go_wp2_with fail
  refine (new_any s _).mono ?_
  rintro e w1 ⟨rfl, hw1⟩
  have R1 : Rd w1 w.heap.size s 0 0 := hw1 ▸ Rd.new w s
  have B1 := Lib.hid (show Below w.heap.size w w1 from hw1 ▸ (Below.refl _ _).alloc (Nat.le_refl _) _)
  clear hw1
  go_wp2_with fail
  refine (u8_of _ _ (number_ok R1 HM.out 1 (by decide) (by omega)) two_read).mono ?_
  rintro e w2 ⟨rfl, R2, G2⟩
  rw [F1.out]
  have B2 := Lib.hid (B1.out.grown G2 B1.out.size (by simp))
  clear G2 R1
  go_wp2_with fail
  refine (u8_of _ _ (number_ok R2 HM.out 1 (by decide) (by omega)) two_read).mono ?_
  rintro e w3 ⟨rfl, R3, G3⟩
  rw [F2.out]
  have B3 := Lib.hid (B2.out.grown G3 B2.out.size (by simp))
  clear G3 R2
  go_wp2_with fail
  refine (u16_of _ _ (number_ok R3 HM.out 2 (by decide) (by omega)) two_read).mono ?_
  rintro e w4 ⟨rfl, R4, G4⟩
  rw [F3.out]
  have B4 := Lib.hid (B3.out.grown G4 B3.out.size (by simp))
  clear G4 R3 R4
  have hN := HN.out
  go_wp2_with fail
  go_ret3
  exact ⟨rfl, B4.out⟩
set_option maxRecDepth 100000 in
set_option maxHeartbeats 400000 in
theorem measure_cut (s : ByteArray) (w : World) (hs : s.size ≤ 70000) (h20 : 20 ≤ s.size) (h1 : (((byN s 0 : Nat) : Int) / 16 != 4) = false) (h2 : 20 ≤ hdN s) (h3 : s.size < hdN s) :
    Calls Try.prog 18 #[.string s] w fun e w' => e = .returned (.tuple #[.int .i64 0, .int .i64 0, .int .i64 7]) ∧ Below w.heap.size w w' := by
  have hm : s.size ≤ maxLen := by unfold maxLen; omega
  have HM := Lib.hid hm
  have F1 : Hid (numOf (s.extract 0 (0 + 1)).data.toList = byN s 0) := Lib.hid (numOf_one s 0 (by omega))
  have F3 : Hid (numOf (s.extract (0 + 1 + 1) (0 + 1 + 1 + 2)).data.toList = num2 s 2) := Lib.hid (numOf_two s 2 (by omega))
  have F2 : Hid (numOf (s.extract (0 + 1) (0 + 1 + 1)).data.toList = byN s 1) := Lib.hid (numOf_one s 1 (by omega))
  have hN : ((byN s 0 : Nat) : Int) % 16 * 4 = ((hdN s : Nat) : Int) := by unfold hdN; omega
  have HN := Lib.hid hN
  have hx := byN_lt s 0
  have hy := byN_lt s 1
  have hz := num2_lt s 2
  have hn60 : hdN s ≤ 60 := by unfold hdN; omega
  clear hm hN
  generalize byN s 0 = x at *
  generalize byN s 1 = y at *
  generalize num2 s 2 = m at *
  generalize hdN s = N at *
  go_enter Try.func18, Try.ntmps18
  go_wp2_with fail
  refine (new_any s _).mono ?_
  rintro e w1 ⟨rfl, hw1⟩
  have R1 : Rd w1 w.heap.size s 0 0 := hw1 ▸ Rd.new w s
  have B1 := Lib.hid (show Below w.heap.size w w1 from hw1 ▸ (Below.refl _ _).alloc (Nat.le_refl _) _)
  clear hw1
  go_wp2_with fail
  refine (u8_of _ _ (number_ok R1 HM.out 1 (by decide) (by omega)) two_read).mono ?_
  rintro e w2 ⟨rfl, R2, G2⟩
  rw [F1.out]
  have B2 := Lib.hid (B1.out.grown G2 B1.out.size (by simp))
  clear G2 R1
  go_wp2_with fail
  refine (u8_of _ _ (number_ok R2 HM.out 1 (by decide) (by omega)) two_read).mono ?_
  rintro e w3 ⟨rfl, R3, G3⟩
  rw [F2.out]
  have B3 := Lib.hid (B2.out.grown G3 B2.out.size (by simp))
  clear G3 R2
  go_wp2_with fail
  refine (u16_of _ _ (number_ok R3 HM.out 2 (by decide) (by omega)) two_read).mono ?_
  rintro e w4 ⟨rfl, R4, G4⟩
  rw [F3.out]
  have B4 := Lib.hid (B3.out.grown G4 B3.out.size (by simp))
  clear G4 R3 R4
  have hN := HN.out
  go_wp2_with fail
  go_ret3
  exact ⟨rfl, B4.out⟩
set_option maxRecDepth 100000 in
set_option maxHeartbeats 400000 in
theorem measure_sum (s : ByteArray) (w : World) (hs : s.size ≤ 70000) (h20 : 20 ≤ s.size) (h1 : (((byN s 0 : Nat) : Int) / 16 != 4) = false) (h2 : 20 ≤ hdN s) (h3 : hdN s ≤ s.size) (h4 : rightB (s.extract 0 (hdN s)).data.toList = false) :
    Calls Try.prog 18 #[.string s] w fun e w' => e = .returned (.tuple #[.int .i64 0, .int .i64 0, .int .i64 9]) ∧ Below w.heap.size w w' := by
  have hm : s.size ≤ maxLen := by unfold maxLen; omega
  have HM := Lib.hid hm
  have F1 : Hid (numOf (s.extract 0 (0 + 1)).data.toList = byN s 0) := Lib.hid (numOf_one s 0 (by omega))
  have F3 : Hid (numOf (s.extract (0 + 1 + 1) (0 + 1 + 1 + 2)).data.toList = num2 s 2) := Lib.hid (numOf_two s 2 (by omega))
  have F2 : Hid (numOf (s.extract (0 + 1) (0 + 1 + 1)).data.toList = byN s 1) := Lib.hid (numOf_one s 1 (by omega))
  have hN : ((byN s 0 : Nat) : Int) % 16 * 4 = ((hdN s : Nat) : Int) := by unfold hdN; omega
  have HN := Lib.hid hN
  have hx := byN_lt s 0
  have hy := byN_lt s 1
  have hz := num2_lt s 2
  have hn60 : hdN s ≤ 60 := by unfold hdN; omega
  have HQ := Lib.hid h4
  clear h4
  have hsz : (s.extract 0 (hdN s)).size ≤ 1099511627776 := by simp; omega
  have HSZ := Lib.hid hsz
  clear hsz
  clear hm hN
  generalize byN s 0 = x at *
  generalize byN s 1 = y at *
  generalize num2 s 2 = m at *
  generalize hdN s = N at *
  go_enter Try.func18, Try.ntmps18
  go_wp2_with fail
  refine (new_any s _).mono ?_
  rintro e w1 ⟨rfl, hw1⟩
  have R1 : Rd w1 w.heap.size s 0 0 := hw1 ▸ Rd.new w s
  have B1 := Lib.hid (show Below w.heap.size w w1 from hw1 ▸ (Below.refl _ _).alloc (Nat.le_refl _) _)
  clear hw1
  go_wp2_with fail
  refine (u8_of _ _ (number_ok R1 HM.out 1 (by decide) (by omega)) two_read).mono ?_
  rintro e w2 ⟨rfl, R2, G2⟩
  rw [F1.out]
  have B2 := Lib.hid (B1.out.grown G2 B1.out.size (by simp))
  clear G2 R1
  go_wp2_with fail
  refine (u8_of _ _ (number_ok R2 HM.out 1 (by decide) (by omega)) two_read).mono ?_
  rintro e w3 ⟨rfl, R3, G3⟩
  rw [F2.out]
  have B3 := Lib.hid (B2.out.grown G3 B2.out.size (by simp))
  clear G3 R2
  go_wp2_with fail
  refine (u16_of _ _ (number_ok R3 HM.out 2 (by decide) (by omega)) two_read).mono ?_
  rintro e w4 ⟨rfl, R4, G4⟩
  rw [F3.out]
  have B4 := Lib.hid (B3.out.grown G4 B3.out.size (by simp))
  clear G4 R3 R4
  have hN := HN.out
  go_wp2_with fail
  clear hN
  refine (right1 _ _ HSZ.out).mono ?_
  rintro e w5 ⟨rfl, b5⟩
  rw [HQ.out]
  have B5 := Lib.hid (B4.out.trans (b5.mono B4.out.size))
  clear b5
  go_wp2_with fail
  go_ret3
  exact ⟨rfl, B5.out⟩
set_option maxRecDepth 100000 in
set_option maxHeartbeats 400000 in
theorem measure_less (s : ByteArray) (w : World) (hs : s.size ≤ 70000) (h20 : 20 ≤ s.size) (h1 : (((byN s 0 : Nat) : Int) / 16 != 4) = false) (h2 : 20 ≤ hdN s) (h3 : hdN s ≤ s.size) (h4 : rightB (s.extract 0 (hdN s)).data.toList = true) (h5 : num2 s 2 < hdN s) :
    Calls Try.prog 18 #[.string s] w fun e w' => e = .returned (.tuple #[.int .i64 0, .int .i64 0, .int .i64 8]) ∧ Below w.heap.size w w' := by
  have hm : s.size ≤ maxLen := by unfold maxLen; omega
  have HM := Lib.hid hm
  have F1 : Hid (numOf (s.extract 0 (0 + 1)).data.toList = byN s 0) := Lib.hid (numOf_one s 0 (by omega))
  have F3 : Hid (numOf (s.extract (0 + 1 + 1) (0 + 1 + 1 + 2)).data.toList = num2 s 2) := Lib.hid (numOf_two s 2 (by omega))
  have F2 : Hid (numOf (s.extract (0 + 1) (0 + 1 + 1)).data.toList = byN s 1) := Lib.hid (numOf_one s 1 (by omega))
  have hN : ((byN s 0 : Nat) : Int) % 16 * 4 = ((hdN s : Nat) : Int) := by unfold hdN; omega
  have HN := Lib.hid hN
  have hx := byN_lt s 0
  have hy := byN_lt s 1
  have hz := num2_lt s 2
  have hn60 : hdN s ≤ 60 := by unfold hdN; omega
  have HQ := Lib.hid h4
  clear h4
  have hsz : (s.extract 0 (hdN s)).size ≤ 1099511627776 := by simp; omega
  have HSZ := Lib.hid hsz
  clear hsz
  clear hm hN
  generalize byN s 0 = x at *
  generalize byN s 1 = y at *
  generalize num2 s 2 = m at *
  generalize hdN s = N at *
  go_enter Try.func18, Try.ntmps18
  go_wp2_with fail
  refine (new_any s _).mono ?_
  rintro e w1 ⟨rfl, hw1⟩
  have R1 : Rd w1 w.heap.size s 0 0 := hw1 ▸ Rd.new w s
  have B1 := Lib.hid (show Below w.heap.size w w1 from hw1 ▸ (Below.refl _ _).alloc (Nat.le_refl _) _)
  clear hw1
  go_wp2_with fail
  refine (u8_of _ _ (number_ok R1 HM.out 1 (by decide) (by omega)) two_read).mono ?_
  rintro e w2 ⟨rfl, R2, G2⟩
  rw [F1.out]
  have B2 := Lib.hid (B1.out.grown G2 B1.out.size (by simp))
  clear G2 R1
  go_wp2_with fail
  refine (u8_of _ _ (number_ok R2 HM.out 1 (by decide) (by omega)) two_read).mono ?_
  rintro e w3 ⟨rfl, R3, G3⟩
  rw [F2.out]
  have B3 := Lib.hid (B2.out.grown G3 B2.out.size (by simp))
  clear G3 R2
  go_wp2_with fail
  refine (u16_of _ _ (number_ok R3 HM.out 2 (by decide) (by omega)) two_read).mono ?_
  rintro e w4 ⟨rfl, R4, G4⟩
  rw [F3.out]
  have B4 := Lib.hid (B3.out.grown G4 B3.out.size (by simp))
  clear G4 R3 R4
  have hN := HN.out
  go_wp2_with fail
  clear hN
  refine (right1 _ _ HSZ.out).mono ?_
  rintro e w5 ⟨rfl, b5⟩
  rw [HQ.out]
  have B5 := Lib.hid (B4.out.trans (b5.mono B4.out.size))
  clear b5
  go_wp2_with fail
  go_ret3
  exact ⟨rfl, B5.out⟩
set_option maxRecDepth 100000 in
set_option maxHeartbeats 400000 in
theorem measure_want (s : ByteArray) (w : World) (hs : s.size ≤ 70000) (h20 : 20 ≤ s.size) (h1 : (((byN s 0 : Nat) : Int) / 16 != 4) = false) (h2 : 20 ≤ hdN s) (h3 : hdN s ≤ s.size) (h4 : rightB (s.extract 0 (hdN s)).data.toList = true) (h5 : hdN s ≤ num2 s 2) (h6 : s.size < num2 s 2) :
    Calls Try.prog 18 #[.string s] w fun e w' => e = .returned (.tuple #[.int .i64 0, .int .i64 0, .int .i64 7]) ∧ Below w.heap.size w w' := by
  have hm : s.size ≤ maxLen := by unfold maxLen; omega
  have HM := Lib.hid hm
  have F1 : Hid (numOf (s.extract 0 (0 + 1)).data.toList = byN s 0) := Lib.hid (numOf_one s 0 (by omega))
  have F3 : Hid (numOf (s.extract (0 + 1 + 1) (0 + 1 + 1 + 2)).data.toList = num2 s 2) := Lib.hid (numOf_two s 2 (by omega))
  have F2 : Hid (numOf (s.extract (0 + 1) (0 + 1 + 1)).data.toList = byN s 1) := Lib.hid (numOf_one s 1 (by omega))
  have hN : ((byN s 0 : Nat) : Int) % 16 * 4 = ((hdN s : Nat) : Int) := by unfold hdN; omega
  have HN := Lib.hid hN
  have hx := byN_lt s 0
  have hy := byN_lt s 1
  have hz := num2_lt s 2
  have hn60 : hdN s ≤ 60 := by unfold hdN; omega
  have HQ := Lib.hid h4
  clear h4
  have hsz : (s.extract 0 (hdN s)).size ≤ 1099511627776 := by simp; omega
  have HSZ := Lib.hid hsz
  clear hsz
  clear hm hN
  generalize byN s 0 = x at *
  generalize byN s 1 = y at *
  generalize num2 s 2 = m at *
  generalize hdN s = N at *
  go_enter Try.func18, Try.ntmps18
  go_wp2_with fail
  refine (new_any s _).mono ?_
  rintro e w1 ⟨rfl, hw1⟩
  have R1 : Rd w1 w.heap.size s 0 0 := hw1 ▸ Rd.new w s
  have B1 := Lib.hid (show Below w.heap.size w w1 from hw1 ▸ (Below.refl _ _).alloc (Nat.le_refl _) _)
  clear hw1
  go_wp2_with fail
  refine (u8_of _ _ (number_ok R1 HM.out 1 (by decide) (by omega)) two_read).mono ?_
  rintro e w2 ⟨rfl, R2, G2⟩
  rw [F1.out]
  have B2 := Lib.hid (B1.out.grown G2 B1.out.size (by simp))
  clear G2 R1
  go_wp2_with fail
  refine (u8_of _ _ (number_ok R2 HM.out 1 (by decide) (by omega)) two_read).mono ?_
  rintro e w3 ⟨rfl, R3, G3⟩
  rw [F2.out]
  have B3 := Lib.hid (B2.out.grown G3 B2.out.size (by simp))
  clear G3 R2
  go_wp2_with fail
  refine (u16_of _ _ (number_ok R3 HM.out 2 (by decide) (by omega)) two_read).mono ?_
  rintro e w4 ⟨rfl, R4, G4⟩
  rw [F3.out]
  have B4 := Lib.hid (B3.out.grown G4 B3.out.size (by simp))
  clear G4 R3 R4
  have hN := HN.out
  go_wp2_with fail
  clear hN
  refine (right1 _ _ HSZ.out).mono ?_
  rintro e w5 ⟨rfl, b5⟩
  rw [HQ.out]
  have B5 := Lib.hid (B4.out.trans (b5.mono B4.out.size))
  clear b5
  go_wp2_with fail
  go_ret3
  exact ⟨rfl, B5.out⟩
set_option maxRecDepth 100000 in
set_option maxHeartbeats 400000 in
theorem measure_whole (s : ByteArray) (w : World) (hs : s.size ≤ 70000) (h20 : 20 ≤ s.size) (h1 : (((byN s 0 : Nat) : Int) / 16 != 4) = false) (h2 : 20 ≤ hdN s) (h3 : hdN s ≤ s.size) (h4 : rightB (s.extract 0 (hdN s)).data.toList = true) (h5 : hdN s ≤ num2 s 2) (h6 : num2 s 2 ≤ s.size) :
    Calls Try.prog 18 #[.string s] w fun e w' => e = .returned (.tuple #[.int .i64 (hdN s : Nat), .int .i64 (num2 s 2 : Nat), .int .i64 0]) ∧ Below w.heap.size w w' := by
  have hm : s.size ≤ maxLen := by unfold maxLen; omega
  have HM := Lib.hid hm
  have F1 : Hid (numOf (s.extract 0 (0 + 1)).data.toList = byN s 0) := Lib.hid (numOf_one s 0 (by omega))
  have F3 : Hid (numOf (s.extract (0 + 1 + 1) (0 + 1 + 1 + 2)).data.toList = num2 s 2) := Lib.hid (numOf_two s 2 (by omega))
  have F2 : Hid (numOf (s.extract (0 + 1) (0 + 1 + 1)).data.toList = byN s 1) := Lib.hid (numOf_one s 1 (by omega))
  have hN : ((byN s 0 : Nat) : Int) % 16 * 4 = ((hdN s : Nat) : Int) := by unfold hdN; omega
  have HN := Lib.hid hN
  have hx := byN_lt s 0
  have hy := byN_lt s 1
  have hz := num2_lt s 2
  have hn60 : hdN s ≤ 60 := by unfold hdN; omega
  have HQ := Lib.hid h4
  clear h4
  have hsz : (s.extract 0 (hdN s)).size ≤ 1099511627776 := by simp; omega
  have HSZ := Lib.hid hsz
  clear hsz
  clear hm hN
  generalize byN s 0 = x at *
  generalize byN s 1 = y at *
  generalize num2 s 2 = m at *
  generalize hdN s = N at *
  go_enter Try.func18, Try.ntmps18
  go_wp2_with fail
  refine (new_any s _).mono ?_
  rintro e w1 ⟨rfl, hw1⟩
  have R1 : Rd w1 w.heap.size s 0 0 := hw1 ▸ Rd.new w s
  have B1 := Lib.hid (show Below w.heap.size w w1 from hw1 ▸ (Below.refl _ _).alloc (Nat.le_refl _) _)
  clear hw1
  go_wp2_with fail
  refine (u8_of _ _ (number_ok R1 HM.out 1 (by decide) (by omega)) two_read).mono ?_
  rintro e w2 ⟨rfl, R2, G2⟩
  rw [F1.out]
  have B2 := Lib.hid (B1.out.grown G2 B1.out.size (by simp))
  clear G2 R1
  go_wp2_with fail
  refine (u8_of _ _ (number_ok R2 HM.out 1 (by decide) (by omega)) two_read).mono ?_
  rintro e w3 ⟨rfl, R3, G3⟩
  rw [F2.out]
  have B3 := Lib.hid (B2.out.grown G3 B2.out.size (by simp))
  clear G3 R2
  go_wp2_with fail
  refine (u16_of _ _ (number_ok R3 HM.out 2 (by decide) (by omega)) two_read).mono ?_
  rintro e w4 ⟨rfl, R4, G4⟩
  rw [F3.out]
  have B4 := Lib.hid (B3.out.grown G4 B3.out.size (by simp))
  clear G4 R3 R4
  have hN := HN.out
  go_wp2_with fail
  clear hN
  refine (right1 _ _ HSZ.out).mono ?_
  rintro e w5 ⟨rfl, b5⟩
  rw [HQ.out]
  have B5 := Lib.hid (B4.out.trans (b5.mono B4.out.size))
  clear b5
  go_wp2_with fail
  go_ret3
  exact ⟨rfl, B5.out⟩
theorem hdN_le (s : ByteArray) : hdN s ≤ 60 := by unfold hdN; omega
theorem measure_any (s : ByteArray) (w : World) (hs : s.size ≤ 70000) :
    Calls Try.prog 18 #[.string s] w fun e w' => e = .returned (.tuple #[.int .i64 (mhead s : Nat), .int .i64 (mall s : Nat), .int .i64 (mcode s)]) ∧ Below w.heap.size w w' := by
  by_cases h20 : s.size < 20
  · have e : mcode s = 7 := if_pos h20
    rw [show mhead s = 0 from if_neg (by rw [e]; decide), show mall s = 0 from if_neg (by rw [e]; decide), e]
    exact measure_short s w hs h20
  · by_cases hk : byN s 0 / 16 = 4
    · have h1 : (((byN s 0 : Nat) : Int) / 16 != 4) = false := by rw [show ((byN s 0 : Nat) : Int) / 16 = 4 by omega]; rfl
      by_cases h2 : hdN s < 20
      · have e : mcode s = 8 := by unfold mcode; rw [if_neg h20, if_pos (.inr h2)]
        rw [show mhead s = 0 from if_neg (by rw [e]; decide), show mall s = 0 from if_neg (by rw [e]; decide), e]
        exact measure_few s w hs (by omega) h1 h2
      · by_cases h3 : s.size < hdN s
        · have e : mcode s = 7 := by unfold mcode; rw [if_neg h20, if_neg (by omega), if_pos h3]
          rw [show mhead s = 0 from if_neg (by rw [e]; decide), show mall s = 0 from if_neg (by rw [e]; decide), e]
          exact measure_cut s w hs (by omega) h1 (by omega) h3
        · cases h4 : rightB (s.extract 0 (hdN s)).data.toList
          · have e : mcode s = 9 := by unfold mcode; rw [if_neg h20, if_neg (by omega), if_neg h3, if_pos h4]
            rw [show mhead s = 0 from if_neg (by rw [e]; decide), show mall s = 0 from if_neg (by rw [e]; decide), e]
            exact measure_sum s w hs (by omega) h1 (by omega) (by omega) h4
          · by_cases h5 : num2 s 2 < hdN s
            · have e : mcode s = 8 := by unfold mcode; rw [if_neg h20, if_neg (by omega), if_neg h3, if_neg (by rw [h4]; decide), if_pos h5]
              rw [show mhead s = 0 from if_neg (by rw [e]; decide), show mall s = 0 from if_neg (by rw [e]; decide), e]
              exact measure_less s w hs (by omega) h1 (by omega) (by omega) h4 h5
            · by_cases h6 : s.size < num2 s 2
              · have e : mcode s = 7 := by unfold mcode; rw [if_neg h20, if_neg (by omega), if_neg h3, if_neg (by rw [h4]; decide), if_neg h5, if_pos h6]
                rw [show mhead s = 0 from if_neg (by rw [e]; decide), show mall s = 0 from if_neg (by rw [e]; decide), e]
                exact measure_want s w hs (by omega) h1 (by omega) (by omega) h4 (by omega) h6
              · have e : mcode s = 0 := by unfold mcode; rw [if_neg h20, if_neg (by omega), if_neg h3, if_neg (by rw [h4]; decide), if_neg h5, if_neg h6]
                rw [show mhead s = hdN s from if_pos e, show mall s = num2 s 2 from if_pos e, e]
                exact measure_whole s w hs (by omega) h1 (by omega) (by omega) h4 (by omega) (by omega)
    · have h1 : (((byN s 0 : Nat) : Int) / 16 != 4) = true := by rw [bne_iff_ne]; omega
      have e : mcode s = 8 := by unfold mcode; rw [if_neg h20, if_pos (.inl hk)]
      rw [show mhead s = 0 from if_neg (by rw [e]; decide), show mall s = 0 from if_neg (by rw [e]; decide), e]
      exact measure_kind s w hs (by omega) h1
theorem mcode_ok {s : ByteArray} (h : mcode s = 0) : 20 ≤ s.size ∧ byN s 0 / 16 = 4 ∧ 20 ≤ hdN s ∧ hdN s ≤ s.size ∧ rightB (s.extract 0 (hdN s)).data.toList = true ∧ hdN s ≤ num2 s 2 ∧ num2 s 2 ≤ s.size := by
  unfold mcode at h
  by_cases h1 : s.size < 20
  · rw [if_pos h1] at h; cases h
  rw [if_neg h1] at h
  by_cases h2 : byN s 0 / 16 ≠ 4 ∨ hdN s < 20
  · rw [if_pos h2] at h; cases h
  rw [if_neg h2] at h
  by_cases h3 : s.size < hdN s
  · rw [if_pos h3] at h; cases h
  rw [if_neg h3] at h
  cases h4 : rightB (s.extract 0 (hdN s)).data.toList
  · rw [if_pos h4] at h; cases h
  rw [if_neg (by rw [h4]; decide)] at h
  by_cases h5 : num2 s 2 < hdN s
  · rw [if_pos h5] at h; cases h
  rw [if_neg h5] at h
  by_cases h6 : s.size < num2 s 2
  · rw [if_pos h6] at h; cases h
  exact ⟨by omega, by omega, by omega, by omega, rfl, by omega, by omega⟩
end Go.Proofs.Ytdljjcnihajchaa.P4
