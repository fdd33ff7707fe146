/-
  Proved here: that the laws' own 'awake' and 'same' answer true where they should.
  Conditions: errors.errorType holds its type handle.
-/
import Derived.Test.YtieadejlnfjgbaaDoorNumber
import Derived.LaidEqlPtr
namespace Go.Proofs.YtieadejlnfjgbaaDoor
open Go.RowKit Go.Extern.Stop Go.Stop Go.Extern

/-- 'same' of no fault, at OK. -/
theorem same_ok (p : Int) (w : World) :
    Calls Tryd.prog 15 #[.nilIface, .int .i64 0, .int .i64 p] w fun e w' => e = .returned (.bool true) ∧ w = w' := by
  go_enter Tryd.func15, Tryd.ntmps15
  go_wp2_with fail
  refine (code_nil _).mono ?_
  rintro e w' ⟨rfl, rfl⟩
  go_wp2_with fail
  go_ret
  exact ⟨rfl, rfl⟩

theorem Tryd.eqlF (a : Addr) (w : World) : (binOp .eql 34 (.pointer (some a)) (.pointer (some a))).run Tryd.prog w = .ok (.bool true) w := by
  obtain ⟨j, hj⟩ := Option.isSome_iff_exists.1 (show (Tryd.prog.info? 37).isSome = true by kernel_rfl)
  exact run_eql_ptr_same w a Tryd.underlying34 hj
theorem Tryd.isFault (v : Option Addr) (w : World) : (Instr.typeAssert (.iface 34 (.pointer v)) 25 34 true).run Tryd.prog w = .ok (.tuple #[.pointer v, .bool true]) w := by kernel_rfl

set_option maxRecDepth 100000 in
set_option maxHeartbeats 1000000 in
/-- 'same' of a fault, at its code and place. -/
theorem same_fault {w : World} {b : Nat} {c p : Int} (hg : Held w) (hf : Flt w b c p) (hc : (c == 0) = false) :
    Calls Tryd.prog 15 #[.iface 34 (.pointer (some ⟨b, 0, none⟩)), .int .i64 c, .int .i64 p] w fun e w' => e = .returned (.bool true) ∧ Below w.heap.size w w' := by
  have c0 := hf.c0
  have c1 := hf.c1
  have hT := Tryd.isFault
  have hE := Tryd.eqlF
  have H1 := Lib.hid (code_fault c (asGives_fault (some ⟨b, 0, none⟩)) w hg c0)
  have hl := hg.lt
  go_enter Tryd.func15, Tryd.ntmps15
  go_wp2_with fail
  refine H1.out.mono ?_
  rintro e w' ⟨rfl, hb⟩
  have H2 := Lib.hid (only_fault (asGives_fault (some ⟨b, 0, none⟩)) w' (hg.below hb hl))
  have HB := Lib.hid hb
  clear hb
  go_wp2_with fail
  refine H2.out.mono ?_
  rintro e w'' ⟨rfl, hb2⟩
  have HB2 := Lib.hid hb2
  clear hb2
  go_wp2_with fail
  go_ret
  exact ⟨rfl, HB.out.trans (HB2.out.mono HB.out.size)⟩

def four : ByteArray := { data := #[1, 2, 3, 4] }
theorem numOf_12 : numOf (four.extract 0 (0 + 2)).data.toList = 258 := by decide
theorem numOf_3 : numOf (four.extract (0 + 2) (0 + 2 + 1)).data.toList = 3 := by decide
set_option maxHeartbeats 1000000 in
theorem awake_true (w : World) (hg : Held w) :
    Calls Tryd.prog 14 #[] w fun e w' => e = .returned (.bool true) ∧ Below w.heap.size w w' := by
  have hl := hg.lt
  have hm : four.size ≤ maxLen := by unfold maxLen; decide
  go_enter Tryd.func14, Tryd.ntmps14
  go_wp2_with fail
  refine (new_any four _).mono ?_
  rintro e w1 ⟨rfl, hw1⟩
  have R1 : Rd w1 w.heap.size four 0 0 := hw1 ▸ Rd.new w four
  have B1 : Below w.heap.size w w1 := hw1 ▸ (Below.refl _ _).alloc (Nat.le_refl _) _
  clear hw1
  go_wp2_with fail
  refine (u16_of _ _ (number_ok R1 hm 2 (by decide) (by decide)) two_read).mono ?_
  rintro e w2 ⟨rfl, R2, G2⟩
  rw [numOf_12]
  have B2 := B1.grown G2 (by have := B1.size; omega) (by simp)
  clear G2
  go_wp2_with fail
  refine (u8_of _ _ (number_ok R2 hm 1 (by decide) (by decide)) two_read).mono ?_
  rintro e w3 ⟨rfl, R3, G3⟩
  rw [numOf_3]
  have B3 := B2.grown G3 (by have := B2.size; omega) (by simp)
  clear G3
  go_wp2_with fail
  refine (u16_of _ _ (number_told 2 (text_short R3 (by decide) hm 2 (by decide) (by decide))) two_told).mono ?_
  rintro e w4 ⟨rfl, F4, R4, G4⟩
  have B4 := B3.grown G4 (by have := B3.size; omega) (by simp)
  have h4 := hg.below B4 hl
  have hR4 := R4.lt
  clear G4
  go_wp2_with fail
  refine (code_fault 7 (asGives_fault (some ⟨w3.heap.size, 0, none⟩)) w4 h4 F4.c0).mono ?_
  rintro e w5 ⟨rfl, B5⟩
  have R5 := R4.below B5 hR4
  have hB := B4.trans (B5.mono B4.size)
  clear B5
  go_wp2_with fail
  refine (at_any R5).mono ?_
  rintro e w6 ⟨rfl, rfl⟩
  go_wp2_with fail
  go_ret
  exact ⟨rfl, hB⟩
end Go.Proofs.YtieadejlnfjgbaaDoor
