/-
  Proved here: the law NumKnown answers true, and leaves old memory as it was.
  Conditions: errors.errorType holds its type handle.
-/
import Derived.Test.YtieadejlnfjgbaaDoorError
import Derived.Test.YtieadejlnfjgbaaDoorBig
namespace Go.Proofs.YtieadejlnfjgbaaDoor
open Go.RowKit Go.Extern.Stop Go.Stop Go.Extern

theorem below3 {a b c : World} (h : Below a.heap.size a b) (k : Below b.heap.size b c) : Below a.heap.size a c := h.trans (k.mono h.size)
theorem nums258 : strOfNums [(258 : Int) / 256, 258 % 256] = ⟨#[1, 2]⟩ := by decide
theorem numsAll : strOfNums [(4294967295 : Int) / 16777216, 4294967295 / 65536 % 256, 4294967295 / 256 % 256, 4294967295 % 256] = ⟨#[255, 255, 255, 255]⟩ := by decide

set_option maxRecDepth 100000 in
set_option maxHeartbeats 4000000 in
theorem numKnown_any (w : World) (hg : Held w) :
    Calls Tryd.prog 3 #[] w fun e w' => e = .returned (.bool true) ∧ Below w.heap.size w w' := by
  have hl := hg.lt
  have hm : four.size ≤ maxLen := by unfold maxLen; decide
  go_enter Tryd.func3, Tryd.ntmps3
  go_wp2_with fail
  refine (new_any four _).mono ?_
  rintro e w1 ⟨rfl, hw1⟩
  have R1 : Rd w1 w.heap.size four 0 0 := hw1 ▸ Rd.new w four
  have B1 := Lib.hid (show Below w.heap.size w w1 from hw1 ▸ (Below.refl _ _).alloc (Nat.le_refl _) _)
  clear hw1
  go_wp2_with fail
  refine (u16_of _ _ (number_ok R1 hm 2 (by decide) (by decide)) two_read).mono ?_
  rintro e w2 ⟨rfl, R2, G2⟩
  have B2 := Lib.hid (B1.out.grown G2 B1.out.size (by simp))
  clear G2 R1
  go_wp2_with fail
  refine (u8_of _ _ (number_ok R2 hm 1 (by decide) (by decide)) two_read).mono ?_
  rintro e w3 ⟨rfl, R3, G3⟩
  have B3 := Lib.hid (B2.out.grown G3 B2.out.size (by simp))
  clear G3 R2
  go_wp2_with fail
  refine (u16_of _ _ (number_told 2 (text_short R3 (by decide) hm 2 (by decide) (by decide))) two_told).mono ?_
  rintro e w4 ⟨rfl, Fa4, R4, G4⟩
  have B4 := Lib.hid (B3.out.grown G4 B3.out.size (by simp))
  have hw3 := R3.lt
  clear G4 R3
  go_wp2_with fail
  refine (u8_of _ _ (number_told 1 (text_had R4 1 (by decide) (by decide))) two_told).mono ?_
  rintro e w5 ⟨rfl, Fb5, R5, G5⟩
  have B5 := Lib.hid (B4.out.grown G5 B4.out.size (by simp))
  have Fa5 := Fa4.grown G5 (by simp; omega)
  have hg5 := hg.below B5.out hl
  clear G5 R4 Fa4 hg hl
  go_wp2_with fail
  refine (big_ok2 258 _ (by decide) (by decide) (by decide)).mono ?_
  rintro e w6 ⟨rfl, b6⟩
  have hg6 := hg5.below b6 hg5.lt
  have Fa6 := Fa5.below b6 Fa5.lt
  have Fb6 := Fb5.below b6 Fb5.lt
  have R6 := R5.below b6 R5.lt
  have B6 := Lib.hid (below3 B5.out b6)
  clear b6 hg5 Fa5 Fb5 R5
  rw [nums258]
  go_wp2_with fail
  refine (big_wide1 256 _ (by decide) (by decide)).mono ?_
  rintro e w7 ⟨rfl, hw7⟩
  have b7 : Below w6.heap.size w6 w7 := hw7 ▸ (Below.refl _ _).alloc (Nat.le_refl _) _
  have hg7 := hg6.below b7 hg6.lt
  have Fa7 := Fa6.below b7 Fa6.lt
  have Fb7 := Fb6.below b7 Fb6.lt
  have R7 := R6.below b7 R6.lt
  have Fd7 : Flt w7 w6.heap.size 13 0 := hw7 ▸ Flt.new w6 13 0
  clear hw7
  have B7 := Lib.hid (below3 B6.out b7)
  clear b7 hg6 Fa6 Fb6 R6
  go_wp2_with fail
  refine (big_arg 1 3 _ (by decide) (by decide) (by decide)).mono ?_
  rintro e w8 ⟨rfl, hw8⟩
  have b8 : Below w7.heap.size w7 w8 := hw8 ▸ (Below.refl _ _).alloc (Nat.le_refl _) _
  have hg8 := hg7.below b8 hg7.lt
  have Fa8 := Fa7.below b8 Fa7.lt
  have Fb8 := Fb7.below b8 Fb7.lt
  have R8 := R7.below b8 R7.lt
  have Fd8 := Fd7.below b8 Fd7.lt
  have Fe8 : Flt w8 w7.heap.size 1 0 := hw8 ▸ Flt.new w7 1 0
  clear hw8
  have B8 := Lib.hid (below3 B7.out b8)
  clear b8 hg7 Fa7 Fb7 R7 Fd7
  go_wp2_with fail
  refine (big_ok4 4294967295 _ (by decide) (by decide) (by decide)).mono ?_
  rintro e w9 ⟨rfl, b9⟩
  have hg9 := hg8.below b9 hg8.lt
  have Fa9 := Fa8.below b9 Fa8.lt
  have Fb9 := Fb8.below b9 Fb8.lt
  have R9 := R8.below b9 R8.lt
  have Fd9 := Fd8.below b9 Fd8.lt
  have Fe9 := Fe8.below b9 Fe8.lt
  have B9 := Lib.hid (below3 B8.out b9)
  clear b9 hg8 Fa8 Fb8 R8 Fd8 Fe8
  rw [numsAll]
  go_wp2_with fail
  refine (awake_true _ hg9).mono ?_
  rintro e w10 ⟨rfl, b10⟩
  have hg10 := hg9.below b10 hg9.lt
  have Fa10 := Fa9.below b10 Fa9.lt
  have Fb10 := Fb9.below b10 Fb9.lt
  have R10 := R9.below b10 R9.lt
  have Fd10 := Fd9.below b10 Fd9.lt
  have Fe10 := Fe9.below b10 Fe9.lt
  have B10 := Lib.hid (below3 B9.out b10)
  clear b10 hg9 Fa9 Fb9 R9 Fd9 Fe9
  go_wp2_with fail
  refine (same_fault hg10 Fa10 rfl).mono ?_
  rintro e w11 ⟨rfl, b11⟩
  have hg11 := hg10.below b11 hg10.lt
  have Fa11 := Fa10.below b11 Fa10.lt
  have Fb11 := Fb10.below b11 Fb10.lt
  have R11 := R10.below b11 R10.lt
  have Fd11 := Fd10.below b11 Fd10.lt
  have Fe11 := Fe10.below b11 Fe10.lt
  have B11 := Lib.hid (below3 B10.out b11)
  clear b11 hg10 Fa10 Fb10 R10 Fd10 Fe10
  go_wp2_with fail
  refine (same_fault hg11 Fb11 rfl).mono ?_
  rintro e w12 ⟨rfl, b12⟩
  have hg12 := hg11.below b12 hg11.lt
  have Fa12 := Fa11.below b12 Fa11.lt
  have Fb12 := Fb11.below b12 Fb11.lt
  have R12 := R11.below b12 R11.lt
  have Fd12 := Fd11.below b12 Fd11.lt
  have Fe12 := Fe11.below b12 Fe11.lt
  have B12 := Lib.hid (below3 B11.out b12)
  clear b12 hg11 Fa11 Fb11 R11 Fd11 Fe11
  go_wp2_with fail
  refine (at_any R12).mono ?_
  rintro e wn ⟨rfl, rfl⟩
  go_wp2_with fail
  refine (left_any R12 (by decide) hm).mono ?_
  rintro e wl ⟨rfl, hwl⟩
  have bl : Below w12.heap.size w12 wl := hwl ▸ (Below.refl _ _).drew
  have hgl := hg12.below bl hg12.lt
  have Fal := Fa12.below bl Fa12.lt
  have Fbl := Fb12.below bl Fb12.lt
  have Rl := R12.below bl R12.lt
  have Fdl := Fd12.below bl Fd12.lt
  have Fel := Fe12.below bl Fe12.lt
  have Bl := Lib.hid (below3 B12.out bl)
  clear bl hwl hg12 Fa12 Fb12 R12 Fd12 Fe12
  go_wp2_with fail
  refine (rest_had Rl (by decide)).mono ?_
  rintro e wn ⟨rfl, rfl⟩
  go_wp2_with fail
  refine (same_fault hgl Fdl rfl).mono ?_
  rintro e wp ⟨rfl, bp⟩
  have hgp := hgl.below bp hgl.lt
  have Fep := Fel.below bp Fel.lt
  have Bp := Lib.hid (below3 Bl.out bp)
  clear bp
  go_wp2_with fail
  refine (same_fault hgp Fep rfl).mono ?_
  rintro e wq ⟨rfl, bq⟩
  have Bq := Lib.hid (below3 Bp.out bq)
  clear bq
  go_wp2_with fail
  refine (error_small wq.heap.size 7 3 (by decide) (by decide) _ (Flt.new wq 7 3)).mono ?_
  rintro e wr ⟨rfl, br⟩
  have Br := Lib.hid (below3 Bq.out (((Below.refl _ _).alloc (Nat.le_refl _) _).trans (br.mono (by simp))))
  clear br
  have ht : faultText ++ dig 7 ++ atText ++ dig 3 = ⟨#[102, 97, 117, 108, 116, 32, 55, 32, 97, 116, 32, 51]⟩ := by decide
  rw [ht]
  clear ht
  go_wp2_with fail
  go_ret
  exact ⟨rfl, Br.out⟩
end Go.Proofs.YtieadejlnfjgbaaDoor
