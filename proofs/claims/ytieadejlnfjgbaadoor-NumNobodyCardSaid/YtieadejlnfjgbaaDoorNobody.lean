/-
  Proved here: the law NumNobody answers true at every input, and leaves old memory as it was.
  Conditions: errors.errorType holds its type handle.
-/
import Derived.Test.YtieadejlnfjgbaaDoorError
namespace Go.Proofs.YtieadejlnfjgbaaDoor
open Go.RowKit Go.Extern.Stop Go.Stop Go.Extern

theorem below2' {a b c : World} (h : Below a.heap.size a b) (k : Below b.heap.size b c) : Below a.heap.size a c := h.trans (k.mono h.size)
theorem two_nil {w : World} {v : Value} {f : Addr} {o : Obj} : Two (fun e w' => e = .returned (.tuple #[v, .iface 34 (.pointer (some f))]) ∧ w' = w.alloc o) := fun _ _ h => ⟨_, _, h.1⟩

set_option maxRecDepth 100000 in
set_option maxHeartbeats 4000000 in
theorem numNobody_any (n : Int) (w : World) (hg : Held w) :
    Calls Tryd.prog 6 #[.int .i64 n] w fun e w' => e = .returned (.bool true) ∧ Below w.heap.size w w' := by
  go_enter Tryd.func6, Tryd.ntmps6
  go_wp2_with fail
  refine (awake_true w hg).mono ?_
  rintro e w1 ⟨rfl, b1⟩
  have hg1 := hg.below b1 hg.lt
  have hB1 := Lib.hid b1
  clear b1 hg
  go_wp2_with fail
  refine (u8_of _ _ (number_nil 1 _) two_nil).mono ?_
  rintro e w2 ⟨rfl, hw2⟩
  have f1x2 : Flt w2 w1.heap.size 2 0 := hw2 ▸ Flt.new w1 2 0
  have b2 : Below w1.heap.size w1 w2 := hw2 ▸ (Below.refl _ _).alloc (Nat.le_refl _) _
  clear hw2
  have hg2 := hg1.below b2 hg1.lt
  have hB2 := Lib.hid (below2' hB1.out b2)
  clear b2 hg1 
  go_wp2_with fail
  refine (u16_of _ _ (number_nil 2 _) two_nil).mono ?_
  rintro e w3 ⟨rfl, hw3⟩
  have f2x3 : Flt w3 w2.heap.size 2 0 := hw3 ▸ Flt.new w2 2 0
  have b3 : Below w2.heap.size w2 w3 := hw3 ▸ (Below.refl _ _).alloc (Nat.le_refl _) _
  clear hw3
  have hg3 := hg2.below b3 hg2.lt
  have f1x3 := f1x2.below b3 f1x2.lt
  have hB3 := Lib.hid (below2' hB2.out b3)
  clear b3 hg2 f1x2
  go_wp2_with fail
  refine (u32_of _ _ (number_nil 4 _) two_nil).mono ?_
  rintro e w4 ⟨rfl, hw4⟩
  have f3x4 : Flt w4 w3.heap.size 2 0 := hw4 ▸ Flt.new w3 2 0
  have b4 : Below w3.heap.size w3 w4 := hw4 ▸ (Below.refl _ _).alloc (Nat.le_refl _) _
  clear hw4
  have hg4 := hg3.below b4 hg3.lt
  have f1x4 := f1x3.below b4 f1x3.lt
  have f2x4 := f2x3.below b4 f2x3.lt
  have hB4 := Lib.hid (below2' hB3.out b4)
  clear b4 hg3 f1x3 f2x3
  go_wp2_with fail
  refine (text_nil n _).mono ?_
  rintro e w5 ⟨rfl, hw5⟩
  have f4x5 : Flt w5 w4.heap.size 2 0 := hw5 ▸ Flt.new w4 2 0
  have b5 : Below w4.heap.size w4 w5 := hw5 ▸ (Below.refl _ _).alloc (Nat.le_refl _) _
  clear hw5
  have hg5 := hg4.below b5 hg4.lt
  have f1x5 := f1x4.below b5 f1x4.lt
  have f2x5 := f2x4.below b5 f2x4.lt
  have f3x5 := f3x4.below b5 f3x4.lt
  have hB5 := Lib.hid (below2' hB4.out b5)
  clear b5 hg4 f1x4 f2x4 f3x4
  go_wp2_with fail
  refine (same_fault hg5 f1x5 rfl).mono ?_
  rintro e w6 ⟨rfl, b6⟩
  have hg6 := hg5.below b6 hg5.lt
  have f1x6 := f1x5.below b6 f1x5.lt
  have f2x6 := f2x5.below b6 f2x5.lt
  have f3x6 := f3x5.below b6 f3x5.lt
  have f4x6 := f4x5.below b6 f4x5.lt
  have hB6 := Lib.hid (below2' hB5.out b6)
  clear b6 hg5 f1x5 f2x5 f3x5 f4x5
  go_wp2_with fail
  refine (same_fault hg6 f2x6 rfl).mono ?_
  rintro e w7 ⟨rfl, b7⟩
  have hg7 := hg6.below b7 hg6.lt
  have f1x7 := f1x6.below b7 f1x6.lt
  have f2x7 := f2x6.below b7 f2x6.lt
  have f3x7 := f3x6.below b7 f3x6.lt
  have f4x7 := f4x6.below b7 f4x6.lt
  have hB7 := Lib.hid (below2' hB6.out b7)
  clear b7 hg6 f1x6 f2x6 f3x6 f4x6
  go_wp2_with fail
  refine (same_fault hg7 f3x7 rfl).mono ?_
  rintro e w8 ⟨rfl, b8⟩
  have hg8 := hg7.below b8 hg7.lt
  have f1x8 := f1x7.below b8 f1x7.lt
  have f2x8 := f2x7.below b8 f2x7.lt
  have f3x8 := f3x7.below b8 f3x7.lt
  have f4x8 := f4x7.below b8 f4x7.lt
  have hB8 := Lib.hid (below2' hB7.out b8)
  clear b8 hg7 f1x7 f2x7 f3x7 f4x7
  go_wp2_with fail
  refine (same_fault hg8 f4x8 rfl).mono ?_
  rintro e w9 ⟨rfl, b9⟩
  have hg9 := hg8.below b9 hg8.lt
  have f1x9 := f1x8.below b9 f1x8.lt
  have f2x9 := f2x8.below b9 f2x8.lt
  have f3x9 := f3x8.below b9 f3x8.lt
  have f4x9 := f4x8.below b9 f4x8.lt
  have hB9 := Lib.hid (below2' hB8.out b9)
  clear b9 hg8 f1x8 f2x8 f3x8 f4x8
  go_wp2_with fail
  refine (rest_nil _).mono ?_
  rintro e wn ⟨rfl, rfl⟩
  go_wp2_with fail
  refine (at_nil _).mono ?_
  rintro e wn ⟨rfl, rfl⟩
  go_wp2_with fail
  refine (left_nil _).mono ?_
  rintro e wn ⟨rfl, rfl⟩
  go_wp2_with fail
  refine (error_nil _).mono ?_
  rintro e w10 ⟨rfl, b10⟩
  have hg10 := hg9.below b10 hg9.lt
  have f1x10 := f1x9.below b10 f1x9.lt
  have f2x10 := f2x9.below b10 f2x9.lt
  have f3x10 := f3x9.below b10 f3x9.lt
  have f4x10 := f4x9.below b10 f4x9.lt
  have hB10 := Lib.hid (below2' hB9.out b10)
  clear b10 hg9 f1x9 f2x9 f3x9 f4x9
  have ht : faultText ++ dig 0 ++ atText ++ dig 0 = ⟨#[102, 97, 117, 108, 116, 32, 48, 32, 97, 116, 32, 48]⟩ := by decide
  rw [ht]
  clear ht
  go_wp2_with fail
  refine (code_nilfault (asGives_fault none) _ hg10).mono ?_
  rintro e w11 ⟨rfl, b11⟩
  have hB11 := Lib.hid (below2' hB10.out b11)
  clear b11
  go_wp2_with fail
  go_ret
  exact ⟨rfl, hB11.out⟩
end Go.Proofs.YtieadejlnfjgbaaDoor
