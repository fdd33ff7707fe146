/-
  Proved here: the law NumOnly answers true at every input, and leaves old memory as it was.
  Conditions: errors.errorType holds its type handle.
-/
import Derived.Test.YtieadejlnfjgbaaDoorSame
namespace Go.Proofs.YtieadejlnfjgbaaDoor
open Go.RowKit Go.Extern.Stop Go.Stop Go.Extern

theorem errNew_any (s : ByteArray) (w : World) : Calls Tryd.prog 27 #[.string s] w fun e w' => e = .returned (.iface 73 (.pointer (some ⟨w.heap.size, 0, none⟩))) ∧ w' = w.alloc (.cells #[.string s] 75) := by
  go_enter Tryd.func27, Tryd.ntmps27
  go_wp2
  go_ret
  exact ⟨rfl, rfl⟩

theorem below2 {a b c : World} (h : Below a.heap.size a b) (k : Below b.heap.size b c) : Below a.heap.size a c := h.trans (k.mono h.size)

set_option maxRecDepth 100000 in
set_option maxHeartbeats 4000000 in
theorem numOnly_short (c p : Int) (s : ByteArray) (w : World) (hg : Held w) (hs : s.size ≤ 300) :
    Calls Tryd.prog 7 #[.int .i64 c, .int .i64 p, .string s] w fun e w' => e = .returned (.bool true) ∧ Below w.heap.size w w' := by
  have hE := Tryd.eqlF
  go_enter Tryd.func7, Tryd.ntmps7
  go_wp2_with fail
  refine (awake_true w hg).mono ?_
  rintro e w1 ⟨rfl, b1⟩
  have hg1 := hg.below b1 hg.lt
  have hB1 := Lib.hid b1
  clear b1
  go_wp2_with fail
  have hf2 : Flt (w1.alloc (.cells #[.int .i64 c, .int .i64 p] 37)) w1.heap.size c p := Flt.new _ _ _
  have b2 : Below w1.heap.size w1 (w1.alloc (.cells #[.int .i64 c, .int .i64 p] 37)) := (Below.refl _ _).alloc (Nat.le_refl _) _
  have hg2 := hg1.below b2 hg1.lt
  have hB2 := Lib.hid (below2 hB1.out b2)
  clear b2
  refine (errNew_any s _).mono ?_
  rintro e w3 ⟨rfl, hw3⟩
  have b3 : Below (w1.alloc (.cells #[.int .i64 c, .int .i64 p] 37)).heap.size (w1.alloc (.cells #[.int .i64 c, .int .i64 p] 37)) w3 := hw3 ▸ (Below.refl _ _).alloc (Nat.le_refl _) _
  have hg3 := hg2.below b3 hg2.lt
  have hf3 := hf2.below b3 hf2.lt
  have hB3 := Lib.hid (below2 hB2.out b3)
  clear b3 hw3 hf2 hg2
  go_wp2_with fail
  refine (only_fault (asGives_fault (some ⟨w1.heap.size, 0, none⟩)) _ hg3).mono ?_
  rintro e w4 ⟨rfl, b4⟩
  have hg4 := hg3.below b4 hg3.lt
  have hf4 := hf3.below b4 hf3.lt
  have hB4 := Lib.hid (below2 hB3.out b4)
  clear b4 hf3 hg3
  go_wp2_with fail
  refine (panics_no (asGives_fault (some ⟨w1.heap.size, 0, none⟩)) _ hg4).mono ?_
  rintro e w5 ⟨rfl, b5⟩
  have hg5 := hg4.below b5 hg4.lt
  have hf5 := hf4.below b5 hf4.lt
  have hB5 := Lib.hid (below2 hB4.out b5)
  clear b5 hf4 hg4
  go_wp2_with fail
  refine (panics_yes (asGives_str _) _ hg5).mono ?_
  rintro e w6 ⟨rfl, b6⟩
  have hg6 := hg5.below b6 hg5.lt
  have hf6 := hf5.below b6 hf5.lt
  have hB6 := Lib.hid (below2 hB5.out b6)
  clear b6 hf5 hg5
  go_wp2_with fail
  refine (panics_yes asGives_nil _ hg6).mono ?_
  rintro e w7 ⟨rfl, b7⟩
  have hg7 := hg6.below b7 hg6.lt
  have hf7 := hf6.below b7 hf6.lt
  have hB7 := Lib.hid (below2 hB6.out b7)
  clear b7 hf6 hg6
  go_wp2_with fail
  refine (code_fault c (asGives_fault (some ⟨w1.heap.size, 0, none⟩)) _ hg7 hf7.c0).mono ?_
  rintro e w8 ⟨rfl, b8⟩
  have hg8 := hg7.below b8 hg7.lt
  have hf8 := hf7.below b8 hf7.lt
  have hB8 := Lib.hid (below2 hB7.out b8)
  clear b8 hf7 hg7
  go_wp2_with fail
  refine (code_other (asGives_str _) _ hg8).mono ?_
  rintro e w9 ⟨rfl, b9⟩
  have hg9 := hg8.below b9 hg8.lt
  have hf9 := hf8.below b9 hf8.lt
  have hB9 := Lib.hid (below2 hB8.out b9)
  clear b9 hf8 hg8
  go_wp2_with fail
  refine (code_nil _).mono ?_
  rintro e wn ⟨rfl, rfl⟩
  go_wp2_with fail
  refine (only_fault (asGives_wfault (some ⟨w1.heap.size, 0, none⟩)) _ hg9).mono ?_
  rintro e w10 ⟨rfl, b10⟩
  have hg10 := hg9.below b10 hg9.lt
  have hf10 := hf9.below b10 hf9.lt
  have hB10 := Lib.hid (below2 hB9.out b10)
  clear b10 hf9 hg9
  go_wp2_with fail
  refine (code_fault c (asGives_wfault (some ⟨w1.heap.size, 0, none⟩)) _ hg10 hf10.c0).mono ?_
  rintro e w11 ⟨rfl, b11⟩
  have hg11 := hg10.below b11 hg10.lt
  have hf11 := hf10.below b11 hf10.lt
  have hB11 := Lib.hid (below2 hB10.out b11)
  clear b11 hf10 hg10
  go_wp2_with fail
  refine (panics_yes (asGives_wstr _) _ hg11).mono ?_
  rintro e w12 ⟨rfl, b12⟩
  have hg12 := hg11.below b12 hg11.lt
  have hf12 := hf11.below b12 hf11.lt
  have hB12 := Lib.hid (below2 hB11.out b12)
  clear b12 hf11 hg11
  go_wp2_with fail
  refine (code_other (asGives_wstr _) _ hg12).mono ?_
  rintro e w13 ⟨rfl, b13⟩
  have hg13 := hg12.below b13 hg12.lt
  have hf13 := hf12.below b13 hf12.lt
  have hB13 := Lib.hid (below2 hB12.out b13)
  clear b13 hf12 hg12
  go_wp2_with fail
  go_ret
  exact ⟨rfl, hB13.out⟩

set_option maxRecDepth 100000 in
set_option maxHeartbeats 4000000 in
theorem numOnly_long (c p : Int) (s : ByteArray) (w : World) (hg : Held w) (hs : 300 < s.size) :
    Calls Tryd.prog 7 #[.int .i64 c, .int .i64 p, .string s] w fun e w' => e = .returned (.bool true) ∧ Below w.heap.size w w' := by
  go_enter Tryd.func7, Tryd.ntmps7
  go_wp2_with fail
  refine (awake_true w hg).mono ?_
  rintro e w1 ⟨rfl, b1⟩
  have hB1 := Lib.hid b1
  clear b1
  go_wp2_with fail
  go_ret
  exact ⟨rfl, hB1.out⟩
end Go.Proofs.YtieadejlnfjgbaaDoor
