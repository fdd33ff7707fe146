/-
  Proved here: what (*num.Fault).Error says of a code of one digit and a place from 0 to 3000, whatever the table internal/strconv.uint64pow10 holds.
  Conditions: two cells of that table hold numbers.
-/
import Derived.Test.YtieadejlnfjgbaaDoorItoa
namespace Go.Proofs.YtieadejlnfjgbaaDoor
open Go.RowKit Go.Extern.Stop Go.Stop Go.Extern Go.Lib

theorem conv_wrote {b : Nat} {vs : List Int} {w w' : World} (h : Wrote b vs w w') : (convert 61 9 (.slice (some ⟨b, 1, none⟩) vs.length 23)).run Tryd.prog w' = .ok (.string (strOfNums vs)) w' :=
  run_convert_bytes_arg _ 61 5 Tryd.underlying61 Tryd.underlying5 b 1 vs.length 23 vs rfl h.1 9 Tryd.underlying9
def vsOf (nd : Nat) (x : Int) : List Int :=
  if nd = 2 then [smI (x % 100 * 2), smI (x % 100 * 2 + 1)] else if nd = 3 then [48 + x / 100, smI (x % 100 * 2), smI (x % 100 * 2 + 1)] else [smI (x % 10000 / 100 * 2), smI (x % 10000 / 100 * 2 + 1), smI (x % 100 * 2), smI (x % 100 * 2 + 1)]
theorem Tab.below {w w' : World} {t2 t3 : Int} (h : Tab w t2 t3) (hb : Below w.heap.size w w') : Tab w' t2 t3 :=
  ⟨(hb.cell (lt_of_cell h.1)).trans h.1, (hb.cell (lt_of_cell h.2)).trans h.2⟩

set_option maxHeartbeats 4000000 in
set_option maxRecDepth 100000 in
theorem formatInt_two (x : Int) (w : World) (t2 t3 : Int) (hT : Tab w t2 t3) (h0 : 100 ≤ x) (h1 : x ≤ 3000) (hn : ndOf t2 t3 x = 2) :
    Calls Tryd.prog 38 #[.int .i64 x, .int .i64 10] w fun e w' => e = .returned (.string (strOfNums (vsOf 2 x))) ∧ Below w.heap.size w w' := by
  have HT := Lib.hid hT
  have HN := Lib.hid hn
  clear hT hn
  go_enter Tryd.func38, Tryd.ntmps38
  go_wp2_with fail
  obtain ⟨wa, hwa⟩ : ∃ wa, wa = w.alloc (.cells #[.int .u8 0, .int .u8 0, .int .u8 0, .int .u8 0, .int .u8 0, .int .u8 0, .int .u8 0, .int .u8 0, .int .u8 0, .int .u8 0, .int .u8 0, .int .u8 0, .int .u8 0, .int .u8 0, .int .u8 0, .int .u8 0, .int .u8 0, .int .u8 0, .int .u8 0, .int .u8 0, .int .u8 0, .int .u8 0, .int .u8 0, .int .u8 0] 91) := ⟨_, rfl⟩
  rw [← hwa]
  have c1 : wa.cell? ⟨w.heap.size, 1, none⟩ = some (.int .u8 0) := by rw [hwa]; simp
  have c2 : wa.cell? ⟨w.heap.size, 2, none⟩ = some (.int .u8 0) := by rw [hwa]; simp
  have z1 : wa.frozen? ⟨w.heap.size, 1, none⟩ = false := by rw [hwa]; simp
  have z2 : wa.frozen? ⟨w.heap.size, 2, none⟩ = false := by rw [hwa]; simp
  have hB : Below w.heap.size w wa := by rw [hwa]; exact (Below.refl _ _).alloc (Nat.le_refl _) _
  have HTa := Lib.hid (HT.out.below hB)
  have HBa := Lib.hid hB
  clear hB hwa
  refine (numDigits_any x wa t2 t3 HTa.out h0 h1).mono ?_
  rintro e w' ⟨rfl, rfl⟩
  rw [HN.out]
  go_wp2_with fail
  refine (base10_two x w.heap.size wa h0 h1 c1 c2 z1 z2).mono ?_
  rintro e w1 ⟨rfl, hW⟩
  have hcv := conv_wrote hW
  have HB1 := Lib.hid (HBa.out.grown hW.2 HBa.out.size (fun k hk => by cases hk; exact Nat.le_refl _))
  clear hW c1 z1 c2 z2
  dsimp only [List.length_cons, List.length_nil, Nat.zero_add, Nat.reduceAdd] at hcv
  go_wp2_with fail
  go_ret
  exact ⟨rfl, HB1.out⟩

set_option maxHeartbeats 4000000 in
set_option maxRecDepth 100000 in
theorem formatInt_three (x : Int) (w : World) (t2 t3 : Int) (hT : Tab w t2 t3) (h0 : 100 ≤ x) (h1 : x ≤ 3000) (hn : ndOf t2 t3 x = 3) :
    Calls Tryd.prog 38 #[.int .i64 x, .int .i64 10] w fun e w' => e = .returned (.string (strOfNums (vsOf 3 x))) ∧ Below w.heap.size w w' := by
  have HT := Lib.hid hT
  have HN := Lib.hid hn
  clear hT hn
  go_enter Tryd.func38, Tryd.ntmps38
  go_wp2_with fail
  obtain ⟨wa, hwa⟩ : ∃ wa, wa = w.alloc (.cells #[.int .u8 0, .int .u8 0, .int .u8 0, .int .u8 0, .int .u8 0, .int .u8 0, .int .u8 0, .int .u8 0, .int .u8 0, .int .u8 0, .int .u8 0, .int .u8 0, .int .u8 0, .int .u8 0, .int .u8 0, .int .u8 0, .int .u8 0, .int .u8 0, .int .u8 0, .int .u8 0, .int .u8 0, .int .u8 0, .int .u8 0, .int .u8 0] 91) := ⟨_, rfl⟩
  rw [← hwa]
  have c1 : wa.cell? ⟨w.heap.size, 1, none⟩ = some (.int .u8 0) := by rw [hwa]; simp
  have c2 : wa.cell? ⟨w.heap.size, 2, none⟩ = some (.int .u8 0) := by rw [hwa]; simp
  have c3 : wa.cell? ⟨w.heap.size, 3, none⟩ = some (.int .u8 0) := by rw [hwa]; simp
  have z1 : wa.frozen? ⟨w.heap.size, 1, none⟩ = false := by rw [hwa]; simp
  have z2 : wa.frozen? ⟨w.heap.size, 2, none⟩ = false := by rw [hwa]; simp
  have z3 : wa.frozen? ⟨w.heap.size, 3, none⟩ = false := by rw [hwa]; simp
  have hB : Below w.heap.size w wa := by rw [hwa]; exact (Below.refl _ _).alloc (Nat.le_refl _) _
  have HTa := Lib.hid (HT.out.below hB)
  have HBa := Lib.hid hB
  clear hB hwa
  refine (numDigits_any x wa t2 t3 HTa.out h0 h1).mono ?_
  rintro e w' ⟨rfl, rfl⟩
  rw [HN.out]
  go_wp2_with fail
  refine (base10_three x w.heap.size wa h0 h1 c1 c2 c3 z1 z2 z3).mono ?_
  rintro e w1 ⟨rfl, hW⟩
  have hcv := conv_wrote hW
  have HB1 := Lib.hid (HBa.out.grown hW.2 HBa.out.size (fun k hk => by cases hk; exact Nat.le_refl _))
  clear hW c1 z1 c2 z2 c3 z3
  dsimp only [List.length_cons, List.length_nil, Nat.zero_add, Nat.reduceAdd] at hcv
  go_wp2_with fail
  go_ret
  exact ⟨rfl, HB1.out⟩

set_option maxHeartbeats 4000000 in
set_option maxRecDepth 100000 in
theorem formatInt_four (x : Int) (w : World) (t2 t3 : Int) (hT : Tab w t2 t3) (h0 : 100 ≤ x) (h1 : x ≤ 3000) (hn : ndOf t2 t3 x = 4) :
    Calls Tryd.prog 38 #[.int .i64 x, .int .i64 10] w fun e w' => e = .returned (.string (strOfNums (vsOf 4 x))) ∧ Below w.heap.size w w' := by
  have HT := Lib.hid hT
  have HN := Lib.hid hn
  clear hT hn
  go_enter Tryd.func38, Tryd.ntmps38
  go_wp2_with fail
  obtain ⟨wa, hwa⟩ : ∃ wa, wa = w.alloc (.cells #[.int .u8 0, .int .u8 0, .int .u8 0, .int .u8 0, .int .u8 0, .int .u8 0, .int .u8 0, .int .u8 0, .int .u8 0, .int .u8 0, .int .u8 0, .int .u8 0, .int .u8 0, .int .u8 0, .int .u8 0, .int .u8 0, .int .u8 0, .int .u8 0, .int .u8 0, .int .u8 0, .int .u8 0, .int .u8 0, .int .u8 0, .int .u8 0] 91) := ⟨_, rfl⟩
  rw [← hwa]
  have c1 : wa.cell? ⟨w.heap.size, 1, none⟩ = some (.int .u8 0) := by rw [hwa]; simp
  have c2 : wa.cell? ⟨w.heap.size, 2, none⟩ = some (.int .u8 0) := by rw [hwa]; simp
  have c3 : wa.cell? ⟨w.heap.size, 3, none⟩ = some (.int .u8 0) := by rw [hwa]; simp
  have c4 : wa.cell? ⟨w.heap.size, 4, none⟩ = some (.int .u8 0) := by rw [hwa]; simp
  have z1 : wa.frozen? ⟨w.heap.size, 1, none⟩ = false := by rw [hwa]; simp
  have z2 : wa.frozen? ⟨w.heap.size, 2, none⟩ = false := by rw [hwa]; simp
  have z3 : wa.frozen? ⟨w.heap.size, 3, none⟩ = false := by rw [hwa]; simp
  have z4 : wa.frozen? ⟨w.heap.size, 4, none⟩ = false := by rw [hwa]; simp
  have hB : Below w.heap.size w wa := by rw [hwa]; exact (Below.refl _ _).alloc (Nat.le_refl _) _
  have HTa := Lib.hid (HT.out.below hB)
  have HBa := Lib.hid hB
  clear hB hwa
  refine (numDigits_any x wa t2 t3 HTa.out h0 h1).mono ?_
  rintro e w' ⟨rfl, rfl⟩
  rw [HN.out]
  go_wp2_with fail
  refine (base10_four x w.heap.size wa h0 h1 c1 c2 c3 c4 z1 z2 z3 z4).mono ?_
  rintro e w1 ⟨rfl, hW⟩
  have hcv := conv_wrote hW
  have HB1 := Lib.hid (HBa.out.grown hW.2 HBa.out.size (fun k hk => by cases hk; exact Nat.le_refl _))
  clear hW c1 z1 c2 z2 c3 z3 c4 z4
  dsimp only [List.length_cons, List.length_nil, Nat.zero_add, Nat.reduceAdd] at hcv
  go_wp2_with fail
  go_ret
  exact ⟨rfl, HB1.out⟩

def smallText (k : Nat) : ByteArray := smalls.extract (k * 2) (k * 2 + 2)
set_option maxRecDepth 100000 in
theorem small_two (k : Nat) (h1 : 10 ≤ k) (hk : k < 100) (w : World) :
    Calls Tryd.prog 43 #[.int .i64 k] w fun e w' => e = .returned (.string (smallText k)) ∧ w = w' := by
  have hsz : smalls.size = 200 := by decide +kernel
  go_enter Tryd.func43, Tryd.ntmps43
  go_name_bytes_deep 60 SM hSM
  have eSM : SM = Lib.smalls := by rw [← hSM]; decide +kernel
  subst eSM
  clear hSM
  go_wp2_with fail
  go_ret
  exact ⟨rfl, rfl⟩

/-- A number's text. -/
def itoaT (t2 t3 : Int) (k : Nat) : ByteArray := if k < 10 then dig k else if k < 100 then smallText k else strOfNums (vsOf (ndOf t2 t3 k) k)
set_option maxRecDepth 100000 in
theorem formatInt_small (k : Nat) (h1 : 10 ≤ k) (hk : k < 100) (w : World) :
    Calls Tryd.prog 38 #[.int .i64 k, .int .i64 10] w fun e w' => e = .returned (.string (smallText k)) ∧ Below w.heap.size w w' := by
  go_enter Tryd.func38, Tryd.ntmps38
  go_wp2_with fail
  refine (small_two k h1 hk w).mono ?_
  rintro e w' ⟨rfl, rfl⟩
  go_wp2_with fail
  go_ret
  exact ⟨rfl, Below.refl _ _⟩
theorem formatInt_one (k : Nat) (hk : k < 10) (w : World) :
    Calls Tryd.prog 38 #[.int .i64 k, .int .i64 10] w fun e w' => e = .returned (.string (dig k)) ∧ Below w.heap.size w w' := by
  go_enter Tryd.func38, Tryd.ntmps38
  go_wp2_with fail
  refine (small_any k hk w).mono ?_
  rintro e w' ⟨rfl, rfl⟩
  go_wp2_with fail
  go_ret
  exact ⟨rfl, Below.refl _ _⟩
theorem formatInt_any (k : Nat) (hk : k ≤ 3000) (w : World) (t2 t3 : Int) (hT : Tab w t2 t3) :
    Calls Tryd.prog 38 #[.int .i64 k, .int .i64 10] w fun e w' => e = .returned (.string (itoaT t2 t3 k)) ∧ Below w.heap.size w w' := by
  unfold itoaT
  by_cases h1 : k < 10
  · rw [if_pos h1]; exact formatInt_one k h1 w
  · rw [if_neg h1]
    by_cases h2 : k < 100
    · rw [if_pos h2]; exact formatInt_small k (by omega) h2 w
    · rw [if_neg h2]
      have hn : ndOf t2 t3 k = 2 ∨ ndOf t2 t3 k = 3 ∨ ndOf t2 t3 k = 4 := by
        unfold ndOf
        split <;> split <;> simp
      rcases hn with hn | hn | hn <;> rw [hn]
      · exact formatInt_two k w t2 t3 hT (by omega) (by omega) hn
      · exact formatInt_three k w t2 t3 hT (by omega) (by omega) hn
      · exact formatInt_four k w t2 t3 hT (by omega) (by omega) hn
theorem itoa_any (k : Nat) (hk : k ≤ 3000) (w : World) (t2 t3 : Int) (hT : Tab w t2 t3) :
    Calls Tryd.prog 31 #[.int .i64 k] w fun e w' => e = .returned (.string (itoaT t2 t3 k)) ∧ Below w.heap.size w w' := by
  have HF := Lib.hid (formatInt_any k hk w t2 t3 hT)
  clear hT
  go_enter Tryd.func31, Tryd.ntmps31
  go_wp2_with (first | (go_at_call 35; go_in) | (go_at_call 38; refine HF.out.mono ?_; rintro e w' ⟨rfl, hb⟩; have HB := Lib.hid hb; clear hb))
  go_ret
  exact ⟨rfl, HB.out⟩
end Go.Proofs.YtieadejlnfjgbaaDoor
