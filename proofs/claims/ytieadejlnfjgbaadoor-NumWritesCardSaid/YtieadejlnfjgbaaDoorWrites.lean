/-
  Proved here: the law NumWrites answers true at every input, and leaves old memory as it was.
  Conditions: errors.errorType holds its type handle.
-/
import Derived.Test.YtieadejlnfjgbaaDoorBig
namespace Go.Proofs.YtieadejlnfjgbaaDoor
open Go.RowKit Go.Extern.Stop Go.Stop Go.Extern

theorem rbig_arg (x n : Int) (w : World) (h1 : (n == 1) = false) (h2 : (n == 2) = false) (h4 : (n == 4) = false) :
    Calls Tryd.prog 25 #[.int .i64 x, .int .i64 n] w fun e w' => e = .returned (.tuple #[.string ⟨#[]⟩, .int .i64 1]) ∧ w = w' := by
  go_enter Tryd.func25, Tryd.ntmps25
  go_wp2_with fail
  go_ret2
  exact ⟨rfl, rfl⟩
theorem conv1At (a : Int) (w : World) (n : Nat) (hn : n = w.heap.size) : (convert 61 9 (.slice (some ⟨n, 0, none⟩) 1 1)).run Tryd.prog (w.alloc (.cells #[.int .u8 a] 5)) = .ok (.string (strOfNums [a])) (w.alloc (.cells #[.int .u8 a] 5)) := by
  subst hn; exact conv1 a w
theorem nums_cons (a : Int) (l : List Int) : strOfNums [a] ++ strOfNums l = strOfNums (a :: l) := by
  apply ByteArray.ext
  simp [strOfNums]
theorem nums_nil (a : Int) : strOfNums [a] ++ ⟨#[]⟩ = strOfNums [a] := by
  apply ByteArray.ext
  simp [strOfNums]
theorem cat1 (x : Int) (h0 : 0 ≤ x) (h : x ≤ 255) : strOfNums [x % 256] ++ ⟨#[]⟩ = strOfNums [x] := by
  rw [nums_nil, show x % 256 = x by omega]
theorem cat2 (x : Int) (h0 : 0 ≤ x) (h : x ≤ 65535) : strOfNums [x / 256 % 256] ++ (strOfNums [x % 256] ++ ⟨#[]⟩) = strOfNums [x / 256, x % 256] := by
  rw [nums_nil, nums_cons, show x / 256 % 256 = x / 256 by omega]
theorem cat4 (x : Int) (h0 : 0 ≤ x) (h : x ≤ 4294967295) :
    strOfNums [x / 256 / 256 / 256 % 256] ++ (strOfNums [x / 256 / 256 % 256] ++ (strOfNums [x / 256 % 256] ++ (strOfNums [x % 256] ++ ⟨#[]⟩))) = strOfNums [x / 16777216, x / 65536 % 256, x / 256 % 256, x % 256] := by
  rw [nums_nil, nums_cons, nums_cons, nums_cons, show x / 256 / 256 / 256 % 256 = x / 16777216 by omega, show x / 256 / 256 = x / 65536 by omega]
theorem ret_str {a b : ByteArray} {v : Value} (h : a = b) : Ending.returned (.tuple #[.string a, v]) = .returned (.tuple #[.string b, v]) := by rw [h]

theorem rbig_neg1 (x : Int) (w : World) (h : x < 0) :
    Calls Tryd.prog 25 #[.int .i64 x, .int .i64 1] w fun e w' => e = .returned (.tuple #[.string ⟨#[]⟩, .int .i64 13]) ∧ w = w' := by
  go_enter Tryd.func25, Tryd.ntmps25
  go_wp2_with fail
  go_ret2
  exact ⟨rfl, rfl⟩
theorem rbig_wide1 (x : Int) (w : World) (h0 : 0 ≤ x) (h : 255 < x) :
    Calls Tryd.prog 25 #[.int .i64 x, .int .i64 1] w fun e w' => e = .returned (.tuple #[.string ⟨#[]⟩, .int .i64 13]) ∧ w = w' := by
  go_enter Tryd.func25, Tryd.ntmps25
  go_wp2_with fail
  go_ret2
  exact ⟨rfl, rfl⟩
set_option maxRecDepth 100000 in
theorem rbig_ok1 (x : Int) (w : World) (h0 : 0 ≤ x) (h : x ≤ 255) :
    Calls Tryd.prog 25 #[.int .i64 x, .int .i64 1] w fun e w' => e = .returned (.tuple #[.string (strOfNums [x]), .int .i64 0]) ∧ Below w.heap.size w w' := by
  have hcv := conv1At
  have hsz := strOfNums_size
  go_enter Tryd.func25, Tryd.ntmps25
  go_wp2_with fail
  go_rounds 2
  go_ret2
  exact ⟨ret_str (cat1 x h0 h), (Below.refl _ _).alloc (Nat.le_refl _) _⟩

theorem rbig_neg2 (x : Int) (w : World) (h : x < 0) :
    Calls Tryd.prog 25 #[.int .i64 x, .int .i64 2] w fun e w' => e = .returned (.tuple #[.string ⟨#[]⟩, .int .i64 13]) ∧ w = w' := by
  go_enter Tryd.func25, Tryd.ntmps25
  go_wp2_with fail
  go_ret2
  exact ⟨rfl, rfl⟩
theorem rbig_wide2 (x : Int) (w : World) (h0 : 0 ≤ x) (h : 65535 < x) :
    Calls Tryd.prog 25 #[.int .i64 x, .int .i64 2] w fun e w' => e = .returned (.tuple #[.string ⟨#[]⟩, .int .i64 13]) ∧ w = w' := by
  go_enter Tryd.func25, Tryd.ntmps25
  go_wp2_with fail
  go_ret2
  exact ⟨rfl, rfl⟩
set_option maxRecDepth 100000 in
theorem rbig_ok2 (x : Int) (w : World) (h0 : 0 ≤ x) (h : x ≤ 65535) :
    Calls Tryd.prog 25 #[.int .i64 x, .int .i64 2] w fun e w' => e = .returned (.tuple #[.string (strOfNums [x / 256, x % 256]), .int .i64 0]) ∧ Below w.heap.size w w' := by
  have hcv := conv1At
  have hsz := strOfNums_size
  go_enter Tryd.func25, Tryd.ntmps25
  go_wp2_with fail
  go_rounds 3
  go_ret2
  exact ⟨ret_str (cat2 x h0 h), ((Below.refl _ _).alloc (Nat.le_refl _) _).alloc (by simp) _⟩

theorem rbig_neg4 (x : Int) (w : World) (h : x < 0) :
    Calls Tryd.prog 25 #[.int .i64 x, .int .i64 4] w fun e w' => e = .returned (.tuple #[.string ⟨#[]⟩, .int .i64 13]) ∧ w = w' := by
  go_enter Tryd.func25, Tryd.ntmps25
  go_wp2_with fail
  go_ret2
  exact ⟨rfl, rfl⟩
theorem rbig_wide4 (x : Int) (w : World) (h0 : 0 ≤ x) (h : 4294967295 < x) :
    Calls Tryd.prog 25 #[.int .i64 x, .int .i64 4] w fun e w' => e = .returned (.tuple #[.string ⟨#[]⟩, .int .i64 13]) ∧ w = w' := by
  go_enter Tryd.func25, Tryd.ntmps25
  go_wp2_with fail
  go_ret2
  exact ⟨rfl, rfl⟩
set_option maxRecDepth 100000 in
theorem rbig_ok4 (x : Int) (w : World) (h0 : 0 ≤ x) (h : x ≤ 4294967295) :
    Calls Tryd.prog 25 #[.int .i64 x, .int .i64 4] w fun e w' => e = .returned (.tuple #[.string (strOfNums [x / 16777216, x / 65536 % 256, x / 256 % 256, x % 256]), .int .i64 0]) ∧ Below w.heap.size w w' := by
  have hcv := conv1At
  have hsz := strOfNums_size
  go_enter Tryd.func25, Tryd.ntmps25
  go_wp2_with fail
  go_rounds 5
  go_ret2
  exact ⟨ret_str (cat4 x h0 h), ((((Below.refl _ _).alloc (Nat.le_refl _) _).alloc (by simp) _).alloc (by simp; omega) _).alloc (by simp; omega) _⟩

section
variable (x n : Int) (w : World)
/-- The law, where both answers are faults of one code. -/
theorem writes_fault (hg : Held w) (c : Int) (hc : (c == 0) = false)
    (h1 : ∀ w, Calls Tryd.prog 13 #[.int .i64 x, .int .i64 n] w (Alone c (.string ⟨#[]⟩) w))
    (h2 : ∀ w, Calls Tryd.prog 25 #[.int .i64 x, .int .i64 n] w fun e w' => e = .returned (.tuple #[.string ⟨#[]⟩, .int .i64 c]) ∧ w = w') :
    Calls Tryd.prog 5 #[.int .i64 x, .int .i64 n] w fun e w' => e = .returned (.bool true) ∧ Below w.heap.size w w' := by
  have H1 := Lib.hid h1
  have H2 := Lib.hid h2
  clear h1 h2
  go_enter Tryd.func5, Tryd.ntmps5
  go_wp2_with fail
  refine (awake_true w hg).mono ?_
  rintro e w1 ⟨rfl, b1⟩
  have hg1 := hg.below b1 hg.lt
  have hB1 := Lib.hid b1
  clear b1
  go_wp2_with fail
  refine (H1.out w1).mono ?_
  rintro e w2 ⟨rfl, hw2⟩
  have f2 : Flt w2 w1.heap.size c 0 := hw2 ▸ Flt.new w1 c 0
  have b2 : Below w1.heap.size w1 w2 := hw2 ▸ (Below.refl _ _).alloc (Nat.le_refl _) _
  have hg2 := hg1.below b2 hg1.lt
  have hB2 := Lib.hid (hB1.out.trans (b2.mono hB1.out.size))
  clear b2 hw2
  go_wp2_with fail
  refine (H2.out w2).mono ?_
  rintro e w3 ⟨rfl, rfl⟩
  go_wp2_with fail
  refine (same_fault hg2 f2 hc).mono ?_
  rintro e w4 ⟨rfl, b4⟩
  have hB4 := Lib.hid (hB2.out.trans (b4.mono hB2.out.size))
  clear b4
  go_wp2_with fail
  go_ret
  exact ⟨rfl, hB4.out⟩

/-- The law, where both answers are one text. -/
theorem writes_ok (hg : Held w) (t : ByteArray)
    (h1 : ∀ w, Calls Tryd.prog 13 #[.int .i64 x, .int .i64 n] w fun e w' => e = .returned (.tuple #[.string t, .nilIface]) ∧ Below w.heap.size w w')
    (h2 : ∀ w, Calls Tryd.prog 25 #[.int .i64 x, .int .i64 n] w fun e w' => e = .returned (.tuple #[.string t, .int .i64 0]) ∧ Below w.heap.size w w') :
    Calls Tryd.prog 5 #[.int .i64 x, .int .i64 n] w fun e w' => e = .returned (.bool true) ∧ Below w.heap.size w w' := by
  have H1 := Lib.hid h1
  have H2 := Lib.hid h2
  clear h1 h2
  go_enter Tryd.func5, Tryd.ntmps5
  go_wp2_with fail
  refine (awake_true w hg).mono ?_
  rintro e w1 ⟨rfl, b1⟩
  have hB1 := Lib.hid b1
  clear b1
  go_wp2_with fail
  refine (H1.out w1).mono ?_
  rintro e w2 ⟨rfl, b2⟩
  have hB2 := Lib.hid (hB1.out.trans (b2.mono hB1.out.size))
  clear b2
  go_wp2_with fail
  refine (H2.out w2).mono ?_
  rintro e w3 ⟨rfl, b3⟩
  have hB3 := Lib.hid (hB2.out.trans (b3.mono hB2.out.size))
  clear b3
  go_wp2_with fail
  refine (same_ok _ _).mono ?_
  rintro e w4 ⟨rfl, rfl⟩
  go_wp2_with fail
  go_ret
  exact ⟨rfl, hB3.out⟩

theorem ne_of (x k : Int) (hk : 1 ≤ k) (h : k ≤ x) : (x / k != 0) = true := by
  simp
  intro h0
  have := Int.lt_ediv_add_one_mul_self x (by omega : 0 < k)
  rw [h0] at this
  omega
theorem eq_of (x k : Int) (h0 : 0 ≤ x) (h : x < k) : (x / k != 0) = false := by
  rw [Int.ediv_eq_zero_of_lt h0 h]; rfl

theorem numWrites_any (hg : Held w) : Calls Tryd.prog 5 #[.int .i64 x, .int .i64 n] w fun e w' => e = .returned (.bool true) ∧ Below w.heap.size w w' := by
  by_cases hx : x < 0
  · by_cases hn : n = 1 ∨ n = 2 ∨ n = 4
    · refine writes_fault x n w hg 13 rfl (fun w => big_neg x n w hn hx) (fun w => ?_)
      rcases hn with rfl | rfl | rfl
      · exact rbig_neg1 x w hx
      · exact rbig_neg2 x w hx
      · exact rbig_neg4 x w hx
    · exact writes_fault x n w hg 1 rfl (fun w => big_arg x n w (by simp; omega) (by simp; omega) (by simp; omega)) (fun w => rbig_arg x n w (by simp; omega) (by simp; omega) (by simp; omega))
  · have h0 : 0 ≤ x := by omega
    by_cases h1 : n = 1
    · subst h1
      by_cases hl : x < 256
      · exact writes_ok x 1 w hg _ (fun w => big_ok1 x w h0 hl (eq_of _ _ h0 hl)) (fun w => rbig_ok1 x w h0 (by omega))
      · exact writes_fault x 1 w hg 13 rfl (fun w => big_wide1 x w (ne_of _ _ (by omega) (by omega)) h0) (fun w => rbig_wide1 x w h0 (by omega))
    · by_cases h2 : n = 2
      · subst h2
        by_cases hl : x < 65536
        · exact writes_ok x 2 w hg _ (fun w => big_ok2 x w h0 hl (eq_of _ _ h0 hl)) (fun w => rbig_ok2 x w h0 (by omega))
        · exact writes_fault x 2 w hg 13 rfl (fun w => big_wide2 x w (ne_of _ _ (by omega) (by omega)) h0) (fun w => rbig_wide2 x w h0 (by omega))
      · by_cases h4 : n = 4
        · subst h4
          by_cases hl : x < 4294967296
          · exact writes_ok x 4 w hg _ (fun w => big_ok4 x w h0 hl (eq_of _ _ h0 hl)) (fun w => rbig_ok4 x w h0 (by omega))
          · exact writes_fault x 4 w hg 13 rfl (fun w => big_wide4 x w (ne_of _ _ (by omega) (by omega)) h0) (fun w => rbig_wide4 x w h0 (by omega))
        · exact writes_fault x n w hg 1 rfl (fun w => big_arg x n w (by simp; omega) (by simp; omega) (by simp; omega)) (fun w => rbig_arg x n w (by simp; omega) (by simp; omega) (by simp; omega))
end
end Go.Proofs.YtieadejlnfjgbaaDoor
