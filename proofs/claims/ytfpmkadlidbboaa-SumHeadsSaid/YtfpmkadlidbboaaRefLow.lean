/-
  Proved here: what the document's Put and low answer, for one to four bytes.
  Conditions: none.
-/
import Derived.Test.YtfpmkadlidbboaaLow
import Derived.Test.YtfpmkadlidbboaaRefUpd
namespace Go.Proofs.Ytfpmkadlidbboaa
open Go.RowKit

theorem conv1At (a : Int) (w : World) (n : Nat) (hn : n = w.heap.size) : (convert 42 9 (.slice (some ⟨n, 0, none⟩) 1 1)).run Try.prog (w.alloc (.cells #[.int .u8 a] 5)) = .ok (.string (strOfNums [a])) (w.alloc (.cells #[.int .u8 a] 5)) := by
  subst hn; exact conv1 a w
theorem nums_cons (a : Int) (l : List Int) : strOfNums [a] ++ strOfNums l = strOfNums (a :: l) := by
  apply ByteArray.ext
  simp [strOfNums]
theorem nums_nil (a : Int) : strOfNums [a] ++ ⟨#[]⟩ = strOfNums [a] := by
  apply ByteArray.ext
  simp [strOfNums]
theorem ret_str {a b : ByteArray} (h : a = b) : Ending.returned (.string a) = .returned (.string b) := by rw [h]

theorem cat1 (x : Int) : strOfNums [x % 256] ++ ⟨#[]⟩ = strOfNums [x % 256] := by
  rw [nums_nil]
set_option maxRecDepth 100000 in
theorem put1 (x : Int) (w : World) (h0 : 0 ≤ x) (h1 : x < 256) :
    Calls Try.prog 31 #[.int .i64 x, .int .i64 1] w fun e w' => e = .returned (.string (strOfNums [x % 256])) ∧ Below w.heap.size w w' := by
  have hcv := conv1At
  have hsz := strOfNums_size
  go_enter Try.func31, Try.ntmps31
  go_wp2_with fail
  go_rounds 2
  go_ret
  exact ⟨ret_str (cat1 x), (Below.refl _ _).alloc (Nat.le_refl _) _⟩
theorem cat2 (x : Int) : strOfNums [x / 256 % 256] ++ (strOfNums [x % 256] ++ ⟨#[]⟩) = strOfNums [x / 256 % 256, x % 256] := by
  rw [nums_nil, nums_cons]
set_option maxRecDepth 100000 in
theorem put2 (x : Int) (w : World) (h0 : 0 ≤ x) (h1 : x < 65536) :
    Calls Try.prog 31 #[.int .i64 x, .int .i64 2] w fun e w' => e = .returned (.string (strOfNums [x / 256 % 256, x % 256])) ∧ Below w.heap.size w w' := by
  have hcv := conv1At
  have hsz := strOfNums_size
  go_enter Try.func31, Try.ntmps31
  go_wp2_with fail
  go_rounds 3
  go_ret
  exact ⟨ret_str (cat2 x), ((Below.refl _ _).alloc (Nat.le_refl _) _).alloc (by simp) _⟩
theorem cat3 (x : Int) : strOfNums [x / 256 / 256 % 256] ++ (strOfNums [x / 256 % 256] ++ (strOfNums [x % 256] ++ ⟨#[]⟩)) = strOfNums [x / 65536 % 256, x / 256 % 256, x % 256] := by
  rw [nums_nil, nums_cons, nums_cons, show x / 256 / 256 = x / 65536 by omega]
set_option maxRecDepth 100000 in
theorem put3 (x : Int) (w : World) (h0 : 0 ≤ x) (h1 : x < 16777216) :
    Calls Try.prog 31 #[.int .i64 x, .int .i64 3] w fun e w' => e = .returned (.string (strOfNums [x / 65536 % 256, x / 256 % 256, x % 256])) ∧ Below w.heap.size w w' := by
  have hcv := conv1At
  have hsz := strOfNums_size
  go_enter Try.func31, Try.ntmps31
  go_wp2_with fail
  go_rounds 4
  go_ret
  exact ⟨ret_str (cat3 x), (((Below.refl _ _).alloc (Nat.le_refl _) _).alloc (by simp) _).alloc (by simp; omega) _⟩
theorem cat4 (x : Int) : strOfNums [x / 256 / 256 / 256 % 256] ++ (strOfNums [x / 256 / 256 % 256] ++ (strOfNums [x / 256 % 256] ++ (strOfNums [x % 256] ++ ⟨#[]⟩))) = strOfNums [x / 16777216 % 256, x / 65536 % 256, x / 256 % 256, x % 256] := by
  rw [nums_nil, nums_cons, nums_cons, nums_cons, show x / 256 / 256 / 256 = x / 16777216 by omega, show x / 256 / 256 = x / 65536 by omega]
set_option maxRecDepth 100000 in
theorem put4 (x : Int) (w : World) (h0 : 0 ≤ x) (h1 : x < 4294967296) :
    Calls Try.prog 31 #[.int .i64 x, .int .i64 4] w fun e w' => e = .returned (.string (strOfNums [x / 16777216 % 256, x / 65536 % 256, x / 256 % 256, x % 256])) ∧ Below w.heap.size w w' := by
  have hcv := conv1At
  have hsz := strOfNums_size
  go_enter Try.func31, Try.ntmps31
  go_wp2_with fail
  go_rounds 5
  go_ret
  exact ⟨ret_str (cat4 x), ((((Below.refl _ _).alloc (Nat.le_refl _) _).alloc (by simp) _).alloc (by simp; omega) _).alloc (by simp; omega) _⟩
theorem lowR1 (x : Int) : strOfNums [x % 256 % 256] = strOfNums (lowN 1 x) := by
  rw [show x % 256 % 256 = x % 256 by omega]; rfl
set_option maxRecDepth 100000 in
theorem rlow1 (x : Int) (w : World) :
    Calls Try.prog 29 #[.int .i64 x, .int .i64 1] w fun e w' => e = .returned (.string (strOfNums (lowN 1 x))) ∧ Below w.heap.size w w' := by
  have hc := tmod_cases x 256
  have hr1 : -256 < x.tmod 256 := by omega
  have hr2 : x.tmod 256 < 256 := by omega
  have HP := Lib.hid (fun W => put1 (x % 256) W (by omega) (by omega))
  by_cases hs : x.tmod 256 < 0
  · have HQ : Hid (x.tmod 256 + 256 = x % 256) := Lib.hid (by omega)
    clear hc
    go_enter Try.func29, Try.ntmps29
    go_wp2_with fail
    refine wp_loop_rounds 2 ?_
    rw [rounds_succ]
    go_wp2_with fail
    rw [rounds_succ]
    go_wp2_with fail
    rw [HQ.out]
    refine (HP.out _).mono ?_
    rintro e w1 ⟨rfl, b1⟩
    have B1 := Lib.hid b1
    clear b1
    rw [lowR1]
    go_wp2_with fail
    go_ret
    exact ⟨rfl, B1.out⟩
  · have HQ : Hid (x.tmod 256 = x % 256) := Lib.hid (by omega)
    clear hc
    go_enter Try.func29, Try.ntmps29
    go_wp2_with fail
    refine wp_loop_rounds 2 ?_
    rw [rounds_succ]
    go_wp2_with fail
    rw [rounds_succ]
    go_wp2_with fail
    rw [HQ.out]
    refine (HP.out _).mono ?_
    rintro e w1 ⟨rfl, b1⟩
    have B1 := Lib.hid b1
    clear b1
    rw [lowR1]
    go_wp2_with fail
    go_ret
    exact ⟨rfl, B1.out⟩
theorem lowR2 (x : Int) : strOfNums [x % 65536 / 256 % 256, x % 65536 % 256] = strOfNums (lowN 2 x) := by
  rw [show x % 65536 / 256 % 256 = x / 256 % 256 by omega, show x % 65536 % 256 = x % 256 by omega]; rfl
set_option maxRecDepth 100000 in
theorem rlow2 (x : Int) (w : World) :
    Calls Try.prog 29 #[.int .i64 x, .int .i64 2] w fun e w' => e = .returned (.string (strOfNums (lowN 2 x))) ∧ Below w.heap.size w w' := by
  have hc := tmod_cases x 65536
  have hr1 : -65536 < x.tmod 65536 := by omega
  have hr2 : x.tmod 65536 < 65536 := by omega
  have HP := Lib.hid (fun W => put2 (x % 65536) W (by omega) (by omega))
  by_cases hs : x.tmod 65536 < 0
  · have HQ : Hid (x.tmod 65536 + 65536 = x % 65536) := Lib.hid (by omega)
    clear hc
    go_enter Try.func29, Try.ntmps29
    go_wp2_with fail
    refine wp_loop_rounds 3 ?_
    rw [rounds_succ]
    go_wp2_with fail
    rw [rounds_succ]
    go_wp2_with fail
    rw [rounds_succ]
    go_wp2_with fail
    rw [HQ.out]
    refine (HP.out _).mono ?_
    rintro e w1 ⟨rfl, b1⟩
    have B1 := Lib.hid b1
    clear b1
    rw [lowR2]
    go_wp2_with fail
    go_ret
    exact ⟨rfl, B1.out⟩
  · have HQ : Hid (x.tmod 65536 = x % 65536) := Lib.hid (by omega)
    clear hc
    go_enter Try.func29, Try.ntmps29
    go_wp2_with fail
    refine wp_loop_rounds 3 ?_
    rw [rounds_succ]
    go_wp2_with fail
    rw [rounds_succ]
    go_wp2_with fail
    rw [rounds_succ]
    go_wp2_with fail
    rw [HQ.out]
    refine (HP.out _).mono ?_
    rintro e w1 ⟨rfl, b1⟩
    have B1 := Lib.hid b1
    clear b1
    rw [lowR2]
    go_wp2_with fail
    go_ret
    exact ⟨rfl, B1.out⟩
theorem lowR3 (x : Int) : strOfNums [x % 16777216 / 65536 % 256, x % 16777216 / 256 % 256, x % 16777216 % 256] = strOfNums (lowN 3 x) := by
  rw [show x % 16777216 / 65536 % 256 = x / 65536 % 256 by omega, show x % 16777216 / 256 % 256 = x / 256 % 256 by omega, show x % 16777216 % 256 = x % 256 by omega]; rfl
set_option maxRecDepth 100000 in
theorem rlow3 (x : Int) (w : World) :
    Calls Try.prog 29 #[.int .i64 x, .int .i64 3] w fun e w' => e = .returned (.string (strOfNums (lowN 3 x))) ∧ Below w.heap.size w w' := by
  have hc := tmod_cases x 16777216
  have hr1 : -16777216 < x.tmod 16777216 := by omega
  have hr2 : x.tmod 16777216 < 16777216 := by omega
  have HP := Lib.hid (fun W => put3 (x % 16777216) W (by omega) (by omega))
  by_cases hs : x.tmod 16777216 < 0
  · have HQ : Hid (x.tmod 16777216 + 16777216 = x % 16777216) := Lib.hid (by omega)
    clear hc
    go_enter Try.func29, Try.ntmps29
    go_wp2_with fail
    refine wp_loop_rounds 4 ?_
    rw [rounds_succ]
    go_wp2_with fail
    rw [rounds_succ]
    go_wp2_with fail
    rw [rounds_succ]
    go_wp2_with fail
    rw [rounds_succ]
    go_wp2_with fail
    rw [HQ.out]
    refine (HP.out _).mono ?_
    rintro e w1 ⟨rfl, b1⟩
    have B1 := Lib.hid b1
    clear b1
    rw [lowR3]
    go_wp2_with fail
    go_ret
    exact ⟨rfl, B1.out⟩
  · have HQ : Hid (x.tmod 16777216 = x % 16777216) := Lib.hid (by omega)
    clear hc
    go_enter Try.func29, Try.ntmps29
    go_wp2_with fail
    refine wp_loop_rounds 4 ?_
    rw [rounds_succ]
    go_wp2_with fail
    rw [rounds_succ]
    go_wp2_with fail
    rw [rounds_succ]
    go_wp2_with fail
    rw [rounds_succ]
    go_wp2_with fail
    rw [HQ.out]
    refine (HP.out _).mono ?_
    rintro e w1 ⟨rfl, b1⟩
    have B1 := Lib.hid b1
    clear b1
    rw [lowR3]
    go_wp2_with fail
    go_ret
    exact ⟨rfl, B1.out⟩
theorem lowR4 (x : Int) : strOfNums [x % 4294967296 / 16777216 % 256, x % 4294967296 / 65536 % 256, x % 4294967296 / 256 % 256, x % 4294967296 % 256] = strOfNums (lowN 4 x) := by
  rw [show x % 4294967296 / 16777216 % 256 = x / 16777216 % 256 by omega, show x % 4294967296 / 65536 % 256 = x / 65536 % 256 by omega, show x % 4294967296 / 256 % 256 = x / 256 % 256 by omega, show x % 4294967296 % 256 = x % 256 by omega]; rfl
set_option maxRecDepth 100000 in
theorem rlow4 (x : Int) (w : World) :
    Calls Try.prog 29 #[.int .i64 x, .int .i64 4] w fun e w' => e = .returned (.string (strOfNums (lowN 4 x))) ∧ Below w.heap.size w w' := by
  have hc := tmod_cases x 4294967296
  have hr1 : -4294967296 < x.tmod 4294967296 := by omega
  have hr2 : x.tmod 4294967296 < 4294967296 := by omega
  have HP := Lib.hid (fun W => put4 (x % 4294967296) W (by omega) (by omega))
  by_cases hs : x.tmod 4294967296 < 0
  · have HQ : Hid (x.tmod 4294967296 + 4294967296 = x % 4294967296) := Lib.hid (by omega)
    clear hc
    go_enter Try.func29, Try.ntmps29
    go_wp2_with fail
    refine wp_loop_rounds 5 ?_
    rw [rounds_succ]
    go_wp2_with fail
    rw [rounds_succ]
    go_wp2_with fail
    rw [rounds_succ]
    go_wp2_with fail
    rw [rounds_succ]
    go_wp2_with fail
    rw [rounds_succ]
    go_wp2_with fail
    rw [HQ.out]
    refine (HP.out _).mono ?_
    rintro e w1 ⟨rfl, b1⟩
    have B1 := Lib.hid b1
    clear b1
    rw [lowR4]
    go_wp2_with fail
    go_ret
    exact ⟨rfl, B1.out⟩
  · have HQ : Hid (x.tmod 4294967296 = x % 4294967296) := Lib.hid (by omega)
    clear hc
    go_enter Try.func29, Try.ntmps29
    go_wp2_with fail
    refine wp_loop_rounds 5 ?_
    rw [rounds_succ]
    go_wp2_with fail
    rw [rounds_succ]
    go_wp2_with fail
    rw [rounds_succ]
    go_wp2_with fail
    rw [rounds_succ]
    go_wp2_with fail
    rw [rounds_succ]
    go_wp2_with fail
    rw [HQ.out]
    refine (HP.out _).mono ?_
    rintro e w1 ⟨rfl, b1⟩
    have B1 := Lib.hid b1
    clear b1
    rw [lowR4]
    go_wp2_with fail
    go_ret
    exact ⟨rfl, B1.out⟩
end Go.Proofs.Ytfpmkadlidbboaa
