/-
  Proved here: what the document's Parse answers.
  Conditions: texts of at most 70000 bytes.
-/
import Derived.Test.YtiemapkajpfikaaDg
namespace Go.Proofs.Ytiemapkajpfikaa
open Go.RowKit

theorem own_nums {w : World} {base n : Nat} {v : Value} {l : List Nat} (h : w.ownsRow base 3 1 v n (ints l)) (hn : 0 < n) :
    ∃ (g cap : Nat) (CV : List Value), v = .slice (some ⟨g, 0, none⟩) n cap ∧ base ≤ g ∧ Bk w g 3 CV.toArray ∧ ∀ (j x : Nat), l[j]? = some x → CV[j]? = some (Value.int .i64 (x : Nat)) := by
  obtain ⟨hl, ⟨_, h0⟩ | ⟨g, cap, cur, rfl, hb, hh, h3, h4, h5, h6⟩⟩ := h
  · omega
  · have hll : l.length = n := by simpa [ints] using hl
    refine ⟨g, cap, cur.toList, rfl, hb, hh, fun j x hx => ?_⟩
    have hj : j < l.length := (List.getElem?_eq_some_iff.1 hx).1
    have e := congrArg (fun x : List Value => x[j]?) h6
    simp only [Nat.mul_one] at e
    rw [List.getElem?_take, if_pos (by omega)] at e
    have e2 : (ints l)[j]? = some (.int .i64 (x : Nat)) := by
      unfold ints
      rw [List.getElem?_map, hx]
      rfl
    rw [e2] at e
    exact e
/-- What the last region keeps: the numbers, and the block of the answer. -/
def PS (w0 : World) (b g : Nat) (CV : List Value) (x0 x1 x3 : Nat) (w : World) : Prop :=
  (Bk w g 3 CV.toArray ∧ Below b w0 w ∧ b ≤ w.heap.size ∧ ∃ A, Bk w b 23 A ∧ A.size = 4) ∧ w.there b 0 4 ∧ w.cell? ⟨g, 0, none⟩ = some (.int .i64 (x0 : Nat)) ∧ w.cell? ⟨g, 1, none⟩ = some (.int .i64 (x1 : Nat)) ∧ w.cell? ⟨g, 3, none⟩ = some (.int .i64 (x3 : Nat))
theorem ps_mk {w0 w : World} {b g : Nat} {CV : List Value} {x0 x1 x3 : Nat} {A : Array Value} (h0 : CV[0]? = some (Value.int .i64 (x0 : Nat))) (h1 : CV[1]? = some (Value.int .i64 (x1 : Nat))) (h3 : CV[3]? = some (Value.int .i64 (x3 : Nat))) (hg : Bk w g 3 CV.toArray) (hb : Below b w0 w) (hs : b ≤ w.heap.size) (hA : Bk w b 23 A) (hz : A.size = 4) :
    PS w0 b g CV x0 x1 x3 w := ⟨⟨hg, hb, hs, A, hA, hz⟩, hA.there 4 (by omega), hg.at h0, hg.at h1, hg.at h3⟩
theorem ps_sets {w0 w : World} {b g : Nat} {CV : List Value} {x0 x1 x3 : Nat} (h0 : CV[0]? = some (Value.int .i64 (x0 : Nat))) (h1 : CV[1]? = some (Value.int .i64 (x1 : Nat))) (h3 : CV[3]? = some (Value.int .i64 (x3 : Nat))) (hne : g ≠ b) (vs : List Value) (hl : vs.length = 4) (h : PS w0 b g CV x0 x1 x3 w) : PS w0 b g CV x0 x1 x3 (w.setCells b 0 vs) := by
  obtain ⟨⟨hg, hb, hs, A, hA, hz⟩, _⟩ := h
  have hk := Bk.sets vs 0 _ _ hA
  rw [puts_whole _ _ (by rw [hz]; exact hl)] at hk
  exact ps_mk h0 h1 h3 (hg.sets_other hne 0 vs) (below_sets vs (Nat.le_refl _) 0 _ hb) (by rw [size_sets]; exact hs) hk (by simpa using hl)
theorem ps_drew {w0 w : World} {b g : Nat} {CV : List Value} {x0 x1 x3 : Nat} (h : PS w0 b g CV x0 x1 x3 w) : PS w0 b g CV x0 x1 x3 w.drew := by
  obtain ⟨⟨hg, hb, hs, hA⟩, h2⟩ := h
  exact ⟨⟨hg, hb.drew, hs, hA⟩, h2⟩
theorem ps_stored {w0 w : World} {b g : Nat} {CV : List Value} {x0 x1 x3 : Nat} (vs : List Value) (hl : vs.length = 4) (h : PS w0 b g CV x0 x1 x3 w) : Bk (w.setCells b 0 vs) b 23 vs.toArray := by
  obtain ⟨⟨hg, hb, hs, A, hA, hz⟩, _⟩ := h
  have hk := Bk.sets vs 0 _ _ hA
  rw [puts_whole _ _ (by rw [hz]; exact hl)] at hk
  exact hk
set_option maxRecDepth 100000 in
theorem rparse_short (s : ByteArray) (w : World) (h : s.size < 8) :
    Calls Try.prog 14 #[.string s] w fun e w' => e = .returned (.tuple #[.agg dg0.vals.toArray, .int .i64 7]) ∧ Below w.heap.size w w' := by
  have hI : (s.size : Int) < 8 := by omega
  clear h
  go_enter Try.func14, Try.ntmps14
  go_wp2_with fail
  refine bodyPost_ret (v := .tuple #[.agg dg0.vals.toArray, .int .i64 7]) ?_ rfl ?_
  · simp [results, Try.results14, go_sem]
    rfl
  · exact ⟨rfl, (Below.refl _ _).alloc (Nat.le_refl _) _⟩
set_option maxRecDepth 100000 in
theorem rparse_form (s : ByteArray) (w : World) (h8 : ¬ s.size < 8) (hs : s.size ≤ 70000) (hc : wd s.data.toList 2 ≠ s.size) :
    Calls Try.prog 14 #[.string s] w fun e w' => e = .returned (.tuple #[.agg dg0.vals.toArray, .int .i64 8]) ∧ Below w.heap.size w w' := by
  have m : (((wd s.data.toList 2 : Nat) : Int) != ((s.size : Nat) : Int)) = true := by rw [bne_iff_ne]; omega
  have hI : ¬ (s.size : Int) < 8 := by omega
  have i8 : (8 : Int) ≤ (s.size : Int) := by omega
  have HW := Lib.hid (fun W => words_any (s.extract 0 8) W (by simp; omega))
  rw [head_words s (by omega)] at HW
  generalize wd s.data.toList 0 = x0 at *
  generalize wd s.data.toList 1 = x1 at *
  generalize wd s.data.toList 2 = x2 at *
  generalize wd s.data.toList 3 = x3 at *
  obtain ⟨A0, hA0⟩ : ∃ A0 : Array Value, A0 = dg0.vals.toArray := ⟨_, rfl⟩
  have hk0 : Bk (w.alloc (.cells #[.int .i64 0, .int .i64 0, .int .i64 0, .string ⟨#[]⟩] 23)) w.heap.size 23 A0 := by rw [hA0]; exact bk_new _ _ _
  have hb0 : Below w.heap.size w (w.alloc (.cells #[.int .i64 0, .int .i64 0, .int .i64 0, .string ⟨#[]⟩] 23)) := (Below.refl _ _).alloc (Nat.le_refl _) _
  have hs0 : (w.alloc (.cells #[.int .i64 0, .int .i64 0, .int .i64 0, .string ⟨#[]⟩] 23)).heap.size = w.heap.size + 1 := by simp
  generalize hw1 : w.alloc (.cells #[.int .i64 0, .int .i64 0, .int .i64 0, .string ⟨#[]⟩] 23) = w1 at *
  have HZ : Hid (A0.size = 4) := Lib.hid (by rw [hA0]; rfl)
  have HK0 := Lib.hid hk0
  have HB0 := Lib.hid hb0
  have HS0 := Lib.hid hs0
  clear hk0 hb0 hs0 hA0 h8 hs hc
  go_enter Try.func14, Try.ntmps14
  go_upto_region 1 with (fail)
  clear hw1
  go_wp2_with fail
  refine (HW.out _).mono ?_
  rintro e w2 ⟨v, rfl, hown, b2⟩
  obtain ⟨g, cap, CV, rfl, hg, hbk, hcv⟩ := own_nums (n := 4) hown (by omega)
  have e0 := hcv 0 x0 rfl
  have e1 := hcv 1 x1 rfl
  have e2 := hcv 2 x2 rfl
  have e3 := hcv 3 x3 rfl
  have HE := Lib.hid (And.intro e0 (And.intro e1 e3))
  have c2 := hbk.at e2
  have HK2 := Lib.hid (HK0.out.below b2 HK0.out.lt)
  have HB2 := Lib.hid (HB0.out.trans (b2.mono (by have := HS0.out; omega)))
  have HS2 := Lib.hid (Nat.le_trans (Nat.le_of_lt HK0.out.lt) b2.size)
  have HG := Lib.hid hbk
  have HNE := Lib.hid (show g ≠ w.heap.size by have := HS0.out; omega)
  clear hown b2 hg hbk hcv e0 e1 e2 e3 HK0 HB0 HW
  have ht : w2.there w.heap.size 0 4 := HK2.out.there 4 (by rw [HZ.out]; exact Nat.le_refl _)
  have HI : Hid ((Try.prog.info? 23).map (·.size) = some 4) := Lib.hid (Try.infoDg dg0)
  have HO : Hid (dg0.vals.toArray.all (·.oneCell') = true) := Lib.hid (dvals_one dg0)
  go_wp2_with (refine wpList_store_mid rfl 23 _ _ rfl w.heap.size 0 dg0.vals.toArray rfl rfl ht HI.out HO.out ?_)
  have hk5 := Bk.sets dg0.vals 0 _ _ HK2.out
  rw [puts_whole _ _ (by rw [HZ.out]; rfl)] at hk5
  refine bodyPost_ret (v := .tuple #[.agg dg0.vals.toArray, .int .i64 8]) ?_ rfl ?_
  · exact results_cell2 rfl rfl rfl (run_loadVar_mid _ w.heap.size 0 23 dg0.vals _ hk5.range Try.underlying23 rfl (Try.infoDg dg0))
  · exact ⟨rfl, below_sets _ (Nat.le_refl _) 0 _ HB2.out⟩
set_option maxRecDepth 100000 in
theorem rparse_ok (s : ByteArray) (w : World) (h8 : ¬ s.size < 8) (hs : s.size ≤ 70000) (hc : wd s.data.toList 2 = s.size) :
    Calls Try.prog 14 #[.string s] w fun e w' => e = .returned (.tuple #[.agg (dpkt s).vals.toArray, .int .i64 0]) ∧ Below w.heap.size w w' := by
  have m : (((wd s.data.toList 2 : Nat) : Int) != ((s.size : Nat) : Int)) = false := by rw [hc]; simp
  have HD : Hid ((dpkt s).vals = [.int .i64 (wd s.data.toList 0 : Nat), .int .i64 (wd s.data.toList 1 : Nat), .int .i64 (wd s.data.toList 3 : Nat), .string (s.extract 8 s.size)]) := Lib.hid rfl
  generalize dpkt s = Q at *
  have hI : ¬ (s.size : Int) < 8 := by omega
  have i8 : (8 : Int) ≤ (s.size : Int) := by omega
  have HW := Lib.hid (fun W => words_any (s.extract 0 8) W (by simp; omega))
  rw [head_words s (by omega)] at HW
  generalize wd s.data.toList 0 = x0 at *
  generalize wd s.data.toList 1 = x1 at *
  generalize wd s.data.toList 2 = x2 at *
  generalize wd s.data.toList 3 = x3 at *
  obtain ⟨A0, hA0⟩ : ∃ A0 : Array Value, A0 = dg0.vals.toArray := ⟨_, rfl⟩
  have hk0 : Bk (w.alloc (.cells #[.int .i64 0, .int .i64 0, .int .i64 0, .string ⟨#[]⟩] 23)) w.heap.size 23 A0 := by rw [hA0]; exact bk_new _ _ _
  have hb0 : Below w.heap.size w (w.alloc (.cells #[.int .i64 0, .int .i64 0, .int .i64 0, .string ⟨#[]⟩] 23)) := (Below.refl _ _).alloc (Nat.le_refl _) _
  have hs0 : (w.alloc (.cells #[.int .i64 0, .int .i64 0, .int .i64 0, .string ⟨#[]⟩] 23)).heap.size = w.heap.size + 1 := by simp
  generalize hw1 : w.alloc (.cells #[.int .i64 0, .int .i64 0, .int .i64 0, .string ⟨#[]⟩] 23) = w1 at *
  have HZ : Hid (A0.size = 4) := Lib.hid (by rw [hA0]; rfl)
  have HK0 := Lib.hid hk0
  have HB0 := Lib.hid hb0
  have HS0 := Lib.hid hs0
  clear hk0 hb0 hs0 hA0 h8 hs hc
  go_enter Try.func14, Try.ntmps14
  go_upto_region 1 with (fail)
  clear hw1
  go_wp2_with fail
  refine (HW.out _).mono ?_
  rintro e w2 ⟨v, rfl, hown, b2⟩
  obtain ⟨g, cap, CV, rfl, hg, hbk, hcv⟩ := own_nums (n := 4) hown (by omega)
  have e0 := hcv 0 x0 rfl
  have e1 := hcv 1 x1 rfl
  have e2 := hcv 2 x2 rfl
  have e3 := hcv 3 x3 rfl
  have HE := Lib.hid (And.intro e0 (And.intro e1 e3))
  have c2 := hbk.at e2
  have HK2 := Lib.hid (HK0.out.below b2 HK0.out.lt)
  have HB2 := Lib.hid (HB0.out.trans (b2.mono (by have := HS0.out; omega)))
  have HS2 := Lib.hid (Nat.le_trans (Nat.le_of_lt HK0.out.lt) b2.size)
  have HG := Lib.hid hbk
  have HNE := Lib.hid (show g ≠ w.heap.size by have := HS0.out; omega)
  clear hown b2 hg hbk hcv e0 e1 e2 e3 HK0 HB0 HW
  rw [show (Q.vals = [.int .i64 (x0 : Nat), .int .i64 (x1 : Nat), .int .i64 (x3 : Nat), .string (s.extract 8 s.size)]) = (Q.vals = [.int .i64 (x0 : Nat), .int .i64 (x1 : Nat), .int .i64 (x3 : Nat), .string (s.extract 8 s.size)]) from rfl] at HD
  have HI : Hid ((Try.prog.info? 23).map (·.size) = some ([.int .i64 (x0 : Nat), .int .i64 (x1 : Nat), .int .i64 (x3 : Nat), .string (s.extract 8 s.size)] : List Value).toArray.size) := Lib.hid (Try.infoDg dg0)
  have HO : Hid (([.int .i64 (x0 : Nat), .int .i64 (x1 : Nat), .int .i64 (x3 : Nat), .string (s.extract 8 s.size)] : List Value).toArray.all (·.oneCell') = true) := Lib.hid (by simp [Value.oneCell'])
  have HPS := Lib.hid (ps_mk (w0 := w) HE.out.1 HE.out.2.1 HE.out.2.2 HG.out HB2.out HS2.out HK2.out HZ.out)
  clear HK2 HB2 HG
  go_upto_region 6 with (fail)
  refine wp_region_noPanic ?_
  refine wp_region_held_drew (S := fun w' => (Bk w' g 3 CV.toArray ∧ Below w.heap.size w w' ∧ w.heap.size ≤ w'.heap.size ∧ ∃ A, Bk w' w.heap.size 23 A ∧ A.size = 4) ∧ w'.there w.heap.size 0 4 ∧ w'.cell? ⟨g, 0, none⟩ = some (.int .i64 (x0 : Nat)) ∧ w'.cell? ⟨g, 1, none⟩ = some (.int .i64 (x1 : Nat)) ∧ w'.cell? ⟨g, 3, none⟩ = some (.int .i64 (x3 : Nat))) (by kernel_rfl) (ps_drew HPS.out) (fun hHeld => ?_)
  refine wpAnyH_take (i := 0) (oi := { dst := some 19, op := Op.move (Operand.tmp 4), type := 66, pos := "ref.go:28", after := #[], guard := none }) (v := ?_) rfl (by kernel_rfl) (by kernel_rfl) (by kernel_rfl) (fun _ _ _ h => h) (Or.inl ⟨by rfl, ?_⟩) (by assumption) ?_
  rotate_left
  · (intro ww hSw; (try dsimp only at hSw); go_simp; try with_reducible rfl)
  (try simp only [Act.put, List.setIfInBounds_toArray, List.set_cons_zero, List.set_cons_succ])
  refine wpAnyH_take (i := 1) (oi := { dst := some 20, op := Op.indexAddr 66 (Operand.tmp 19) (Operand.const (Value.int IntKind.i64 0)), type := 0, pos := "ref.go:28", after := #[{ on := 0, ground := Ground.data }], guard := none }) (v := ?_) rfl (by kernel_rfl) (by kernel_rfl) (by kernel_rfl) (fun _ _ _ h => h) (Or.inl ⟨by rfl, ?_⟩) (by assumption) ?_
  rotate_left
  · (intro ww hSw; (try dsimp only at hSw); go_simp; try with_reducible rfl)
  (try simp only [Act.put, List.setIfInBounds_toArray, List.set_cons_zero, List.set_cons_succ])
  refine wpAnyH_take (i := 2) (oi := { dst := some 21, op := Op.load 3 (Operand.tmp 20), type := 3, pos := "ref.go:28", after := #[{ on := 1, ground := Ground.data }], guard := none }) (v := ?_) rfl (by kernel_rfl) (by kernel_rfl) (by kernel_rfl) (fun _ _ _ h => h) (Or.inl ⟨by rfl, ?_⟩) (by assumption) ?_
  rotate_left
  · (intro ww hSw; (try dsimp only at hSw); go_simp; try with_reducible rfl)
  (try simp only [Act.put, List.setIfInBounds_toArray, List.set_cons_zero, List.set_cons_succ])
  refine wpAnyH_take (i := 3) (oi := { dst := some 22, op := Op.move (Operand.tmp 4), type := 66, pos := "ref.go:28", after := #[], guard := none }) (v := ?_) rfl (by kernel_rfl) (by kernel_rfl) (by kernel_rfl) (fun _ _ _ h => h) (Or.inl ⟨by rfl, ?_⟩) (by assumption) ?_
  rotate_left
  · (intro ww hSw; (try dsimp only at hSw); go_simp; try with_reducible rfl)
  (try simp only [Act.put, List.setIfInBounds_toArray, List.set_cons_zero, List.set_cons_succ])
  refine wpAnyH_take (i := 4) (oi := { dst := some 23, op := Op.indexAddr 66 (Operand.tmp 22) (Operand.const (Value.int IntKind.i64 1)), type := 0, pos := "ref.go:28", after := #[{ on := 3, ground := Ground.data }], guard := none }) (v := ?_) rfl (by kernel_rfl) (by kernel_rfl) (by kernel_rfl) (fun _ _ _ h => h) (Or.inl ⟨by rfl, ?_⟩) (by assumption) ?_
  rotate_left
  · (intro ww hSw; (try dsimp only at hSw); go_simp; try with_reducible rfl)
  (try simp only [Act.put, List.setIfInBounds_toArray, List.set_cons_zero, List.set_cons_succ])
  refine wpAnyH_take (i := 5) (oi := { dst := some 24, op := Op.load 3 (Operand.tmp 23), type := 3, pos := "ref.go:28", after := #[{ on := 4, ground := Ground.data }], guard := none }) (v := ?_) rfl (by kernel_rfl) (by kernel_rfl) (by kernel_rfl) (fun _ _ _ h => h) (Or.inl ⟨by rfl, ?_⟩) (by assumption) ?_
  rotate_left
  · (intro ww hSw; (try dsimp only at hSw); go_simp; try with_reducible rfl)
  (try simp only [Act.put, List.setIfInBounds_toArray, List.set_cons_zero, List.set_cons_succ])
  refine wpAnyH_take (i := 6) (oi := { dst := some 25, op := Op.move (Operand.tmp 4), type := 66, pos := "ref.go:28", after := #[], guard := none }) (v := ?_) rfl (by kernel_rfl) (by kernel_rfl) (by kernel_rfl) (fun _ _ _ h => h) (Or.inl ⟨by rfl, ?_⟩) (by assumption) ?_
  rotate_left
  · (intro ww hSw; (try dsimp only at hSw); go_simp; try with_reducible rfl)
  (try simp only [Act.put, List.setIfInBounds_toArray, List.set_cons_zero, List.set_cons_succ])
  refine wpAnyH_take (i := 7) (oi := { dst := some 26, op := Op.indexAddr 66 (Operand.tmp 25) (Operand.const (Value.int IntKind.i64 3)), type := 0, pos := "ref.go:28", after := #[{ on := 6, ground := Ground.data }], guard := none }) (v := ?_) rfl (by kernel_rfl) (by kernel_rfl) (by kernel_rfl) (fun _ _ _ h => h) (Or.inl ⟨by rfl, ?_⟩) (by assumption) ?_
  rotate_left
  · (intro ww hSw; (try dsimp only at hSw); go_simp; try with_reducible rfl)
  (try simp only [Act.put, List.setIfInBounds_toArray, List.set_cons_zero, List.set_cons_succ])
  refine wpAnyH_take (i := 8) (oi := { dst := some 27, op := Op.load 3 (Operand.tmp 26), type := 3, pos := "ref.go:28", after := #[{ on := 7, ground := Ground.data }], guard := none }) (v := ?_) rfl (by kernel_rfl) (by kernel_rfl) (by kernel_rfl) (fun _ _ _ h => h) (Or.inl ⟨by rfl, ?_⟩) (by assumption) ?_
  rotate_left
  · (intro ww hSw; (try dsimp only at hSw); go_simp; try with_reducible rfl)
  (try simp only [Act.put, List.setIfInBounds_toArray, List.set_cons_zero, List.set_cons_succ])
  refine wpAnyH_take (i := 9) (oi := { dst := some 28, op := Op.move (Operand.tmp 0), type := 9, pos := "ref.go:28", after := #[], guard := none }) (v := ?_) rfl (by kernel_rfl) (by kernel_rfl) (by kernel_rfl) (fun _ _ _ h => h) (Or.inl ⟨by rfl, ?_⟩) (by assumption) ?_
  rotate_left
  · (intro ww hSw; (try dsimp only at hSw); go_simp; try with_reducible rfl)
  (try simp only [Act.put, List.setIfInBounds_toArray, List.set_cons_zero, List.set_cons_succ])
  refine wpAnyH_take (i := 10) (oi := { dst := some 29, op := Op.slice 9 (Operand.tmp 28) (some (Operand.const (Value.int IntKind.i64 8))) none none, type := 9, pos := "ref.go:28", after := #[{ on := 9, ground := Ground.data }], guard := none }) (v := ?_) rfl (by kernel_rfl) (by kernel_rfl) (by kernel_rfl) (fun _ _ _ h => h) (Or.inl ⟨by rfl, ?_⟩) (by assumption) ?_
  rotate_left
  · (intro ww hSw; (try dsimp only at hSw); go_simp; try with_reducible rfl)
  (try simp only [Act.put, List.setIfInBounds_toArray, List.set_cons_zero, List.set_cons_succ])
  refine wpAnyH_take (i := 11) (oi := { dst := some 30, op := Op.build 23 #[(0, Operand.tmp 21), (1, Operand.tmp 24), (2, Operand.tmp 27), (3, Operand.tmp 29)], type := 23, pos := "ref.go:28", after := #[{ on := 2, ground := Ground.data }, { on := 5, ground := Ground.data }, { on := 8, ground := Ground.data }, { on := 10, ground := Ground.data }], guard := none }) (v := ?_) rfl (by kernel_rfl) (by kernel_rfl) (by kernel_rfl) (fun _ _ _ h => h) (Or.inl ⟨by rfl, ?_⟩) (by assumption) ?_
  rotate_left
  · (intro ww hSw; (try dsimp only at hSw); go_simp; try with_reducible rfl)
  (try simp only [Act.put, List.setIfInBounds_toArray, List.set_cons_zero, List.set_cons_succ])
  refine wpAnyH_ready (rs := [12]) (by kernel_rfl) (by simp) ?_
  refine AllReadyH.cons (o := { dst := none, op := Op.store 23 (Operand.tmp 2) (Operand.tmp 30), type := 0, pos := "ref.go:28", after := #[{ on := 11, ground := Ground.data }, { on := 0, ground := Ground.phase }, { on := 1, ground := Ground.phase }, { on := 2, ground := Ground.phase }, { on := 3, ground := Ground.phase }, { on := 4, ground := Ground.phase }, { on := 5, ground := Ground.phase }, { on := 6, ground := Ground.phase }, { on := 7, ground := Ground.phase }, { on := 8, ground := Ground.phase }, { on := 9, ground := Ground.phase }, { on := 10, ground := Ground.phase }, { on := 11, ground := Ground.phase }], guard := none }) rfl (fun K hK => ?_) AllReadyH.nil
  rw [if_pos (by rfl)]
  have hvl := ps_stored ([.int .i64 (x0 : Nat), .int .i64 (x1 : Nat), .int .i64 (x3 : Nat), .string (s.extract 8 s.size)] : List Value) rfl hHeld
  refine wp_store_mid 23 _ _ rfl w.heap.size 0 ([.int .i64 (x0 : Nat), .int .i64 (x1 : Nat), .int .i64 (x3 : Nat), .string (s.extract 8 s.size)] : List Value).toArray rfl rfl hHeld.2.1 HI.out HO.out ?_
  refine hK.out _ _ (ps_sets HE.out.1 HE.out.2.1 HE.out.2.2 HNE.out ([.int .i64 (x0 : Nat), .int .i64 (x1 : Nat), .int .i64 (x3 : Nat), .string (s.extract 8 s.size)] : List Value) rfl hHeld) (fun hHeld => ?_)
  clear hK K
  (try simp only [Act.put])
  refine wpAnyH_take (i := 13) (oi := { dst := some 3, op := Op.assign (Operand.const (Value.int IntKind.i64 0)), type := 3, pos := "ref.go:28", after := #[{ on := 12, ground := Ground.chain }, { on := 0, ground := Ground.phase }, { on := 1, ground := Ground.phase }, { on := 2, ground := Ground.phase }, { on := 3, ground := Ground.phase }, { on := 4, ground := Ground.phase }, { on := 5, ground := Ground.phase }, { on := 6, ground := Ground.phase }, { on := 7, ground := Ground.phase }, { on := 8, ground := Ground.phase }, { on := 9, ground := Ground.phase }, { on := 10, ground := Ground.phase }, { on := 11, ground := Ground.phase }, { on := 12, ground := Ground.phase }], guard := none }) (v := ?_) rfl (by kernel_rfl) (by kernel_rfl) (by kernel_rfl) (fun _ _ _ h => h) (Or.inl ⟨by rfl, ?_⟩) (by assumption) ?_
  rotate_left
  · (intro ww hSw; (try dsimp only at hSw); go_simp; try with_reducible rfl)
  (try simp only [Act.put, List.setIfInBounds_toArray, List.set_cons_zero, List.set_cons_succ])
  refine wpAnyH_done (by kernel_rfl) ?_ _
  refine NoPanic.normal ?_
  have hbl := Lib.hid (And.left hHeld).2.1
  have HVL := Lib.hid hvl
  clear hHeld hvl
  go_wp2_with fail
  refine bodyPost_ret (v := .tuple #[.agg ([.int .i64 (x0 : Nat), .int .i64 (x1 : Nat), .int .i64 (x3 : Nat), .string (s.extract 8 s.size)] : List Value).toArray, .int .i64 0]) ?_ rfl ?_
  · exact results_cell2 rfl rfl rfl (run_loadVar_mid _ w.heap.size 0 23 [.int .i64 (x0 : Nat), .int .i64 (x1 : Nat), .int .i64 (x3 : Nat), .string (s.extract 8 s.size)] _ HVL.out.range Try.underlying23 rfl HI.out)
  · exact ⟨by rw [HD.out], hbl.out⟩
theorem rparse_any (s : ByteArray) (w : World) (hs : s.size ≤ 70000) :
    Calls Try.prog 14 #[.string s] w fun e w' => e = .returned (.tuple #[.agg (dans s).vals.toArray, .int .i64 (dcode s)]) ∧ Below w.heap.size w w' := by
  unfold dans
  by_cases h8 : s.size < 8
  · have e : dcode s = 7 := by unfold dcode; rw [if_pos h8]
    rw [e, if_neg (by decide)]
    exact rparse_short s w h8
  · by_cases hc : wd s.data.toList 2 = s.size
    · have e : dcode s = 0 := by unfold dcode; rw [if_neg h8, if_neg (fun h => h hc)]
      rw [e, if_pos rfl]
      exact rparse_ok s w h8 hs hc
    · have e : dcode s = 8 := by unfold dcode; rw [if_neg h8, if_pos hc]
      rw [e, if_neg (by decide)]
      exact rparse_form s w h8 hs hc
end Go.Proofs.Ytiemapkajpfikaa
