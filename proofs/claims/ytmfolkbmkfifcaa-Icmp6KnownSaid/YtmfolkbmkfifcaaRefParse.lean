/-
  Proved here: what the document's Parse answers.
  Conditions: texts of at most 78000 bytes, heads of at most 1000.
-/
import Derived.Test.YtmfolkbmkfifcaaMs
namespace Go.Proofs.Ytmfolkbmkfifcaa
open Go.RowKit

theorem own_nums {w : World} {base n : Nat} {v : Value} {l : List Nat} (h : w.ownsRow base 3 1 v n (ints l)) (hn : 0 < n) :
    ∃ (g cap : Nat) (CV : List Value), v = .slice (some ⟨g, 0, none⟩) n cap ∧ base ≤ g ∧ Bk w g 3 CV.toArray ∧ ∀ (j x : Nat), l[j]? = some x → CV[j]? = some (Value.int .i64 (x : Nat)) := by
  obtain ⟨hl, ⟨_, h0⟩ | ⟨g, cap, cur, rfl, hb, hh, h3, h4, h5, h6⟩⟩ := h
  · omega
  · have hll : l.length = n := by simpa [ints] using hl
    refine ⟨g, cap, cur.toList, rfl, hb, hh, fun j x hx => ?_⟩
    have hj : j < l.length := (List.getElem?_eq_some_iff.1 hx).1
    have e := congrArg (fun x : List Value => x[j]?) h6
    simp only [Nat.mul_one] at e
    rw [List.getElem?_take, if_pos (by omega)] at e
    have e2 : (ints l)[j]? = some (.int .i64 (x : Nat)) := by
      unfold ints
      rw [List.getElem?_map, hx]
      rfl
    rw [e2] at e
    exact e
/-- What the last region keeps: the numbers, and the block of the answer. -/
def PS (w0 : World) (b g : Nat) (CV : List Value) (x0 x2 x3 : Nat) (w : World) : Prop :=
  (Bk w g 3 CV.toArray ∧ Below b w0 w ∧ b ≤ w.heap.size ∧ ∃ A, Bk w b 26 A ∧ A.size = 4) ∧ w.there b 0 4 ∧ w.cell? ⟨g, 0, none⟩ = some (.int .i64 (x0 : Nat)) ∧ w.cell? ⟨g, 2, none⟩ = some (.int .i64 (x2 : Nat)) ∧ w.cell? ⟨g, 3, none⟩ = some (.int .i64 (x3 : Nat))
section
variable {w0 w : World} {b g : Nat} {CV : List Value} {x0 x2 x3 : Nat} (h0 : CV[0]? = some (Value.int .i64 (x0 : Nat))) (h2 : CV[2]? = some (Value.int .i64 (x2 : Nat))) (h3 : CV[3]? = some (Value.int .i64 (x3 : Nat)))
include h0 h2 h3
theorem ps_mk {A : Array Value} (hg : Bk w g 3 CV.toArray) (hb : Below b w0 w) (hs : b ≤ w.heap.size) (hA : Bk w b 26 A) (hz : A.size = 4) :
    PS w0 b g CV x0 x2 x3 w := ⟨⟨hg, hb, hs, A, hA, hz⟩, hA.there 4 (by omega), hg.at h0, hg.at h2, hg.at h3⟩
theorem ps_sets (hne : g ≠ b) (vs : List Value) (hl : vs.length = 4) (h : PS w0 b g CV x0 x2 x3 w) : PS w0 b g CV x0 x2 x3 (w.setCells b 0 vs) := by
  obtain ⟨⟨hg, hb, hs, A, hA, hz⟩, _⟩ := h
  have hk := Bk.sets vs 0 _ _ hA
  rw [puts_whole _ _ (by rw [hz]; exact hl)] at hk
  exact ps_mk h0 h2 h3 (hg.sets_other hne 0 vs) (below_sets vs (Nat.le_refl _) 0 _ hb) (by rw [size_sets]; exact hs) hk (by simpa using hl)
end
theorem ps_drew {w0 w : World} {b g : Nat} {CV : List Value} {x0 x2 x3 : Nat} (h : PS w0 b g CV x0 x2 x3 w) : PS w0 b g CV x0 x2 x3 w.drew := by
  obtain ⟨⟨hg, hb, hs, hA⟩, h2⟩ := h
  exact ⟨⟨hg, hb.drew, hs, hA⟩, h2⟩
theorem ps_stored {w0 w : World} {b g : Nat} {CV : List Value} {x0 x2 x3 : Nat} (vs : List Value) (hl : vs.length = 4) (h : PS w0 b g CV x0 x2 x3 w) : Bk (w.setCells b 0 vs) b 26 vs.toArray := by
  obtain ⟨⟨hg, hb, hs, A, hA, hz⟩, _⟩ := h
  have hk := Bk.sets vs 0 _ _ hA
  rw [puts_whole _ _ (by rw [hz]; exact hl)] at hk
  exact hk
set_option maxRecDepth 100000 in
theorem rparse_short (ps s : ByteArray) (w : World) (h : s.size < 8) :
    Calls Try.prog 17 #[.string ps, .string s] w fun e w' => e = .returned (.tuple #[.agg ms0.vals.toArray, .int .i64 7]) ∧ Below w.heap.size w w' := by
  have hI : (s.size : Int) < 8 := by omega
  clear h
  go_enter Try.func17, Try.ntmps17
  go_wp2_with fail
  refine bodyPost_ret (v := .tuple #[.agg ms0.vals.toArray, .int .i64 7]) ?_ rfl ?_
  · simp [results, Try.results17, go_sem]
    rfl
  · exact ⟨rfl, (Below.refl _ _).alloc (Nat.le_refl _) _⟩
set_option maxRecDepth 100000 in
set_option maxHeartbeats 400000 in
theorem rparse_sum (ps s : ByteArray) (w : World) (hs : s.size ≤ 78000) (hp : ps.size ≤ 1000) (h8 : ¬ s.size < 8) (hn : sumL (ps ++ s).data.toList ≠ 0) :
    Calls Try.prog 17 #[.string ps, .string s] w fun e w' => e = .returned (.tuple #[.agg ms0.vals.toArray, .int .i64 9]) ∧ Below w.heap.size w w' := by
  have hI : ¬ (s.size : Int) < 8 := by omega
  have zo : ¬ 9223372036854775807 < ps.size + s.size := by omega
  have HO := Lib.hid (fun W => rof_any (ps ++ s) W (by rw [dcat_len]; omega))
  have m : (((sumL (ps ++ s).data.toList : Nat) : Int) != 0) = true := by rw [bne_iff_ne]; omega
  clear hs hp h8 hn
  generalize sumL (ps ++ s).data.toList = n at *
  have HZ0 := Lib.hid (bk_new w 26 ms0.vals.toArray)
  have HBz := Lib.hid (show Below w.heap.size w (w.alloc (.cells ms0.vals.toArray 26)) from (Below.refl _ _).alloc (Nat.le_refl _) _)
  have HI : Hid ((Try.prog.info? 26).map (·.size) = some 4) := Lib.hid (Try.infoMs ms0)
  have HOn : Hid (ms0.vals.toArray.all (·.oneCell') = true) := Lib.hid (mvals_one ms0)
  go_enter Try.func17, Try.ntmps17
  go_wp2_with fail
  refine (HO.out _).mono ?_
  rintro e w1 ⟨rfl, b1⟩
  have hk1 : Bk w1 w.heap.size 26 ms0.vals.toArray := HZ0.out.below b1 HZ0.out.lt
  have hb1 : Below w.heap.size w w1 := HBz.out.trans (b1.mono (by simp))
  have ht := hk1.there 4 (Nat.le_refl _)
  have HK := Lib.hid hk1
  have HB := Lib.hid hb1
  clear b1 hk1 hb1 HZ0 HBz HO
  go_wp2_with (refine wpList_store_mid rfl 26 _ _ rfl w.heap.size 0 ms0.vals.toArray rfl rfl ht HI.out HOn.out ?_)
  have hk5 := Bk.sets ms0.vals 0 _ _ HK.out
  rw [puts_whole ms0.vals.toArray ms0.vals rfl] at hk5
  refine bodyPost_ret (v := .tuple #[.agg ms0.vals.toArray, .int .i64 9]) ?_ rfl ⟨rfl, below_sets _ (Nat.le_refl _) 0 _ HB.out⟩
  exact results_cell2 rfl rfl rfl (run_loadVar_mid _ w.heap.size 0 26 ms0.vals _ hk5.range Try.underlying26 rfl HI.out)
set_option maxRecDepth 100000 in
set_option maxHeartbeats 1000000 in
theorem rparse_ok (ps s : ByteArray) (w : World) (hs : s.size ≤ 78000) (hp : ps.size ≤ 1000) (h8 : ¬ s.size < 8) (hn : sumL (ps ++ s).data.toList = 0) :
    Calls Try.prog 17 #[.string ps, .string s] w fun e w' => e = .returned (.tuple #[.agg (mpkt s).vals.toArray, .int .i64 0]) ∧ Below w.heap.size w w' := by
  have hI : ¬ (s.size : Int) < 8 := by omega
  have i8 : (8 : Int) ≤ (s.size : Int) := by omega
  have zo : ¬ 9223372036854775807 < ps.size + s.size := by omega
  have HO := Lib.hid (fun W => rof_any (ps ++ s) W (by rw [dcat_len]; omega))
  rw [hn] at HO
  have HW := Lib.hid (fun W => words_any (s.extract 0 8) W (by simp; omega))
  rw [head_words s (by omega)] at HW
  have l0 := wd_le s.data.toList 0
  have l2 := wd_le s.data.toList 2
  have l3 := wd_le s.data.toList 3
  have HD : Hid ((mpkt s).vals = [.int .i64 (wd s.data.toList 0 / 256 : Nat), .int .i64 (wd s.data.toList 0 % 256 : Nat), .int .u32 (wd s.data.toList 2 * 65536 + wd s.data.toList 3 : Nat), .string (s.extract 8 s.size)]) := Lib.hid rfl
  generalize mpkt s = Q at *
  clear hs hp h8 hn
  generalize wd s.data.toList 0 = x0 at *
  generalize wd s.data.toList 1 = x1 at *
  generalize wd s.data.toList 2 = x2 at *
  generalize wd s.data.toList 3 = x3 at *
  have k1 : ((x0 : Nat) : Int).tdiv 256 = ((x0 / 256 : Nat) : Int) := by rw [Int.tdiv_eq_ediv_of_nonneg (by omega)]; omega
  have k2 : IntKind.i64.wrap ((x0 / 256 : Nat) : Int) = ((x0 / 256 : Nat) : Int) := IntWalk.i64_in _ (by omega)
  have k3 : ((x0 : Nat) : Int).tmod 256 = ((x0 % 256 : Nat) : Int) := by rw [Int.tmod_eq_emod_of_nonneg (by omega)]; omega
  have k4 : IntKind.i64.wrap ((x0 % 256 : Nat) : Int) = ((x0 % 256 : Nat) : Int) := IntWalk.i64_in _ (by omega)
  have k5 : IntKind.u32.wrap ((x2 : Nat) : Int) = ((x2 : Nat) : Int) := IntWalk.u32_in _ (by omega)
  have k6 : IntKind.u32.wrap (((x2 : Nat) : Int) * 65536) = ((x2 : Nat) : Int) * 65536 := IntWalk.u32_in _ (by omega)
  have k7 : IntKind.u32.wrap ((x3 : Nat) : Int) = ((x3 : Nat) : Int) := IntWalk.u32_in _ (by omega)
  have k8 : IntKind.u32.wrap (((x2 : Nat) : Int) * 65536 + ((x3 : Nat) : Int)) = ((x2 * 65536 + x3 : Nat) : Int) := by rw [IntWalk.u32_in _ (by omega)]; omega
  obtain ⟨y0, hy0⟩ : ∃ y, y = x0 / 256 := ⟨_, rfl⟩
  obtain ⟨y1, hy1⟩ : ∃ y, y = x0 % 256 := ⟨_, rfl⟩
  obtain ⟨y2, hy2⟩ : ∃ y, y = x2 * 65536 + x3 := ⟨_, rfl⟩
  rw [← hy0] at k1 k2 HD
  rw [← hy1] at k3 k4 HD
  rw [← hy2] at k8 HD
  clear hy0 hy1 hy2 l0 l2 l3
  obtain ⟨D, hD⟩ : ∃ D, s.extract 8 s.size = D := ⟨_, rfl⟩
  rw [hD] at HD
  obtain ⟨A0, hA0⟩ : ∃ A0 : Array Value, A0 = ms0.vals.toArray := ⟨_, rfl⟩
  have hk0 : Bk (w.alloc (.cells #[.int .i64 0, .int .i64 0, .int .u32 0, .string ⟨#[]⟩] 26)) w.heap.size 26 A0 := by rw [hA0]; exact bk_new _ _ _
  have hb0 : Below w.heap.size w (w.alloc (.cells #[.int .i64 0, .int .i64 0, .int .u32 0, .string ⟨#[]⟩] 26)) := (Below.refl _ _).alloc (Nat.le_refl _) _
  have hs0 : (w.alloc (.cells #[.int .i64 0, .int .i64 0, .int .u32 0, .string ⟨#[]⟩] 26)).heap.size = w.heap.size + 1 := by simp
  generalize hw1 : w.alloc (.cells #[.int .i64 0, .int .i64 0, .int .u32 0, .string ⟨#[]⟩] 26) = w1 at *
  have HZ : Hid (A0.size = 4) := Lib.hid (by rw [hA0]; rfl)
  have HK0 := Lib.hid hk0
  have HB0 := Lib.hid hb0
  have HS0 := Lib.hid hs0
  clear hk0 hb0 hs0 hA0
  go_enter Try.func17, Try.ntmps17
  go_upto_region 1 with (fail)
  clear hw1
  go_wp2_with fail
  refine (HO.out _).mono ?_
  rintro e w1b ⟨rfl, b1⟩
  have HK1 := Lib.hid (HK0.out.below b1 HK0.out.lt)
  have HB1 := Lib.hid (HB0.out.trans (b1.mono (by have := HS0.out; omega)))
  have HS1 := Lib.hid (show w.heap.size + 1 ≤ w1b.heap.size from by have := HS0.out; have := b1.size; omega)
  clear b1 HK0 HB0 HS0 HO
  go_wp2_with fail
  refine (HW.out _).mono ?_
  rintro e w2 ⟨v, rfl, hown, b2⟩
  obtain ⟨g, cap, CV, rfl, hg, hbk, hcv⟩ := own_nums (n := 4) hown (by omega)
  have e0 := hcv 0 x0 rfl
  have e2 := hcv 2 x2 rfl
  have e3 := hcv 3 x3 rfl
  have HE := Lib.hid (And.intro e0 (And.intro e2 e3))
  have HK2 := Lib.hid (HK1.out.below b2 HK1.out.lt)
  have HB2 := Lib.hid (HB1.out.trans (b2.mono (by have := HS1.out; omega)))
  have HS2 := Lib.hid (Nat.le_trans (Nat.le_of_lt HK1.out.lt) b2.size)
  have HG := Lib.hid hbk
  have HNE := Lib.hid (show g ≠ w.heap.size by have := HS1.out; omega)
  clear hown b2 hg hbk hcv e0 e2 e3 HK1 HB1 HW
  have HI : Hid ((Try.prog.info? 26).map (·.size) = some ([.int .i64 (y0 : Nat), .int .i64 (y1 : Nat), .int .u32 (y2 : Nat), .string D] : List Value).toArray.size) := Lib.hid (Try.infoMs ms0)
  have HOn : Hid (([.int .i64 (y0 : Nat), .int .i64 (y1 : Nat), .int .u32 (y2 : Nat), .string D] : List Value).toArray.all (·.oneCell') = true) := Lib.hid (by simp [Value.oneCell'])
  have HPS := Lib.hid (ps_mk (w0 := w) HE.out.1 HE.out.2.1 HE.out.2.2 HG.out HB2.out HS2.out HK2.out HZ.out)
  clear HK2 HB2 HG
  go_upto_region 6 with (fail)
  clear zo hI
  refine wp_region_noPanic ?_
  refine wp_region_held_drew (S := fun w' => (Bk w' g 3 CV.toArray ∧ Below w.heap.size w w' ∧ w.heap.size ≤ w'.heap.size ∧ ∃ A, Bk w' w.heap.size 26 A ∧ A.size = 4) ∧ w'.there w.heap.size 0 4 ∧ w'.cell? ⟨g, 0, none⟩ = some (.int .i64 (x0 : Nat)) ∧ w'.cell? ⟨g, 2, none⟩ = some (.int .i64 (x2 : Nat)) ∧ w'.cell? ⟨g, 3, none⟩ = some (.int .i64 (x3 : Nat))) (by kernel_rfl) (ps_drew HPS.out) (fun hHeld => ?_)
  refine wpAnyH_take (i := 0) (oi := { dst := some 20, op := Op.move (Operand.tmp 6), type := 64, pos := "ref.go:25", after := #[], guard := none }) (v := ?_) rfl (by kernel_rfl) (by kernel_rfl) (by kernel_rfl) (fun _ _ _ h => h) (Or.inl ⟨by rfl, ?_⟩) (by assumption) ?_
  rotate_left
  · (intro ww hSw; (try dsimp only at hSw); go_simp; try with_reducible rfl)
  (try simp only [Act.put, List.setIfInBounds_toArray, List.set_cons_zero, List.set_cons_succ])
  refine wpAnyH_take (i := 1) (oi := { dst := some 21, op := Op.indexAddr 64 (Operand.tmp 20) (Operand.const (Value.int IntKind.i64 0)), type := 0, pos := "ref.go:25", after := #[{ on := 0, ground := Ground.data }], guard := none }) (v := ?_) rfl (by kernel_rfl) (by kernel_rfl) (by kernel_rfl) (fun _ _ _ h => h) (Or.inl ⟨by rfl, ?_⟩) (by assumption) ?_
  rotate_left
  · (intro ww hSw; (try dsimp only at hSw); go_simp; try with_reducible rfl)
  (try simp only [Act.put, List.setIfInBounds_toArray, List.set_cons_zero, List.set_cons_succ])
  refine wpAnyH_take (i := 2) (oi := { dst := some 22, op := Op.load 3 (Operand.tmp 21), type := 3, pos := "ref.go:25", after := #[{ on := 1, ground := Ground.data }], guard := none }) (v := ?_) rfl (by kernel_rfl) (by kernel_rfl) (by kernel_rfl) (fun _ _ _ h => h) (Or.inl ⟨by rfl, ?_⟩) (by assumption) ?_
  rotate_left
  · (intro ww hSw; (try dsimp only at hSw); go_simp; try with_reducible rfl)
  (try simp only [Act.put, List.setIfInBounds_toArray, List.set_cons_zero, List.set_cons_succ])
  refine wpAnyH_take (i := 3) (oi := { dst := some 23, op := Op.binOp BinOp.quo 3 (Operand.tmp 22) (Operand.const (Value.int IntKind.i64 256)) 3, type := 3, pos := "ref.go:25", after := #[{ on := 2, ground := Ground.data }], guard := none }) (v := ?_) rfl (by kernel_rfl) (by kernel_rfl) (by kernel_rfl) (fun _ _ _ h => h) (Or.inl ⟨by rfl, ?_⟩) (by assumption) ?_
  rotate_left
  · (intro ww hSw; (try dsimp only at hSw); go_simp; try with_reducible rfl)
  (try simp only [Act.put, List.setIfInBounds_toArray, List.set_cons_zero, List.set_cons_succ])
  refine wpAnyH_take (i := 4) (oi := { dst := some 24, op := Op.move (Operand.tmp 6), type := 64, pos := "ref.go:25", after := #[], guard := none }) (v := ?_) rfl (by kernel_rfl) (by kernel_rfl) (by kernel_rfl) (fun _ _ _ h => h) (Or.inl ⟨by rfl, ?_⟩) (by assumption) ?_
  rotate_left
  · (intro ww hSw; (try dsimp only at hSw); go_simp; try with_reducible rfl)
  (try simp only [Act.put, List.setIfInBounds_toArray, List.set_cons_zero, List.set_cons_succ])
  refine wpAnyH_take (i := 5) (oi := { dst := some 25, op := Op.indexAddr 64 (Operand.tmp 24) (Operand.const (Value.int IntKind.i64 0)), type := 0, pos := "ref.go:25", after := #[{ on := 4, ground := Ground.data }], guard := none }) (v := ?_) rfl (by kernel_rfl) (by kernel_rfl) (by kernel_rfl) (fun _ _ _ h => h) (Or.inl ⟨by rfl, ?_⟩) (by assumption) ?_
  rotate_left
  · (intro ww hSw; (try dsimp only at hSw); go_simp; try with_reducible rfl)
  (try simp only [Act.put, List.setIfInBounds_toArray, List.set_cons_zero, List.set_cons_succ])
  refine wpAnyH_take (i := 6) (oi := { dst := some 26, op := Op.load 3 (Operand.tmp 25), type := 3, pos := "ref.go:25", after := #[{ on := 5, ground := Ground.data }], guard := none }) (v := ?_) rfl (by kernel_rfl) (by kernel_rfl) (by kernel_rfl) (fun _ _ _ h => h) (Or.inl ⟨by rfl, ?_⟩) (by assumption) ?_
  rotate_left
  · (intro ww hSw; (try dsimp only at hSw); go_simp; try with_reducible rfl)
  (try simp only [Act.put, List.setIfInBounds_toArray, List.set_cons_zero, List.set_cons_succ])
  refine wpAnyH_take (i := 7) (oi := { dst := some 27, op := Op.binOp BinOp.rem 3 (Operand.tmp 26) (Operand.const (Value.int IntKind.i64 256)) 3, type := 3, pos := "ref.go:25", after := #[{ on := 6, ground := Ground.data }], guard := none }) (v := ?_) rfl (by kernel_rfl) (by kernel_rfl) (by kernel_rfl) (fun _ _ _ h => h) (Or.inl ⟨by rfl, ?_⟩) (by assumption) ?_
  rotate_left
  · (intro ww hSw; (try dsimp only at hSw); go_simp; try with_reducible rfl)
  (try simp only [Act.put, List.setIfInBounds_toArray, List.set_cons_zero, List.set_cons_succ])
  refine wpAnyH_take (i := 8) (oi := { dst := some 28, op := Op.move (Operand.tmp 6), type := 64, pos := "ref.go:25", after := #[], guard := none }) (v := ?_) rfl (by kernel_rfl) (by kernel_rfl) (by kernel_rfl) (fun _ _ _ h => h) (Or.inl ⟨by rfl, ?_⟩) (by assumption) ?_
  rotate_left
  · (intro ww hSw; (try dsimp only at hSw); go_simp; try with_reducible rfl)
  (try simp only [Act.put, List.setIfInBounds_toArray, List.set_cons_zero, List.set_cons_succ])
  refine wpAnyH_take (i := 9) (oi := { dst := some 29, op := Op.indexAddr 64 (Operand.tmp 28) (Operand.const (Value.int IntKind.i64 2)), type := 0, pos := "ref.go:25", after := #[{ on := 8, ground := Ground.data }], guard := none }) (v := ?_) rfl (by kernel_rfl) (by kernel_rfl) (by kernel_rfl) (fun _ _ _ h => h) (Or.inl ⟨by rfl, ?_⟩) (by assumption) ?_
  rotate_left
  · (intro ww hSw; (try dsimp only at hSw); go_simp; try with_reducible rfl)
  (try simp only [Act.put, List.setIfInBounds_toArray, List.set_cons_zero, List.set_cons_succ])
  refine wpAnyH_take (i := 10) (oi := { dst := some 30, op := Op.load 3 (Operand.tmp 29), type := 3, pos := "ref.go:25", after := #[{ on := 9, ground := Ground.data }], guard := none }) (v := ?_) rfl (by kernel_rfl) (by kernel_rfl) (by kernel_rfl) (fun _ _ _ h => h) (Or.inl ⟨by rfl, ?_⟩) (by assumption) ?_
  rotate_left
  · (intro ww hSw; (try dsimp only at hSw); go_simp; try with_reducible rfl)
  (try simp only [Act.put, List.setIfInBounds_toArray, List.set_cons_zero, List.set_cons_succ])
  refine wpAnyH_take (i := 11) (oi := { dst := some 31, op := Op.convert 3 24 (Operand.tmp 30), type := 24, pos := "ref.go:25", after := #[{ on := 10, ground := Ground.data }], guard := none }) (v := ?_) rfl (by kernel_rfl) (by kernel_rfl) (by kernel_rfl) (fun _ _ _ h => h) (Or.inl ⟨by rfl, ?_⟩) (by assumption) ?_
  rotate_left
  · (intro ww hSw; (try dsimp only at hSw); go_simp; try with_reducible rfl)
  (try simp only [Act.put, List.setIfInBounds_toArray, List.set_cons_zero, List.set_cons_succ])
  refine wpAnyH_take (i := 12) (oi := { dst := some 32, op := Op.binOp BinOp.mul 24 (Operand.tmp 31) (Operand.const (Value.int IntKind.u32 65536)) 24, type := 24, pos := "ref.go:25", after := #[{ on := 11, ground := Ground.data }], guard := none }) (v := ?_) rfl (by kernel_rfl) (by kernel_rfl) (by kernel_rfl) (fun _ _ _ h => h) (Or.inl ⟨by rfl, ?_⟩) (by assumption) ?_
  rotate_left
  · (intro ww hSw; (try dsimp only at hSw); go_simp; try with_reducible rfl)
  (try simp only [Act.put, List.setIfInBounds_toArray, List.set_cons_zero, List.set_cons_succ])
  refine wpAnyH_take (i := 13) (oi := { dst := some 33, op := Op.move (Operand.tmp 6), type := 64, pos := "ref.go:25", after := #[], guard := none }) (v := ?_) rfl (by kernel_rfl) (by kernel_rfl) (by kernel_rfl) (fun _ _ _ h => h) (Or.inl ⟨by rfl, ?_⟩) (by assumption) ?_
  rotate_left
  · (intro ww hSw; (try dsimp only at hSw); go_simp; try with_reducible rfl)
  (try simp only [Act.put, List.setIfInBounds_toArray, List.set_cons_zero, List.set_cons_succ])
  refine wpAnyH_take (i := 14) (oi := { dst := some 34, op := Op.indexAddr 64 (Operand.tmp 33) (Operand.const (Value.int IntKind.i64 3)), type := 0, pos := "ref.go:25", after := #[{ on := 13, ground := Ground.data }], guard := none }) (v := ?_) rfl (by kernel_rfl) (by kernel_rfl) (by kernel_rfl) (fun _ _ _ h => h) (Or.inl ⟨by rfl, ?_⟩) (by assumption) ?_
  rotate_left
  · (intro ww hSw; (try dsimp only at hSw); go_simp; try with_reducible rfl)
  (try simp only [Act.put, List.setIfInBounds_toArray, List.set_cons_zero, List.set_cons_succ])
  refine wpAnyH_take (i := 15) (oi := { dst := some 35, op := Op.load 3 (Operand.tmp 34), type := 3, pos := "ref.go:25", after := #[{ on := 14, ground := Ground.data }], guard := none }) (v := ?_) rfl (by kernel_rfl) (by kernel_rfl) (by kernel_rfl) (fun _ _ _ h => h) (Or.inl ⟨by rfl, ?_⟩) (by assumption) ?_
  rotate_left
  · (intro ww hSw; (try dsimp only at hSw); go_simp; try with_reducible rfl)
  (try simp only [Act.put, List.setIfInBounds_toArray, List.set_cons_zero, List.set_cons_succ])
  refine wpAnyH_take (i := 16) (oi := { dst := some 36, op := Op.convert 3 24 (Operand.tmp 35), type := 24, pos := "ref.go:25", after := #[{ on := 15, ground := Ground.data }], guard := none }) (v := ?_) rfl (by kernel_rfl) (by kernel_rfl) (by kernel_rfl) (fun _ _ _ h => h) (Or.inl ⟨by rfl, ?_⟩) (by assumption) ?_
  rotate_left
  · (intro ww hSw; (try dsimp only at hSw); go_simp; try with_reducible rfl)
  (try simp only [Act.put, List.setIfInBounds_toArray, List.set_cons_zero, List.set_cons_succ])
  refine wpAnyH_take (i := 17) (oi := { dst := some 37, op := Op.binOp BinOp.add 24 (Operand.tmp 32) (Operand.tmp 36) 24, type := 24, pos := "ref.go:25", after := #[{ on := 12, ground := Ground.data }, { on := 16, ground := Ground.data }], guard := none }) (v := ?_) rfl (by kernel_rfl) (by kernel_rfl) (by kernel_rfl) (fun _ _ _ h => h) (Or.inl ⟨by rfl, ?_⟩) (by assumption) ?_
  rotate_left
  · (intro ww hSw; (try dsimp only at hSw); go_simp; try with_reducible rfl)
  (try simp only [Act.put, List.setIfInBounds_toArray, List.set_cons_zero, List.set_cons_succ])
  refine wpAnyH_take (i := 18) (oi := { dst := some 38, op := Op.move (Operand.tmp 1), type := 9, pos := "ref.go:25", after := #[], guard := none }) (v := ?_) rfl (by kernel_rfl) (by kernel_rfl) (by kernel_rfl) (fun _ _ _ h => h) (Or.inl ⟨by rfl, ?_⟩) (by assumption) ?_
  rotate_left
  · (intro ww hSw; (try dsimp only at hSw); go_simp; try with_reducible rfl)
  (try simp only [Act.put, List.setIfInBounds_toArray, List.set_cons_zero, List.set_cons_succ])
  refine wpAnyH_take (i := 19) (oi := { dst := some 39, op := Op.slice 9 (Operand.tmp 38) (some (Operand.const (Value.int IntKind.i64 8))) none none, type := 9, pos := "ref.go:25", after := #[{ on := 18, ground := Ground.data }], guard := none }) (v := ?_) rfl (by kernel_rfl) (by kernel_rfl) (by kernel_rfl) (fun _ _ _ h => h) (Or.inl ⟨by rfl, ?_⟩) (by assumption) ?_
  rotate_left
  · (intro ww hSw; (try dsimp only at hSw); go_simp; try with_reducible rfl)
  (try simp only [Act.put, List.setIfInBounds_toArray, List.set_cons_zero, List.set_cons_succ])
  refine wpAnyH_take (i := 20) (oi := { dst := some 40, op := Op.build 26 #[(0, Operand.tmp 23), (1, Operand.tmp 27), (2, Operand.tmp 37), (3, Operand.tmp 39)], type := 26, pos := "ref.go:25", after := #[{ on := 3, ground := Ground.data }, { on := 7, ground := Ground.data }, { on := 17, ground := Ground.data }, { on := 19, ground := Ground.data }], guard := none }) (v := ?_) rfl (by kernel_rfl) (by kernel_rfl) (by kernel_rfl) (fun _ _ _ h => h) (Or.inl ⟨by rfl, ?_⟩) (by assumption) ?_
  rotate_left
  · (intro ww hSw; (try dsimp only at hSw); go_simp; try with_reducible rfl)
  (try simp only [Act.put, List.setIfInBounds_toArray, List.set_cons_zero, List.set_cons_succ])
  refine wpAnyH_ready (rs := [21]) (by kernel_rfl) (by simp) ?_
  refine AllReadyH.cons (o := { dst := none, op := Op.store 26 (Operand.tmp 4) (Operand.tmp 40), type := 0, pos := "ref.go:25", after := #[{ on := 20, ground := Ground.data }, { on := 0, ground := Ground.phase }, { on := 1, ground := Ground.phase }, { on := 2, ground := Ground.phase }, { on := 3, ground := Ground.phase }, { on := 4, ground := Ground.phase }, { on := 5, ground := Ground.phase }, { on := 6, ground := Ground.phase }, { on := 7, ground := Ground.phase }, { on := 8, ground := Ground.phase }, { on := 9, ground := Ground.phase }, { on := 10, ground := Ground.phase }, { on := 11, ground := Ground.phase }, { on := 12, ground := Ground.phase }, { on := 13, ground := Ground.phase }, { on := 14, ground := Ground.phase }, { on := 15, ground := Ground.phase }, { on := 16, ground := Ground.phase }, { on := 17, ground := Ground.phase }, { on := 18, ground := Ground.phase }, { on := 19, ground := Ground.phase }, { on := 20, ground := Ground.phase }], guard := none }) rfl (fun K hK => ?_) AllReadyH.nil
  rw [if_pos (by rfl)]
  have hvl := ps_stored ([.int .i64 (y0 : Nat), .int .i64 (y1 : Nat), .int .u32 (y2 : Nat), .string D] : List Value) rfl hHeld
  refine wp_store_mid 26 _ _ rfl w.heap.size 0 ([.int .i64 (y0 : Nat), .int .i64 (y1 : Nat), .int .u32 (y2 : Nat), .string D] : List Value).toArray rfl rfl hHeld.2.1 HI.out HOn.out ?_
  refine hK.out _ _ (ps_sets HE.out.1 HE.out.2.1 HE.out.2.2 HNE.out ([.int .i64 (y0 : Nat), .int .i64 (y1 : Nat), .int .u32 (y2 : Nat), .string D] : List Value) rfl hHeld) (fun hHeld => ?_)
  clear hK K
  (try simp only [Act.put])
  refine wpAnyH_take (i := 22) (oi := { dst := some 5, op := Op.assign (Operand.const (Value.int IntKind.i64 0)), type := 3, pos := "ref.go:25", after := #[{ on := 21, ground := Ground.chain }, { on := 0, ground := Ground.phase }, { on := 1, ground := Ground.phase }, { on := 2, ground := Ground.phase }, { on := 3, ground := Ground.phase }, { on := 4, ground := Ground.phase }, { on := 5, ground := Ground.phase }, { on := 6, ground := Ground.phase }, { on := 7, ground := Ground.phase }, { on := 8, ground := Ground.phase }, { on := 9, ground := Ground.phase }, { on := 10, ground := Ground.phase }, { on := 11, ground := Ground.phase }, { on := 12, ground := Ground.phase }, { on := 13, ground := Ground.phase }, { on := 14, ground := Ground.phase }, { on := 15, ground := Ground.phase }, { on := 16, ground := Ground.phase }, { on := 17, ground := Ground.phase }, { on := 18, ground := Ground.phase }, { on := 19, ground := Ground.phase }, { on := 20, ground := Ground.phase }, { on := 21, ground := Ground.phase }], guard := none }) (v := ?_) rfl (by kernel_rfl) (by kernel_rfl) (by kernel_rfl) (fun _ _ _ h => h) (Or.inl ⟨by rfl, ?_⟩) (by assumption) ?_
  rotate_left
  · (intro ww hSw; (try dsimp only at hSw); go_simp; try with_reducible rfl)
  (try simp only [Act.put, List.setIfInBounds_toArray, List.set_cons_zero, List.set_cons_succ])
  refine wpAnyH_done (by kernel_rfl) ?_ _
  refine NoPanic.normal ?_
  have hbl := Lib.hid (And.left hHeld).2.1
  have HVL := Lib.hid hvl
  clear hHeld hvl
  go_wp2_with fail
  refine bodyPost_ret (v := .tuple #[.agg ([.int .i64 (y0 : Nat), .int .i64 (y1 : Nat), .int .u32 (y2 : Nat), .string D] : List Value).toArray, .int .i64 0]) ?_ rfl ?_
  · exact results_cell2 rfl rfl rfl (run_loadVar_mid _ w.heap.size 0 26 [.int .i64 (y0 : Nat), .int .i64 (y1 : Nat), .int .u32 (y2 : Nat), .string D] _ HVL.out.range Try.underlying26 rfl HI.out)
  · exact ⟨by rw [HD.out], hbl.out⟩
theorem rparse_any (ps s : ByteArray) (w : World) (hs : s.size ≤ 78000) (hp : ps.size ≤ 1000) :
    Calls Try.prog 17 #[.string ps, .string s] w fun e w' => e = .returned (.tuple #[.agg (mans ps s).vals.toArray, .int .i64 (mcode ps s)]) ∧ Below w.heap.size w w' := by
  unfold mans
  by_cases h8 : s.size < 8
  · have e : mcode ps s = 7 := by unfold mcode; rw [if_pos h8]
    rw [e, if_neg (by decide)]
    exact rparse_short ps s w h8
  · by_cases hn : sumL (ps ++ s).data.toList = 0
    · have e : mcode ps s = 0 := by unfold mcode; rw [if_neg h8, if_pos hn]
      rw [e, if_pos rfl]
      exact rparse_ok ps s w hs hp h8 hn
    · have e : mcode ps s = 9 := by unfold mcode; rw [if_neg h8, if_neg hn]
      rw [e, if_neg (by decide)]
      exact rparse_sum ps s w hs hp h8 hn
end Go.Proofs.Ytmfolkbmkfifcaa
