/-
  Proved here: what the document's Parse answers.
  Conditions: texts of at most 70000 bytes.
-/
import Derived.Test.YtljlonligbheaaaSg
namespace Go.Proofs.Ytljlonligbheaaa
open Go.RowKit

theorem own_nums {w : World} {base n : Nat} {v : Value} {l : List Nat} (h : w.ownsRow base 3 1 v n (ints l)) (hn : 0 < n) :
    ∃ (g cap : Nat) (CV : List Value), v = .slice (some ⟨g, 0, none⟩) n cap ∧ base ≤ g ∧ Bk w g 3 CV.toArray ∧ ∀ (j x : Nat), l[j]? = some x → CV[j]? = some (Value.int .i64 (x : Nat)) := by
  obtain ⟨hl, ⟨_, h0⟩ | ⟨g, cap, cur, rfl, hb, hh, h3, h4, h5, h6⟩⟩ := h
  · omega
  · have hll : l.length = n := by simpa [ints] using hl
    refine ⟨g, cap, cur.toList, rfl, hb, hh, fun j x hx => ?_⟩
    have hj : j < l.length := (List.getElem?_eq_some_iff.1 hx).1
    have e := congrArg (fun x : List Value => x[j]?) h6
    simp only [Nat.mul_one] at e
    rw [List.getElem?_take, if_pos (by omega)] at e
    have e2 : (ints l)[j]? = some (.int .i64 (x : Nat)) := by
      unfold ints
      rw [List.getElem?_map, hx]
      rfl
    rw [e2] at e
    exact e
/-- What the last region keeps: the numbers, and the block of the answer. -/
def PS (w0 : World) (b g : Nat) (CV : List Value) (x0 x1 : Nat) (w : World) : Prop :=
  (Bk w g 3 CV.toArray ∧ Below b w0 w ∧ b ≤ w.heap.size ∧ ∃ A, Bk w b 23 A ∧ A.size = 4) ∧ w.there b 0 4 ∧ w.cell? ⟨g, 0, none⟩ = some (.int .i64 (x0 : Nat)) ∧ w.cell? ⟨g, 1, none⟩ = some (.int .i64 (x1 : Nat))
theorem ps_mk {w0 w : World} {b g : Nat} {CV : List Value} {x0 x1 : Nat} {A : Array Value} (h0 : CV[0]? = some (Value.int .i64 (x0 : Nat))) (h1 : CV[1]? = some (Value.int .i64 (x1 : Nat))) (hg : Bk w g 3 CV.toArray) (hb : Below b w0 w) (hs : b ≤ w.heap.size) (hA : Bk w b 23 A) (hz : A.size = 4) :
    PS w0 b g CV x0 x1 w := ⟨⟨hg, hb, hs, A, hA, hz⟩, hA.there 4 (by omega), hg.at h0, hg.at h1⟩
theorem ps_sets {w0 w : World} {b g : Nat} {CV : List Value} {x0 x1 : Nat} (h0 : CV[0]? = some (Value.int .i64 (x0 : Nat))) (h1 : CV[1]? = some (Value.int .i64 (x1 : Nat))) (hne : g ≠ b) (vs : List Value) (hl : vs.length = 4) (h : PS w0 b g CV x0 x1 w) : PS w0 b g CV x0 x1 (w.setCells b 0 vs) := by
  obtain ⟨⟨hg, hb, hs, A, hA, hz⟩, _⟩ := h
  have hk := Bk.sets vs 0 _ _ hA
  rw [puts_whole _ _ (by rw [hz]; exact hl)] at hk
  exact ps_mk h0 h1 (hg.sets_other hne 0 vs) (below_sets vs (Nat.le_refl _) 0 _ hb) (by rw [size_sets]; exact hs) hk (by simpa using hl)
theorem ps_drew {w0 w : World} {b g : Nat} {CV : List Value} {x0 x1 : Nat} (h : PS w0 b g CV x0 x1 w) : PS w0 b g CV x0 x1 w.drew := by
  obtain ⟨⟨hg, hb, hs, hA⟩, h2⟩ := h
  exact ⟨⟨hg, hb.drew, hs, hA⟩, h2⟩
theorem ps_stored {w0 w : World} {b g : Nat} {CV : List Value} {x0 x1 : Nat} (vs : List Value) (hl : vs.length = 4) (h : PS w0 b g CV x0 x1 w) : Bk (w.setCells b 0 vs) b 23 vs.toArray := by
  obtain ⟨⟨hg, hb, hs, A, hA, hz⟩, _⟩ := h
  have hk := Bk.sets vs 0 _ _ hA
  rw [puts_whole _ _ (by rw [hz]; exact hl)] at hk
  exact hk
set_option maxRecDepth 100000 in
theorem rparse_short (s : ByteArray) (w : World) (h : s.size < 20) :
    Calls Try.prog 15 #[.string s] w fun e w' => e = .returned (.tuple #[.agg sg0.vals.toArray, .int .i64 7]) ∧ Below w.heap.size w w' := by
  have hI : (s.size : Int) < 20 := by omega
  clear h
  go_enter Try.func15, Try.ntmps15
  go_wp2_with fail
  refine bodyPost_ret (v := .tuple #[.agg sg0.vals.toArray, .int .i64 7]) ?_ rfl ?_
  · simp [results, Try.results15, go_sem]
    rfl
  · exact ⟨rfl, (Below.refl _ _).alloc (Nat.le_refl _) _⟩
set_option maxRecDepth 100000 in
theorem rparse_form (s : ByteArray) (w : World) (h20 : ¬ s.size < 20) (hn : byN s 12 / 16 * 4 < 20) :
    Calls Try.prog 15 #[.string s] w fun e w' => e = .returned (.tuple #[.agg sg0.vals.toArray, .int .i64 8]) ∧ Below w.heap.size w w' := by
  have hI : ¬ (s.size : Int) < 20 := by omega
  have i20 : (20 : Int) ≤ (s.size : Int) := by omega
  have i12 : (12 : Int) < (s.size : Int) := by omega
  have i13 : (13 : Int) < (s.size : Int) := by omega
  have i4 : (4 : Int) ≤ (s.size : Int) := by omega
  have h12 : 12 < s.size := by omega
  have hb := byN_at s 12 h12
  have ub := byN_lt s 12
  have k1 : IntKind.i64.wrap (((s[12]'h12).toNat : Nat) : Int) = ((byN s 12 : Nat) : Int) := by rw [← hb]; exact IntWalk.i64_in _ (by omega)
  have k2 : ((byN s 12 : Nat) : Int).tdiv 16 = ((byN s 12 : Nat) : Int) / 16 := Int.tdiv_eq_ediv_of_nonneg (by omega)
  have k3 : IntKind.i64.wrap (((byN s 12 : Nat) : Int) / 16) = ((byN s 12 : Nat) : Int) / 16 := IntWalk.i64_in _ (by omega)
  have k4 : IntKind.i64.wrap ((4 : Int) * (((byN s 12 : Nat) : Int) / 16)) = ((byN s 12 / 16 * 4 : Nat) : Int) := by rw [IntWalk.i64_in _ (by omega)]; omega
  have m : ((byN s 12 / 16 * 4 : Nat) : Int) < 20 := by omega
  have dm := decide_eq_true m
  clear h20 hn hb ub
  go_enter Try.func15, Try.ntmps15
  go_wp2_with fail
  refine bodyPost_ret (v := .tuple #[.agg sg0.vals.toArray, .int .i64 8]) ?_ rfl ?_
  · simp [results, Try.results15, go_sem]
    rfl
  · exact ⟨rfl, (Below.refl _ _).alloc (Nat.le_refl _) _⟩
set_option maxRecDepth 100000 in
theorem rparse_cut (s : ByteArray) (w : World) (h20 : ¬ s.size < 20) (hn : ¬ byN s 12 / 16 * 4 < 20) (hl : s.size < byN s 12 / 16 * 4) :
    Calls Try.prog 15 #[.string s] w fun e w' => e = .returned (.tuple #[.agg sg0.vals.toArray, .int .i64 7]) ∧ Below w.heap.size w w' := by
  have hI : ¬ (s.size : Int) < 20 := by omega
  have i20 : (20 : Int) ≤ (s.size : Int) := by omega
  have i12 : (12 : Int) < (s.size : Int) := by omega
  have i13 : (13 : Int) < (s.size : Int) := by omega
  have i4 : (4 : Int) ≤ (s.size : Int) := by omega
  have h12 : 12 < s.size := by omega
  have hb := byN_at s 12 h12
  have ub := byN_lt s 12
  have k1 : IntKind.i64.wrap (((s[12]'h12).toNat : Nat) : Int) = ((byN s 12 : Nat) : Int) := by rw [← hb]; exact IntWalk.i64_in _ (by omega)
  have k2 : ((byN s 12 : Nat) : Int).tdiv 16 = ((byN s 12 : Nat) : Int) / 16 := Int.tdiv_eq_ediv_of_nonneg (by omega)
  have k3 : IntKind.i64.wrap (((byN s 12 : Nat) : Int) / 16) = ((byN s 12 : Nat) : Int) / 16 := IntWalk.i64_in _ (by omega)
  have k4 : IntKind.i64.wrap ((4 : Int) * (((byN s 12 : Nat) : Int) / 16)) = ((byN s 12 / 16 * 4 : Nat) : Int) := by rw [IntWalk.i64_in _ (by omega)]; omega
  have m : ¬ ((byN s 12 / 16 * 4 : Nat) : Int) < 20 := by omega
  have dm := decide_eq_false m
  have m2 : (s.size : Int) < ((byN s 12 / 16 * 4 : Nat) : Int) := by omega
  have dm2 := decide_eq_true m2
  clear h20 hn hl hb ub
  generalize byN s 12 / 16 * 4 = N at *
  go_enter Try.func15, Try.ntmps15
  go_wp2_with fail
  refine bodyPost_ret (v := .tuple #[.agg sg0.vals.toArray, .int .i64 7]) ?_ rfl ?_
  · simp [results, Try.results15, go_sem]
    rfl
  · exact ⟨rfl, (Below.refl _ _).alloc (Nat.le_refl _) _⟩
set_option maxRecDepth 100000 in
set_option maxHeartbeats 400000 in
theorem rparse_ok (s : ByteArray) (w : World) (hs : s.size ≤ 70000) (h20 : ¬ s.size < 20) (hn : ¬ byN s 12 / 16 * 4 < 20) (hl : ¬ s.size < byN s 12 / 16 * 4) :
    Calls Try.prog 15 #[.string s] w fun e w' => e = .returned (.tuple #[.agg (tpkt s).vals.toArray, .int .i64 0]) ∧ Below w.heap.size w w' := by
  have hI : ¬ (s.size : Int) < 20 := by omega
  have i20 : (20 : Int) ≤ (s.size : Int) := by omega
  have i12 : (12 : Int) < (s.size : Int) := by omega
  have i13 : (13 : Int) < (s.size : Int) := by omega
  have i4 : (4 : Int) ≤ (s.size : Int) := by omega
  have h12 : 12 < s.size := by omega
  have hb := byN_at s 12 h12
  have ub := byN_lt s 12
  have k1 : IntKind.i64.wrap (((s[12]'h12).toNat : Nat) : Int) = ((byN s 12 : Nat) : Int) := by rw [← hb]; exact IntWalk.i64_in _ (by omega)
  have k2 : ((byN s 12 : Nat) : Int).tdiv 16 = ((byN s 12 : Nat) : Int) / 16 := Int.tdiv_eq_ediv_of_nonneg (by omega)
  have k3 : IntKind.i64.wrap (((byN s 12 : Nat) : Int) / 16) = ((byN s 12 : Nat) : Int) / 16 := IntWalk.i64_in _ (by omega)
  have k4 : IntKind.i64.wrap ((4 : Int) * (((byN s 12 : Nat) : Int) / 16)) = ((byN s 12 / 16 * 4 : Nat) : Int) := by rw [IntWalk.i64_in _ (by omega)]; omega
  have m : ¬ ((byN s 12 / 16 * 4 : Nat) : Int) < 20 := by omega
  have dm := decide_eq_false m
  have m2 : ¬ (s.size : Int) < ((byN s 12 / 16 * 4 : Nat) : Int) := by omega
  have dm2 := decide_eq_false m2
  have h13 : 13 < s.size := by omega
  have hb3 := byN_at s 13 h13
  have ub3 := byN_lt s 13
  have j1 : IntKind.i64.wrap (((s[13]'h13).toNat : Nat) : Int) = ((byN s 13 : Nat) : Int) := by rw [← hb3]; exact IntWalk.i64_in _ (by omega)
  have j2 : ((byN s 13 : Nat) : Int).tmod 64 = ((byN s 13 : Nat) : Int) % 64 := Int.tmod_eq_emod_of_nonneg (by omega)
  have j3 : IntKind.i64.wrap (((byN s 13 : Nat) : Int) % 64) = ((byN s 13 : Nat) : Int) % 64 := IntWalk.i64_in _ (by omega)
  have HD : Hid ((tpkt s).vals = [.int .i64 (wd s.data.toList 0 : Nat), .int .i64 (wd s.data.toList 1 : Nat), .int .i64 (((byN s 13 : Nat) : Int) % 64), .string s]) := Lib.hid rfl
  generalize tpkt s = Q at *
  have HW := Lib.hid (fun W => words_any (s.extract 0 4) W (by simp; omega))
  rw [head_words s (by omega)] at HW
  clear h20 hn hl hb ub hb3 ub3 hs
  generalize wd s.data.toList 0 = x0 at *
  generalize wd s.data.toList 1 = x1 at *
  generalize ((byN s 13 : Nat) : Int) % 64 = f at *
  generalize byN s 12 / 16 * 4 = N at *
  obtain ⟨A0, hA0⟩ : ∃ A0 : Array Value, A0 = sg0.vals.toArray := ⟨_, rfl⟩
  have hk0 : Bk (w.alloc (.cells #[.int .i64 0, .int .i64 0, .int .i64 0, .string ⟨#[]⟩] 23)) w.heap.size 23 A0 := by rw [hA0]; exact bk_new _ _ _
  have hb0 : Below w.heap.size w (w.alloc (.cells #[.int .i64 0, .int .i64 0, .int .i64 0, .string ⟨#[]⟩] 23)) := (Below.refl _ _).alloc (Nat.le_refl _) _
  have hs0 : (w.alloc (.cells #[.int .i64 0, .int .i64 0, .int .i64 0, .string ⟨#[]⟩] 23)).heap.size = w.heap.size + 1 := by simp
  generalize hw1 : w.alloc (.cells #[.int .i64 0, .int .i64 0, .int .i64 0, .string ⟨#[]⟩] 23) = w1 at *
  have HZ : Hid (A0.size = 4) := Lib.hid (by rw [hA0]; rfl)
  have HK0 := Lib.hid hk0
  have HB0 := Lib.hid hb0
  have HS0 := Lib.hid hs0
  clear hk0 hb0 hs0 hA0
  go_enter Try.func15, Try.ntmps15
  go_upto_region 1 with (fail)
  clear hw1
  go_wp2_with fail
  refine (HW.out _).mono ?_
  rintro e w2 ⟨v, rfl, hown, b2⟩
  obtain ⟨g, cap, CV, rfl, hg, hbk, hcv⟩ := own_nums (n := 2) hown (by omega)
  have e0 := hcv 0 x0 rfl
  have e1 := hcv 1 x1 rfl
  have HE := Lib.hid (And.intro e0 e1)
  have HK2 := Lib.hid (HK0.out.below b2 HK0.out.lt)
  have HB2 := Lib.hid (HB0.out.trans (b2.mono (by have := HS0.out; omega)))
  have HS2 := Lib.hid (Nat.le_trans (Nat.le_of_lt HK0.out.lt) b2.size)
  have HG := Lib.hid hbk
  have HNE := Lib.hid (show g ≠ w.heap.size by have := HS0.out; omega)
  clear hown b2 hg hbk hcv e0 e1 HK0 HB0 HW
  have HI : Hid ((Try.prog.info? 23).map (·.size) = some ([.int .i64 (x0 : Nat), .int .i64 (x1 : Nat), .int .i64 f, .string s] : List Value).toArray.size) := Lib.hid (Try.infoSg sg0)
  have HO : Hid (([.int .i64 (x0 : Nat), .int .i64 (x1 : Nat), .int .i64 f, .string s] : List Value).toArray.all (·.oneCell') = true) := Lib.hid (by simp [Value.oneCell'])
  have HPS := Lib.hid (ps_mk (w0 := w) HE.out.1 HE.out.2 HG.out HB2.out HS2.out HK2.out HZ.out)
  clear HK2 HB2 HG
  go_upto_region 9 with (fail)
  clear k1 k2 k3 k4 m dm m2 dm2
  refine wp_region_noPanic ?_
  refine wp_region_held_drew (S := fun w' => (Bk w' g 3 CV.toArray ∧ Below w.heap.size w w' ∧ w.heap.size ≤ w'.heap.size ∧ ∃ A, Bk w' w.heap.size 23 A ∧ A.size = 4) ∧ w'.there w.heap.size 0 4 ∧ w'.cell? ⟨g, 0, none⟩ = some (.int .i64 (x0 : Nat)) ∧ w'.cell? ⟨g, 1, none⟩ = some (.int .i64 (x1 : Nat))) (by kernel_rfl) (ps_drew HPS.out) (fun hHeld => ?_)
  refine wpAnyH_take (i := 0) (oi := { dst := some 26, op := Op.move (Operand.tmp 5), type := 71, pos := "ref.go:30", after := #[], guard := none }) (v := ?_) rfl (by kernel_rfl) (by kernel_rfl) (by kernel_rfl) (fun _ _ _ h => h) (Or.inl ⟨by rfl, ?_⟩) (by assumption) ?_
  rotate_left
  · (intro ww hSw; (try dsimp only at hSw); go_simp; try with_reducible rfl)
  (try simp only [Act.put, List.setIfInBounds_toArray, List.set_cons_zero, List.set_cons_succ])
  refine wpAnyH_take (i := 1) (oi := { dst := some 27, op := Op.indexAddr 71 (Operand.tmp 26) (Operand.const (Value.int IntKind.i64 0)), type := 0, pos := "ref.go:30", after := #[{ on := 0, ground := Ground.data }], guard := none }) (v := ?_) rfl (by kernel_rfl) (by kernel_rfl) (by kernel_rfl) (fun _ _ _ h => h) (Or.inl ⟨by rfl, ?_⟩) (by assumption) ?_
  rotate_left
  · (intro ww hSw; (try dsimp only at hSw); go_simp; try with_reducible rfl)
  (try simp only [Act.put, List.setIfInBounds_toArray, List.set_cons_zero, List.set_cons_succ])
  refine wpAnyH_take (i := 2) (oi := { dst := some 28, op := Op.load 3 (Operand.tmp 27), type := 3, pos := "ref.go:30", after := #[{ on := 1, ground := Ground.data }], guard := none }) (v := ?_) rfl (by kernel_rfl) (by kernel_rfl) (by kernel_rfl) (fun _ _ _ h => h) (Or.inl ⟨by rfl, ?_⟩) (by assumption) ?_
  rotate_left
  · (intro ww hSw; (try dsimp only at hSw); go_simp; try with_reducible rfl)
  (try simp only [Act.put, List.setIfInBounds_toArray, List.set_cons_zero, List.set_cons_succ])
  refine wpAnyH_take (i := 3) (oi := { dst := some 29, op := Op.move (Operand.tmp 5), type := 71, pos := "ref.go:30", after := #[], guard := none }) (v := ?_) rfl (by kernel_rfl) (by kernel_rfl) (by kernel_rfl) (fun _ _ _ h => h) (Or.inl ⟨by rfl, ?_⟩) (by assumption) ?_
  rotate_left
  · (intro ww hSw; (try dsimp only at hSw); go_simp; try with_reducible rfl)
  (try simp only [Act.put, List.setIfInBounds_toArray, List.set_cons_zero, List.set_cons_succ])
  refine wpAnyH_take (i := 4) (oi := { dst := some 30, op := Op.indexAddr 71 (Operand.tmp 29) (Operand.const (Value.int IntKind.i64 1)), type := 0, pos := "ref.go:30", after := #[{ on := 3, ground := Ground.data }], guard := none }) (v := ?_) rfl (by kernel_rfl) (by kernel_rfl) (by kernel_rfl) (fun _ _ _ h => h) (Or.inl ⟨by rfl, ?_⟩) (by assumption) ?_
  rotate_left
  · (intro ww hSw; (try dsimp only at hSw); go_simp; try with_reducible rfl)
  (try simp only [Act.put, List.setIfInBounds_toArray, List.set_cons_zero, List.set_cons_succ])
  refine wpAnyH_take (i := 5) (oi := { dst := some 31, op := Op.load 3 (Operand.tmp 30), type := 3, pos := "ref.go:30", after := #[{ on := 4, ground := Ground.data }], guard := none }) (v := ?_) rfl (by kernel_rfl) (by kernel_rfl) (by kernel_rfl) (fun _ _ _ h => h) (Or.inl ⟨by rfl, ?_⟩) (by assumption) ?_
  rotate_left
  · (intro ww hSw; (try dsimp only at hSw); go_simp; try with_reducible rfl)
  (try simp only [Act.put, List.setIfInBounds_toArray, List.set_cons_zero, List.set_cons_succ])
  refine wpAnyH_take (i := 6) (oi := { dst := some 32, op := Op.move (Operand.tmp 0), type := 9, pos := "ref.go:30", after := #[], guard := none }) (v := ?_) rfl (by kernel_rfl) (by kernel_rfl) (by kernel_rfl) (fun _ _ _ h => h) (Or.inl ⟨by rfl, ?_⟩) (by assumption) ?_
  rotate_left
  · (intro ww hSw; (try dsimp only at hSw); go_simp; try with_reducible rfl)
  (try simp only [Act.put, List.setIfInBounds_toArray, List.set_cons_zero, List.set_cons_succ])
  refine wpAnyH_take (i := 7) (oi := { dst := some 33, op := Op.index 9 (Operand.tmp 32) (Operand.const (Value.int IntKind.i64 13)), type := 5, pos := "ref.go:30", after := #[{ on := 6, ground := Ground.data }], guard := none }) (v := ?_) rfl (by kernel_rfl) (by kernel_rfl) (by kernel_rfl) (fun _ _ _ h => h) (Or.inl ⟨by rfl, ?_⟩) (by assumption) ?_
  rotate_left
  · (intro ww hSw; (try dsimp only at hSw); go_simp; try with_reducible rfl)
  (try simp only [Act.put, List.setIfInBounds_toArray, List.set_cons_zero, List.set_cons_succ])
  refine wpAnyH_take (i := 8) (oi := { dst := some 34, op := Op.convert 5 3 (Operand.tmp 33), type := 3, pos := "ref.go:30", after := #[{ on := 7, ground := Ground.data }], guard := none }) (v := ?_) rfl (by kernel_rfl) (by kernel_rfl) (by kernel_rfl) (fun _ _ _ h => h) (Or.inl ⟨by rfl, ?_⟩) (by assumption) ?_
  rotate_left
  · (intro ww hSw; (try dsimp only at hSw); go_simp; try with_reducible rfl)
  (try simp only [Act.put, List.setIfInBounds_toArray, List.set_cons_zero, List.set_cons_succ])
  refine wpAnyH_take (i := 9) (oi := { dst := some 35, op := Op.binOp BinOp.rem 3 (Operand.tmp 34) (Operand.const (Value.int IntKind.i64 64)) 3, type := 3, pos := "ref.go:30", after := #[{ on := 8, ground := Ground.data }], guard := none }) (v := ?_) rfl (by kernel_rfl) (by kernel_rfl) (by kernel_rfl) (fun _ _ _ h => h) (Or.inl ⟨by rfl, ?_⟩) (by assumption) ?_
  rotate_left
  · (intro ww hSw; (try dsimp only at hSw); go_simp; try with_reducible rfl)
  (try simp only [Act.put, List.setIfInBounds_toArray, List.set_cons_zero, List.set_cons_succ])
  refine wpAnyH_take (i := 10) (oi := { dst := some 36, op := Op.move (Operand.tmp 0), type := 9, pos := "ref.go:30", after := #[], guard := none }) (v := ?_) rfl (by kernel_rfl) (by kernel_rfl) (by kernel_rfl) (fun _ _ _ h => h) (Or.inl ⟨by rfl, ?_⟩) (by assumption) ?_
  rotate_left
  · (intro ww hSw; (try dsimp only at hSw); go_simp; try with_reducible rfl)
  (try simp only [Act.put, List.setIfInBounds_toArray, List.set_cons_zero, List.set_cons_succ])
  refine wpAnyH_take (i := 11) (oi := { dst := some 37, op := Op.build 23 #[(0, Operand.tmp 28), (1, Operand.tmp 31), (2, Operand.tmp 35), (3, Operand.tmp 36)], type := 23, pos := "ref.go:30", after := #[{ on := 2, ground := Ground.data }, { on := 5, ground := Ground.data }, { on := 9, ground := Ground.data }, { on := 10, ground := Ground.data }], guard := none }) (v := ?_) rfl (by kernel_rfl) (by kernel_rfl) (by kernel_rfl) (fun _ _ _ h => h) (Or.inl ⟨by rfl, ?_⟩) (by assumption) ?_
  rotate_left
  · (intro ww hSw; (try dsimp only at hSw); go_simp; try with_reducible rfl)
  (try simp only [Act.put, List.setIfInBounds_toArray, List.set_cons_zero, List.set_cons_succ])
  refine wpAnyH_ready (rs := [12]) (by kernel_rfl) (by simp) ?_
  refine AllReadyH.cons (o := { dst := none, op := Op.store 23 (Operand.tmp 2) (Operand.tmp 37), type := 0, pos := "ref.go:30", after := #[{ on := 11, ground := Ground.data }, { on := 0, ground := Ground.phase }, { on := 1, ground := Ground.phase }, { on := 2, ground := Ground.phase }, { on := 3, ground := Ground.phase }, { on := 4, ground := Ground.phase }, { on := 5, ground := Ground.phase }, { on := 6, ground := Ground.phase }, { on := 7, ground := Ground.phase }, { on := 8, ground := Ground.phase }, { on := 9, ground := Ground.phase }, { on := 10, ground := Ground.phase }, { on := 11, ground := Ground.phase }], guard := none }) rfl (fun K hK => ?_) AllReadyH.nil
  rw [if_pos (by rfl)]
  have hvl := ps_stored ([.int .i64 (x0 : Nat), .int .i64 (x1 : Nat), .int .i64 f, .string s] : List Value) rfl hHeld
  refine wp_store_mid 23 _ _ rfl w.heap.size 0 ([.int .i64 (x0 : Nat), .int .i64 (x1 : Nat), .int .i64 f, .string s] : List Value).toArray rfl rfl hHeld.2.1 HI.out HO.out ?_
  refine hK.out _ _ (ps_sets HE.out.1 HE.out.2 HNE.out ([.int .i64 (x0 : Nat), .int .i64 (x1 : Nat), .int .i64 f, .string s] : List Value) rfl hHeld) (fun hHeld => ?_)
  clear hK K
  (try simp only [Act.put])
  refine wpAnyH_take (i := 13) (oi := { dst := some 3, op := Op.assign (Operand.const (Value.int IntKind.i64 0)), type := 3, pos := "ref.go:30", after := #[{ on := 12, ground := Ground.chain }, { on := 0, ground := Ground.phase }, { on := 1, ground := Ground.phase }, { on := 2, ground := Ground.phase }, { on := 3, ground := Ground.phase }, { on := 4, ground := Ground.phase }, { on := 5, ground := Ground.phase }, { on := 6, ground := Ground.phase }, { on := 7, ground := Ground.phase }, { on := 8, ground := Ground.phase }, { on := 9, ground := Ground.phase }, { on := 10, ground := Ground.phase }, { on := 11, ground := Ground.phase }, { on := 12, ground := Ground.phase }], guard := none }) (v := ?_) rfl (by kernel_rfl) (by kernel_rfl) (by kernel_rfl) (fun _ _ _ h => h) (Or.inl ⟨by rfl, ?_⟩) (by assumption) ?_
  rotate_left
  · (intro ww hSw; (try dsimp only at hSw); go_simp; try with_reducible rfl)
  (try simp only [Act.put, List.setIfInBounds_toArray, List.set_cons_zero, List.set_cons_succ])
  refine wpAnyH_done (by kernel_rfl) ?_ _
  refine NoPanic.normal ?_
  have hbl := Lib.hid (And.left hHeld).2.1
  have HVL := Lib.hid hvl
  clear hHeld hvl
  go_wp2_with fail
  refine bodyPost_ret (v := .tuple #[.agg ([.int .i64 (x0 : Nat), .int .i64 (x1 : Nat), .int .i64 f, .string s] : List Value).toArray, .int .i64 0]) ?_ rfl ?_
  · exact results_cell2 rfl rfl rfl (run_loadVar_mid _ w.heap.size 0 23 [.int .i64 (x0 : Nat), .int .i64 (x1 : Nat), .int .i64 f, .string s] _ HVL.out.range Try.underlying23 rfl HI.out)
  · exact ⟨by rw [HD.out], hbl.out⟩
theorem rparse_any (s : ByteArray) (w : World) (hs : s.size ≤ 70000) :
    Calls Try.prog 15 #[.string s] w fun e w' => e = .returned (.tuple #[.agg (tans s).vals.toArray, .int .i64 (tcode s)]) ∧ Below w.heap.size w w' := by
  unfold tans
  by_cases h20 : s.size < 20
  · have e : tcode s = 7 := by unfold tcode; rw [if_pos h20]
    rw [e, if_neg (by decide)]
    exact rparse_short s w h20
  · by_cases hn : byN s 12 / 16 * 4 < 20
    · have e : tcode s = 8 := by unfold tcode; rw [if_neg h20, if_pos hn]
      rw [e, if_neg (by decide)]
      exact rparse_form s w h20 hn
    · by_cases hl : s.size < byN s 12 / 16 * 4
      · have e : tcode s = 7 := by unfold tcode; rw [if_neg h20, if_neg hn, if_pos hl]
        rw [e, if_neg (by decide)]
        exact rparse_cut s w h20 hn hl
      · have e : tcode s = 0 := by unfold tcode; rw [if_neg h20, if_neg hn, if_neg hl]
        rw [e, if_pos rfl]
        exact rparse_ok s w hs h20 hn hl
end Go.Proofs.Ytljlonligbheaaa
