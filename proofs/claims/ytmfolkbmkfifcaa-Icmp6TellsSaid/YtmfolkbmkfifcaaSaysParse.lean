/-
  Proved here: what the program's fault and Parse answer.
  Conditions: texts of at most 78000 bytes.
-/
import Derived.Test.YtmfolkbmkfifcaaErr
import Derived.Test.YtmfolkbmkfifcaaNumber
namespace Go.Proofs.Ytmfolkbmkfifcaa
open Go.RowKit

theorem fault_any (c : Int) (w : World) :
    Calls Try.prog 21 #[.int .i64 c] w fun e w' => e = .returned (.iface 59 (.pointer (some ⟨w.heap.size, 0, none⟩))) ∧ w' = w.alloc (.cells #[.int .i64 c, .int .i64 0] 62) := by
  go_enter Try.func21, Try.ntmps21
  go_wp2_with fail
  go_ret
  exact ⟨rfl, rfl⟩
theorem err_new {w : World} {B : Nat} (c : Int) (hc : c ≠ 0) (hB : B ≤ w.heap.size) : ErrV B c (.iface 59 (.pointer (some ⟨w.heap.size, 0, none⟩))) (w.alloc (.cells #[.int .i64 c, .int .i64 0] 62)) := .inr ⟨hc, _, rfl, Flt.new w c 0, hB⟩
theorem err_none {w : World} {B : Nat} : ErrV B 0 .nilIface w := .inl ⟨rfl, rfl⟩
theorem err_sets {w : World} {B b : Nat} {c : Int} {v : Value} (h : ErrV B c v w) (hb : b < B) (vs : List Value) : ErrV B c v (w.setCells b 0 vs) := by
  rcases h with h | ⟨h1, f, h2, h3, h4⟩
  · exact .inl h
  · exact .inr ⟨h1, f, h2, Bk.sets_other h3 (by omega) 0 vs, h4⟩
theorem ErrV.lo {B C : Nat} {c : Int} {v : Value} {w : World} (h : ErrV B c v w) (hC : C ≤ B) : ErrV C c v w := by
  rcases h with h | ⟨h1, f, h2, h3, h4⟩
  · exact .inl h
  · exact .inr ⟨h1, f, h2, h3, Nat.le_trans hC h4⟩
theorem ext_four (s : ByteArray) (i : Nat) (h : i + 3 < s.size) : (s.extract i (i + 4)).data.toList = [s.data.toList.getD i 0, s.data.toList.getD (i + 1) 0, s.data.toList.getD (i + 2) 0, s.data.toList.getD (i + 3) 0] := by
  have hl : i + 3 < s.data.toList.length := by simpa using h
  have g : ∀ j (hj : j < s.data.toList.length), s.data.toList.getD j 0 = s.data.toList[j] := fun j hj => by
    rw [List.getD_eq_getElem?_getD, List.getElem?_eq_getElem hj]
    rfl
  rw [g i (by omega), g (i + 1) (by omega), g (i + 2) (by omega), g (i + 3) hl]
  rw [ext_list, List.drop_take, show i + 4 - i = 4 by omega, List.drop_eq_getElem_cons (by omega), List.take_succ_cons, List.drop_eq_getElem_cons (by omega), List.take_succ_cons, List.drop_eq_getElem_cons (by omega), List.take_succ_cons, List.drop_eq_getElem_cons hl, List.take_succ_cons, List.take_zero]
theorem num_rest (s : ByteArray) (h : 8 ≤ s.size) : numOf ((s.extract 4 8).extract 0 (0 + 4)).data.toList = wd s.data.toList 2 * 65536 + wd s.data.toList 3 := by
  have e : (s.extract 4 8).extract 0 (0 + 4) = s.extract 4 8 := ba_ext (by rw [ext_list, List.drop_zero, List.take_of_length_le (by rw [ba_size]; simp; omega)])
  rw [e, ext_four s 4 (by omega)]
  unfold wd numOf
  simp only [List.foldl_cons, List.foldl_nil, Nat.reduceMul, Nat.reduceAdd]
  omega
theorem none_ahead (s : ByteArray) : (⟨#[]⟩ ++ s : ByteArray) = s := ba_ext (by simp)
theorem right_two (ps s : ByteArray) (w : World) (h : s.size ≤ 78000) (hp : ps.size ≤ 1000) : Calls Try.prog 22 #[.slice (some ⟨w.heap.size, 0, none⟩) 2 2] (w.alloc (.cells #[.string ps, .string s] 9)) fun e w' => e = .returned (.bool (rightB (ps ++ s).data.toList)) ∧ Below w.heap.size w w' := by
  have := right2 w ps s (by omega)
  rwa [show allOf [ps, s] = (ps ++ s).data.toList by simp [allOf]] at this
set_option maxRecDepth 100000 in
theorem parse_short (s ps : ByteArray) (w : World) (h : s.size < 8) :
    Calls Try.prog 10 #[.string s, .string ps] w fun e w' => ∃ x, e = .returned (.tuple #[.agg ms0.vals.toArray, x]) ∧ ErrV w.heap.size 7 x w' ∧ Below w.heap.size w w' := by
  have hI : (s.size : Int) < 8 := by omega
  have d1 := decide_eq_true hI
  clear h
  have HI : Hid ((Try.prog.info? 26).map (·.size) = some 4) := Lib.hid (Try.infoMs ms0)
  have HO : Hid (ms0.vals.toArray.all (·.oneCell') = true) := Lib.hid (mvals_one ms0)
  have hk0 : Bk (w.alloc (.cells #[.int .i64 0, .int .i64 0, .int .u32 0, .string ⟨#[]⟩] 26)) w.heap.size 26 ms0.vals.toArray := bk_new _ _ _
  have hb0 : Below w.heap.size w (w.alloc (.cells #[.int .i64 0, .int .i64 0, .int .u32 0, .string ⟨#[]⟩] 26)) := (Below.refl _ _).alloc (Nat.le_refl _) _
  have hs0 : (w.alloc (.cells #[.int .i64 0, .int .i64 0, .int .u32 0, .string ⟨#[]⟩] 26)).heap.size = w.heap.size + 1 := by simp
  generalize hw1 : w.alloc (.cells #[.int .i64 0, .int .i64 0, .int .u32 0, .string ⟨#[]⟩] 26) = w1 at *
  have HK0 := Lib.hid hk0
  have HB0 := Lib.hid hb0
  have HS0 := Lib.hid hs0
  clear hk0 hb0 hs0
  go_enter Try.func10, Try.ntmps10
  go_upto_region 1 with (fail)
  clear hw1
  have HK2 := HK0
  have HB2 := HB0
  go_wp2_with fail
  refine (fault_any 7 _).mono ?_
  rintro e w3 ⟨rfl, hw3⟩
  have hk3 : Bk w3 w.heap.size 26 ms0.vals.toArray := hw3 ▸ HK2.out.alloc _
  have hb3 : Below w.heap.size w w3 := hw3 ▸ HB2.out.alloc (Nat.le_of_lt HK2.out.lt) _
  have he3 : ErrV (w.heap.size + 1) 7 _ w3 := hw3 ▸ err_new (B := w.heap.size + 1) 7 (by decide) HK2.out.lt
  clear hw3
  have ht := hk3.there 4 (Nat.le_refl _)
  have HK := Lib.hid hk3
  have HB := Lib.hid hb3
  have HE := Lib.hid he3
  clear hk3 hb3 he3
  go_wp2_with (refine wpList_store_mid rfl 26 _ _ rfl w.heap.size 0 ms0.vals.toArray rfl rfl ht HI.out HO.out ?_)
  have hk5 := Bk.sets ms0.vals 0 _ _ HK.out
  rw [puts_whole ms0.vals.toArray ms0.vals rfl] at hk5
  refine bodyPost_ret (v := .tuple #[.agg ms0.vals.toArray, .iface 59 (.pointer (some ⟨_, 0, none⟩))]) ?_ rfl ⟨_, rfl, (err_sets HE.out (Nat.lt_succ_self _) _).lo (Nat.le_succ _), below_sets _ (Nat.le_refl _) 0 _ HB.out⟩
  exact results_cell2 rfl rfl rfl (run_loadVar_mid _ w.heap.size 0 26 ms0.vals _ hk5.range Try.underlying26 rfl HI.out)
set_option maxRecDepth 100000 in
theorem parse_sum (s ps : ByteArray) (w : World) (hs : s.size ≤ 78000) (hp : ps.size ≤ 1000) (h : ¬ s.size < 8) (hn : rightB (ps ++ s).data.toList = false) :
    Calls Try.prog 10 #[.string s, .string ps] w fun e w' => ∃ x, e = .returned (.tuple #[.agg ms0.vals.toArray, x]) ∧ ErrV w.heap.size 9 x w' ∧ Below w.heap.size w w' := by
  have hI : ¬ (s.size : Int) < 8 := by omega
  have d1 := decide_eq_false hI
  have HR := Lib.hid (fun W => right_two ps s W hs hp)
  rw [hn] at HR
  clear h hs hp hn
  have HI : Hid ((Try.prog.info? 26).map (·.size) = some 4) := Lib.hid (Try.infoMs ms0)
  have HO : Hid (ms0.vals.toArray.all (·.oneCell') = true) := Lib.hid (mvals_one ms0)
  have hk0 : Bk (w.alloc (.cells #[.int .i64 0, .int .i64 0, .int .u32 0, .string ⟨#[]⟩] 26)) w.heap.size 26 ms0.vals.toArray := bk_new _ _ _
  have hb0 : Below w.heap.size w (w.alloc (.cells #[.int .i64 0, .int .i64 0, .int .u32 0, .string ⟨#[]⟩] 26)) := (Below.refl _ _).alloc (Nat.le_refl _) _
  have hs0 : (w.alloc (.cells #[.int .i64 0, .int .i64 0, .int .u32 0, .string ⟨#[]⟩] 26)).heap.size = w.heap.size + 1 := by simp
  generalize hw1 : w.alloc (.cells #[.int .i64 0, .int .i64 0, .int .u32 0, .string ⟨#[]⟩] 26) = w1 at *
  have HK0 := Lib.hid hk0
  have HB0 := Lib.hid hb0
  have HS0 := Lib.hid hs0
  clear hk0 hb0 hs0
  go_enter Try.func10, Try.ntmps10
  go_upto_region 1 with (fail)
  clear hw1
  go_wp2_with fail
  refine (HR.out _).mono ?_
  rintro e w2 ⟨rfl, b2⟩
  have HK2 := Lib.hid (HK0.out.below b2 HK0.out.lt)
  have HB2 := Lib.hid (HB0.out.trans (b2.mono (Nat.le_of_lt HK0.out.lt)))
  clear b2 HK0 HB0
  go_wp2_with fail
  refine (fault_any 9 _).mono ?_
  rintro e w3 ⟨rfl, hw3⟩
  have hk3 : Bk w3 w.heap.size 26 ms0.vals.toArray := hw3 ▸ HK2.out.alloc _
  have hb3 : Below w.heap.size w w3 := hw3 ▸ HB2.out.alloc (Nat.le_of_lt HK2.out.lt) _
  have he3 : ErrV (w.heap.size + 1) 9 _ w3 := hw3 ▸ err_new (B := w.heap.size + 1) 9 (by decide) HK2.out.lt
  clear hw3
  have ht := hk3.there 4 (Nat.le_refl _)
  have HK := Lib.hid hk3
  have HB := Lib.hid hb3
  have HE := Lib.hid he3
  clear hk3 hb3 he3
  go_wp2_with (refine wpList_store_mid rfl 26 _ _ rfl w.heap.size 0 ms0.vals.toArray rfl rfl ht HI.out HO.out ?_)
  have hk5 := Bk.sets ms0.vals 0 _ _ HK.out
  rw [puts_whole ms0.vals.toArray ms0.vals rfl] at hk5
  refine bodyPost_ret (v := .tuple #[.agg ms0.vals.toArray, .iface 59 (.pointer (some ⟨_, 0, none⟩))]) ?_ rfl ⟨_, rfl, (err_sets HE.out (Nat.lt_succ_self _) _).lo (Nat.le_succ _), below_sets _ (Nat.le_refl _) 0 _ HB.out⟩
  exact results_cell2 rfl rfl rfl (run_loadVar_mid _ w.heap.size 0 26 ms0.vals _ hk5.range Try.underlying26 rfl HI.out)
/-- What the last region keeps: the block of the answer. -/
def PR (w0 : World) (b : Nat) (w : World) : Prop := (Below b w0 w ∧ ∃ A, Bk w b 26 A ∧ A.size = 4) ∧ w.there b 0 4
theorem pr_mk {w0 w : World} {b : Nat} {A : Array Value} (hb : Below b w0 w) (hA : Bk w b 26 A) (hz : A.size = 4) : PR w0 b w := ⟨⟨hb, A, hA, hz⟩, hA.there 4 (by omega)⟩
theorem pr_stored {w0 w : World} {b : Nat} (vs : List Value) (hl : vs.length = 4) (h : PR w0 b w) : Bk (w.setCells b 0 vs) b 26 vs.toArray := by
  obtain ⟨⟨hb, A, hA, hz⟩, _⟩ := h
  have hk := Bk.sets vs 0 _ _ hA
  rw [puts_whole _ _ (by rw [hz]; exact hl)] at hk
  exact hk
theorem pr_sets {w0 w : World} {b : Nat} (vs : List Value) (hl : vs.length = 4) (h : PR w0 b w) : PR w0 b (w.setCells b 0 vs) :=
  pr_mk (below_sets vs (Nat.le_refl _) 0 _ h.1.1) (pr_stored vs hl h) (by simpa using hl)
theorem pr_drew {w0 w : World} {b : Nat} (h : PR w0 b w) : PR w0 b w.drew := ⟨⟨h.1.1.drew, h.1.2⟩, h.2⟩
set_option maxRecDepth 100000 in
set_option maxHeartbeats 400000 in
theorem parse_ok (s ps : ByteArray) (w : World) (hs : s.size ≤ 78000) (hp : ps.size ≤ 1000) (h : ¬ s.size < 8) (hn : rightB (ps ++ s).data.toList = true) :
    Calls Try.prog 10 #[.string s, .string ps] w fun e w' => e = .returned (.tuple #[.agg (mpkt s).vals.toArray, .nilIface]) ∧ Below w.heap.size w w' := by
  have hI : ¬ (s.size : Int) < 8 := by omega
  have d1 := decide_eq_false hI
  have i0 : (0 : Int) < (s.size : Int) := by omega
  have i1 : (1 : Int) < (s.size : Int) := by omega
  have i8 : (8 : Int) ≤ (s.size : Int) := by omega
  have h0 : 0 < s.size := by omega
  have h1 : 1 < s.size := by omega
  have HR := Lib.hid (fun W => right_two ps s W hs hp)
  rw [hn] at HR
  have l0 := wd_le s.data.toList 0
  have l2 := wd_le s.data.toList 2
  have l3 := wd_le s.data.toList 3
  have e0 : (s[0]'h0).toNat = wd s.data.toList 0 / 256 := by
    rw [← byN_at s 0 h0]
    have := byN_lt s 0
    have := byN_lt s 1
    unfold wd byN at *
    simp only [Nat.reduceMul, Nat.reduceAdd] at *
    omega
  have e1 : (s[1]'h1).toNat = wd s.data.toList 0 % 256 := by
    rw [← byN_at s 1 h1]
    have := byN_lt s 0
    have := byN_lt s 1
    unfold wd byN at *
    simp only [Nat.reduceMul, Nat.reduceAdd] at *
    omega
  have hE : (s.extract 4 8).size = 4 := by simp; omega
  have HE : Hid ((s.extract 4 8).size = 4) := Lib.hid hE
  have HF : Hid (numOf ((s.extract 4 8).extract 0 (0 + 4)).data.toList = wd s.data.toList 2 * 65536 + wd s.data.toList 3) := Lib.hid (num_rest s (by omega))
  have HD : Hid ((mpkt s).vals = [.int .i64 (wd s.data.toList 0 / 256 : Nat), .int .i64 (wd s.data.toList 0 % 256 : Nat), .int .u32 (wd s.data.toList 2 * 65536 + wd s.data.toList 3 : Nat), .string (s.extract 8 s.size)]) := Lib.hid rfl
  obtain ⟨R, hR⟩ : ∃ R, R = wd s.data.toList 2 * 65536 + wd s.data.toList 3 := ⟨_, rfl⟩
  have k2 : IntKind.u32.wrap ((R : Nat) : Int) = ((R : Nat) : Int) := IntWalk.u32_in _ (by omega)
  obtain ⟨y0, hy0⟩ : ∃ y, y = wd s.data.toList 0 / 256 := ⟨_, rfl⟩
  obtain ⟨y1, hy1⟩ : ∃ y, y = wd s.data.toList 0 % 256 := ⟨_, rfl⟩
  have k0 : IntKind.i64.wrap (((s[0]'h0).toNat : Nat) : Int) = ((y0 : Nat) : Int) := by rw [e0, hy0]; exact IntWalk.i64_in _ (by omega)
  have k1 : IntKind.i64.wrap (((s[1]'h1).toNat : Nat) : Int) = ((y1 : Nat) : Int) := by rw [e1, hy1]; exact IntWalk.i64_in _ (by omega)
  rw [← hR] at HF HD
  rw [← hy0, ← hy1] at HD
  generalize mpkt s = Q at *
  clear hR hy0 hy1 e0 e1 l0 l2 l3 hE h hs hp hn
  obtain ⟨D, hD⟩ : ∃ D, s.extract 8 s.size = D := ⟨_, rfl⟩
  rw [hD] at HD
  have hk0 : Bk (w.alloc (.cells #[.int .i64 0, .int .i64 0, .int .u32 0, .string ⟨#[]⟩] 26)) w.heap.size 26 ms0.vals.toArray := bk_new _ _ _
  have hb0 : Below w.heap.size w (w.alloc (.cells #[.int .i64 0, .int .i64 0, .int .u32 0, .string ⟨#[]⟩] 26)) := (Below.refl _ _).alloc (Nat.le_refl _) _
  have hs0 : (w.alloc (.cells #[.int .i64 0, .int .i64 0, .int .u32 0, .string ⟨#[]⟩] 26)).heap.size = w.heap.size + 1 := by simp
  generalize hw1 : w.alloc (.cells #[.int .i64 0, .int .i64 0, .int .u32 0, .string ⟨#[]⟩] 26) = w1 at *
  have HK0 := Lib.hid hk0
  have HB0 := Lib.hid hb0
  have HS0 := Lib.hid hs0
  clear hk0 hb0 hs0
  have HI : Hid ((Try.prog.info? 26).map (·.size) = some 4) := Lib.hid (Try.infoMs ms0)
  have HO : Hid (([.int .i64 (y0 : Nat), .int .i64 (y1 : Nat), .int .u32 (R : Nat), .string D] : List Value).toArray.all (·.oneCell') = true) := Lib.hid (by simp [Value.oneCell'])
  go_enter Try.func10, Try.ntmps10
  go_upto_region 1 with (fail)
  clear hw1
  go_wp2_with fail
  refine (HR.out _).mono ?_
  rintro e w2 ⟨rfl, b2⟩
  have HK2 := Lib.hid (HK0.out.below b2 HK0.out.lt)
  have HB2 := Lib.hid (HB0.out.trans (b2.mono (Nat.le_of_lt HK0.out.lt)))
  clear b2 HK0 HB0 HS0 HR
  go_wp2_with fail
  refine (new_any _ _).mono ?_
  rintro e w3 ⟨rfl, hw3⟩
  have HR3 : Hid (Rd w3 w2.heap.size (s.extract 4 8) 0 0) := Lib.hid (hw3 ▸ Rd.new _ _)
  have HK3 : Hid (Bk w3 w.heap.size 26 ms0.vals.toArray) := Lib.hid (hw3 ▸ HK2.out.alloc _)
  have HB3 : Hid (Below w.heap.size w w3) := Lib.hid (hw3 ▸ HB2.out.alloc (Nat.le_of_lt HK2.out.lt) _)
  have HL : Hid (w.heap.size < w2.heap.size) := Lib.hid HK2.out.lt
  clear hw3 HK2 HB2
  generalize w2.heap.size = r at *
  go_wp2_with fail
  refine (u32_of _ _ (number_ok HR3.out (by rw [HE.out]; decide) 4 (by decide) (by rw [HE.out]; decide)) two_read).mono ?_
  rintro e w4 ⟨rfl, hR4, hG4⟩
  rw [HF.out]
  have hk4 := HK3.out.grown hG4 (by have := HL.out; simp; omega)
  have hb4 := HB3.out.grown hG4 (Nat.le_of_lt HK3.out.lt) (fun j hj => by cases hj; exact Nat.le_of_lt HL.out)
  have HPS := Lib.hid (pr_mk hb4 hk4 rfl)
  clear hR4 hG4 hk4 hb4 HR3 HK3 HB3 HF
  go_upto_region 7 with (fail)
  refine wp_region_noPanic ?_
  refine wp_region_held_drew (S := fun w' => (Below w.heap.size w w' ∧ ∃ A, Bk w' w.heap.size 26 A ∧ A.size = 4) ∧ w'.there w.heap.size 0 4) (by kernel_rfl) (pr_drew HPS.out) (fun hHeld => ?_)
  refine wpAnyH_take (i := 0) (oi := { dst := some 31, op := Op.move (Operand.tmp 0), type := 9, pos := "icmp6.go:46", after := #[], guard := none }) (v := ?_) rfl (by kernel_rfl) (by kernel_rfl) (by kernel_rfl) (fun _ _ _ h => h) (Or.inl ⟨by rfl, ?_⟩) (by assumption) ?_
  rotate_left
  · (intro ww hSw; (try dsimp only at hSw); go_simp; try with_reducible rfl)
  (try simp only [Act.put, List.setIfInBounds_toArray, List.set_cons_zero, List.set_cons_succ])
  refine wpAnyH_take (i := 1) (oi := { dst := some 32, op := Op.index 9 (Operand.tmp 31) (Operand.const (Value.int IntKind.i64 0)), type := 5, pos := "icmp6.go:46", after := #[{ on := 0, ground := Ground.data }], guard := none }) (v := ?_) rfl (by kernel_rfl) (by kernel_rfl) (by kernel_rfl) (fun _ _ _ h => h) (Or.inl ⟨by rfl, ?_⟩) (by assumption) ?_
  rotate_left
  · (intro ww hSw; (try dsimp only at hSw); go_simp; try with_reducible rfl)
  (try simp only [Act.put, List.setIfInBounds_toArray, List.set_cons_zero, List.set_cons_succ])
  refine wpAnyH_take (i := 2) (oi := { dst := some 33, op := Op.convert 5 3 (Operand.tmp 32), type := 3, pos := "icmp6.go:46", after := #[{ on := 1, ground := Ground.data }], guard := none }) (v := ?_) rfl (by kernel_rfl) (by kernel_rfl) (by kernel_rfl) (fun _ _ _ h => h) (Or.inl ⟨by rfl, ?_⟩) (by assumption) ?_
  rotate_left
  · (intro ww hSw; (try dsimp only at hSw); go_simp; try with_reducible rfl)
  (try simp only [Act.put, List.setIfInBounds_toArray, List.set_cons_zero, List.set_cons_succ])
  refine wpAnyH_take (i := 3) (oi := { dst := some 34, op := Op.move (Operand.tmp 0), type := 9, pos := "icmp6.go:46", after := #[], guard := none }) (v := ?_) rfl (by kernel_rfl) (by kernel_rfl) (by kernel_rfl) (fun _ _ _ h => h) (Or.inl ⟨by rfl, ?_⟩) (by assumption) ?_
  rotate_left
  · (intro ww hSw; (try dsimp only at hSw); go_simp; try with_reducible rfl)
  (try simp only [Act.put, List.setIfInBounds_toArray, List.set_cons_zero, List.set_cons_succ])
  refine wpAnyH_take (i := 4) (oi := { dst := some 35, op := Op.index 9 (Operand.tmp 34) (Operand.const (Value.int IntKind.i64 1)), type := 5, pos := "icmp6.go:46", after := #[{ on := 3, ground := Ground.data }], guard := none }) (v := ?_) rfl (by kernel_rfl) (by kernel_rfl) (by kernel_rfl) (fun _ _ _ h => h) (Or.inl ⟨by rfl, ?_⟩) (by assumption) ?_
  rotate_left
  · (intro ww hSw; (try dsimp only at hSw); go_simp; try with_reducible rfl)
  (try simp only [Act.put, List.setIfInBounds_toArray, List.set_cons_zero, List.set_cons_succ])
  refine wpAnyH_take (i := 5) (oi := { dst := some 36, op := Op.convert 5 3 (Operand.tmp 35), type := 3, pos := "icmp6.go:46", after := #[{ on := 4, ground := Ground.data }], guard := none }) (v := ?_) rfl (by kernel_rfl) (by kernel_rfl) (by kernel_rfl) (fun _ _ _ h => h) (Or.inl ⟨by rfl, ?_⟩) (by assumption) ?_
  rotate_left
  · (intro ww hSw; (try dsimp only at hSw); go_simp; try with_reducible rfl)
  (try simp only [Act.put, List.setIfInBounds_toArray, List.set_cons_zero, List.set_cons_succ])
  refine wpAnyH_take (i := 6) (oi := { dst := some 37, op := Op.move (Operand.tmp 7), type := 3, pos := "icmp6.go:46", after := #[], guard := none }) (v := ?_) rfl (by kernel_rfl) (by kernel_rfl) (by kernel_rfl) (fun _ _ _ h => h) (Or.inl ⟨by rfl, ?_⟩) (by assumption) ?_
  rotate_left
  · (intro ww hSw; (try dsimp only at hSw); go_simp; try with_reducible rfl)
  (try simp only [Act.put, List.setIfInBounds_toArray, List.set_cons_zero, List.set_cons_succ])
  refine wpAnyH_take (i := 7) (oi := { dst := some 38, op := Op.convert 3 24 (Operand.tmp 37), type := 24, pos := "icmp6.go:46", after := #[{ on := 6, ground := Ground.data }], guard := none }) (v := ?_) rfl (by kernel_rfl) (by kernel_rfl) (by kernel_rfl) (fun _ _ _ h => h) (Or.inl ⟨by rfl, ?_⟩) (by assumption) ?_
  rotate_left
  · (intro ww hSw; (try dsimp only at hSw); go_simp; try with_reducible rfl)
  (try simp only [Act.put, List.setIfInBounds_toArray, List.set_cons_zero, List.set_cons_succ])
  refine wpAnyH_take (i := 8) (oi := { dst := some 39, op := Op.move (Operand.tmp 0), type := 9, pos := "icmp6.go:46", after := #[], guard := none }) (v := ?_) rfl (by kernel_rfl) (by kernel_rfl) (by kernel_rfl) (fun _ _ _ h => h) (Or.inl ⟨by rfl, ?_⟩) (by assumption) ?_
  rotate_left
  · (intro ww hSw; (try dsimp only at hSw); go_simp; try with_reducible rfl)
  (try simp only [Act.put, List.setIfInBounds_toArray, List.set_cons_zero, List.set_cons_succ])
  refine wpAnyH_take (i := 9) (oi := { dst := some 40, op := Op.slice 9 (Operand.tmp 39) (some (Operand.const (Value.int IntKind.i64 8))) none none, type := 9, pos := "icmp6.go:46", after := #[{ on := 8, ground := Ground.data }], guard := none }) (v := ?_) rfl (by kernel_rfl) (by kernel_rfl) (by kernel_rfl) (fun _ _ _ h => h) (Or.inl ⟨by rfl, ?_⟩) (by assumption) ?_
  rotate_left
  · (intro ww hSw; (try dsimp only at hSw); go_simp; try with_reducible rfl)
  (try simp only [Act.put, List.setIfInBounds_toArray, List.set_cons_zero, List.set_cons_succ])
  refine wpAnyH_take (i := 10) (oi := { dst := some 41, op := Op.build 26 #[(0, Operand.tmp 33), (1, Operand.tmp 36), (2, Operand.tmp 38), (3, Operand.tmp 40)], type := 26, pos := "icmp6.go:46", after := #[{ on := 2, ground := Ground.data }, { on := 5, ground := Ground.data }, { on := 7, ground := Ground.data }, { on := 9, ground := Ground.data }], guard := none }) (v := ?_) rfl (by kernel_rfl) (by kernel_rfl) (by kernel_rfl) (fun _ _ _ h => h) (Or.inl ⟨by rfl, ?_⟩) (by assumption) ?_
  rotate_left
  · (intro ww hSw; (try dsimp only at hSw); go_simp; try with_reducible rfl)
  (try simp only [Act.put, List.setIfInBounds_toArray, List.set_cons_zero, List.set_cons_succ])
  refine wpAnyH_ready (rs := [11]) (by kernel_rfl) (by simp) ?_
  refine AllReadyH.cons (o := { dst := none, op := Op.store 26 (Operand.tmp 4) (Operand.tmp 41), type := 0, pos := "icmp6.go:46", after := #[{ on := 10, ground := Ground.data }, { on := 0, ground := Ground.phase }, { on := 1, ground := Ground.phase }, { on := 2, ground := Ground.phase }, { on := 3, ground := Ground.phase }, { on := 4, ground := Ground.phase }, { on := 5, ground := Ground.phase }, { on := 6, ground := Ground.phase }, { on := 7, ground := Ground.phase }, { on := 8, ground := Ground.phase }, { on := 9, ground := Ground.phase }, { on := 10, ground := Ground.phase }], guard := none }) rfl (fun K hK => ?_) AllReadyH.nil
  rw [if_pos (by rfl)]
  have hvl := pr_stored ([.int .i64 (y0 : Nat), .int .i64 (y1 : Nat), .int .u32 (R : Nat), .string D] : List Value) rfl hHeld
  refine wp_store_mid 26 _ _ rfl w.heap.size 0 ([.int .i64 (y0 : Nat), .int .i64 (y1 : Nat), .int .u32 (R : Nat), .string D] : List Value).toArray rfl rfl hHeld.2 HI.out HO.out ?_
  refine hK.out _ _ (pr_sets ([.int .i64 (y0 : Nat), .int .i64 (y1 : Nat), .int .u32 (R : Nat), .string D] : List Value) rfl hHeld) (fun hHeld => ?_)
  clear hK K
  (try simp only [Act.put])
  refine wpAnyH_take (i := 12) (oi := { dst := some 5, op := Op.assign (Operand.const Value.nilIface), type := 29, pos := "icmp6.go:46", after := #[{ on := 11, ground := Ground.chain }, { on := 0, ground := Ground.phase }, { on := 1, ground := Ground.phase }, { on := 2, ground := Ground.phase }, { on := 3, ground := Ground.phase }, { on := 4, ground := Ground.phase }, { on := 5, ground := Ground.phase }, { on := 6, ground := Ground.phase }, { on := 7, ground := Ground.phase }, { on := 8, ground := Ground.phase }, { on := 9, ground := Ground.phase }, { on := 10, ground := Ground.phase }, { on := 11, ground := Ground.phase }], guard := none }) (v := ?_) rfl (by kernel_rfl) (by kernel_rfl) (by kernel_rfl) (fun _ _ _ h => h) (Or.inl ⟨by rfl, ?_⟩) (by assumption) ?_
  rotate_left
  · (intro ww hSw; (try dsimp only at hSw); go_simp; try with_reducible rfl)
  (try simp only [Act.put, List.setIfInBounds_toArray, List.set_cons_zero, List.set_cons_succ])
  refine wpAnyH_done (by kernel_rfl) ?_ _
  refine NoPanic.normal ?_
  have HBl := Lib.hid (And.left hHeld).1
  have HVL := Lib.hid hvl
  clear hHeld hvl
  go_wp2_with fail
  refine bodyPost_ret (v := .tuple #[.agg ([.int .i64 (y0 : Nat), .int .i64 (y1 : Nat), .int .u32 (R : Nat), .string D] : List Value).toArray, .nilIface]) ?_ rfl ⟨by rw [HD.out], HBl.out⟩
  exact results_cell2 rfl rfl rfl (run_loadVar_mid _ w.heap.size 0 26 ([.int .i64 (y0 : Nat), .int .i64 (y1 : Nat), .int .u32 (R : Nat), .string D] : List Value) _ HVL.out.range Try.underlying26 rfl HI.out)
theorem parse_any (s ps : ByteArray) (w : World) (hs : s.size ≤ 78000) (hp : ps.size ≤ 1000) :
    Calls Try.prog 10 #[.string s, .string ps] w fun e w' => ∃ x, e = .returned (.tuple #[.agg (mans ps s).vals.toArray, x]) ∧ ErrV w.heap.size (mcode ps s) x w' ∧ Below w.heap.size w w' := by
  unfold mans
  by_cases h8 : s.size < 8
  · have e : mcode ps s = 7 := by unfold mcode; rw [if_pos h8]
    rw [e, if_neg (by decide)]
    exact parse_short s ps w h8
  · by_cases hn : sumL (ps ++ s).data.toList = 0
    · have e : mcode ps s = 0 := by unfold mcode; rw [if_neg h8, if_pos hn]
      rw [e, if_pos rfl]
      refine (parse_ok s ps w hs hp h8 ((rightB_iff _).2 hn)).mono ?_
      rintro e w' ⟨rfl, b⟩
      exact ⟨_, rfl, err_none, b⟩
    · have e : mcode ps s = 9 := by unfold mcode; rw [if_neg h8, if_neg hn]
      rw [e, if_neg (by decide)]
      refine parse_sum s ps w hs hp h8 ?_
      cases hr : rightB (ps ++ s).data.toList
      · rfl
      · exact absurd ((rightB_iff _).1 hr) hn
end Go.Proofs.Ytmfolkbmkfifcaa
