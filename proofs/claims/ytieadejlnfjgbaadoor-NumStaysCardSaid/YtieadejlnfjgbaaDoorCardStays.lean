/-
  Proved here: the law NumStays answers true whatever it is given, and its arguments read afterwards as before (the tied card).
  Conditions: none but the row's own (the listed variable starts as the program's text lays it, tied by the given tie).
-/
import Derived.Test.YtieadejlnfjgbaaDoorLift
import Derived.Test.YtieadejlnfjgbaaDoorStays
import Derived.Test.YtieadejlnfjgbaaDoorCards
import Derived.Test.YtieadejlnfjgbaaDoorTie
import Derived.Deep.SlicePairs
namespace Go.Proofs.YtieadejlnfjgbaaDoor
open Go.ChangeShapes Go.WideShapes Go.RowKit Go.ChangeMaps Go.Deep

set_option maxRecDepth 100000 in
theorem numStays_long1 (s : ByteArray) (ao : Option Addr) (len cap : Nat) (w : World) (hg : Held w) (hs : 3000 < s.size) :
    Calls Tryd.prog 9 #[.string s, .slice ao len cap] w fun e w' => e = .returned (.bool true) ∧ Below w.heap.size w w' := by
  go_enter Tryd.func9, Tryd.ntmps9
  go_wp2_with fail
  refine (awake_true w hg).mono ?_
  rintro e w1 ⟨rfl, b1⟩
  have hB1 := Lib.hid b1
  clear b1
  go_wp2_with fail
  go_ret
  exact ⟨rfl, hB1.out⟩
set_option maxRecDepth 100000 in
theorem numStays_long2 (s : ByteArray) (ao : Option Addr) (len cap : Nat) (w : World) (hg : Held w) (hs : s.size ≤ 3000) (hl : 300 < len) :
    Calls Tryd.prog 9 #[.string s, .slice ao len cap] w fun e w' => e = .returned (.bool true) ∧ Below w.heap.size w w' := by
  go_enter Tryd.func9, Tryd.ntmps9
  go_wp2_with fail
  refine (awake_true w hg).mono ?_
  rintro e w1 ⟨rfl, b1⟩
  have hB1 := Lib.hid b1
  clear b1
  go_wp2_with fail
  go_ret
  exact ⟨rfl, hB1.out⟩
theorem numStays_any (s : ByteArray) (ao : Option Addr) (len cap : Nat) (D N : Nat → Int) (w : World) (t2 t3 : Int) (hg : Held w) (hT : Tab w t2 t3) (hA : ActsIn w ao len D N) :
    Calls Tryd.prog 9 #[.string s, .slice ao len cap] w fun e w' => e = .returned (.bool true) ∧ Below w.heap.size w w' := by
  rcases Nat.lt_or_ge 3000 s.size with h | h
  · exact numStays_long1 s ao len cap w hg h
  · rcases Nat.lt_or_ge 300 len with h' | h'
    · exact numStays_long2 s ao len cap w hg h h'
    · exact numStays_walk s ao len cap D N w t2 t3 hg hT h h' hA

theorem Tryd.tabRow : ((begin Tryd.prog (fun _ _ => 0) default).world.heap[1]?).bind Obj.row? = some (Array.replicate 20 (Value.int .u64 0), 113) := by kernel_rfl
theorem Tryd.tabBuilds : Tryd.prog.buildable 113 = true := by kernel_rfl
theorem Tryd.globalsSize : Tryd.prog.globals.size = 4 := by kernel_rfl
set_option maxRecDepth 100000 in
/-- Each cell of the table holds some number: the world's shape says so. -/
theorem tab_of {w : World} (h : w.ShapedOpen Tryd.prog) (o : Nat) (ho : o < 20) : ∃ m, w.cell? ⟨1, o, none⟩ = some (.int .u64 m) := by
  obtain ⟨cs, hh, hs, hr⟩ := h.1 1 _ _ (by rw [Tryd.globalsSize]; decide) Tryd.tabRow
  obtain ⟨ts, hts, _, hall⟩ := hr Tryd.tabBuilds
  rw [show Tryd.prog.cellTypes Tryd.prog.depth 113 = some (List.replicate 20 92) by kernel_rfl] at hts
  cases hts
  have h1 : o < cs.size := by rw [hs]; simpa using ho
  obtain ⟨u, hu', hok⟩ := hall o cs[o] (by simp [h1])
  have hu : u = 92 := by
    rw [List.length_replicate, Nat.mod_eq_of_lt ho, List.getElem?_replicate, if_pos ho] at hu'
    exact (Option.some.inj hu').symm
  subst hu
  have hcell : w.cell? ⟨1, o, none⟩ = some cs[o] := by simp [World.cell?, hh, h1]
  rw [hcell]
  unfold Cell.ok at hok
  rw [Tryd.underlying92] at hok
  cases hv : cs[o] <;> rw [hv] at hok <;> simp at hok
  case int k' n => exact ⟨n, by rw [hok.1]⟩

theorem Tryd.cellsInt : Tryd.prog.cellsOf 3 = 1 := by kernel_rfl
theorem Tryd.cellsAct : Tryd.prog.cellsOf 43 = 2 := by kernel_rfl
theorem Tryd.laidOut : laidOutB Tryd.prog = true := by kernel_rfl

set_option maxRecDepth 100000 in
/-- A slice of acts, opened. -/
theorem open_acts {H : Type} {enc : TypeId × Value → H} {W : World} {v : Value} {d : DataW H} {ps : List MemPlace} {base : Nat} (hv : Value.okWide Tryd.prog W .any base 38 v) (h : DataW.Trod enc Tryd.prog W 0 (fun _ => true) true 38 v d ps) :
    ∃ ao len cap D N, v = .slice ao len cap ∧ ActsIn W ao len D N := by
  obtain ⟨ao, len, cap, rfl⟩ := okWide_slice Tryd.underlying38 hv
  obtain ⟨fuel, hf⟩ := h
  rcases open_slice_pairs Tryd.underlying38 Tryd.underlying43 Tryd.cellsAct rfl rfl Tryd.cellsInt Tryd.cellsInt hf with ⟨hc, hx⟩ | ⟨a, len', cap', m, k, V0, V1, D0, D1, P0, P1, hc, _, hl, hm, hmm, hx, hall⟩
  · have hc' : [Value.slice ao len cap] = [Value.slice none 0 0] := hc
    simp only [List.cons.injEq, and_true, Value.slice.injEq] at hc'
    obtain ⟨rfl, rfl, rfl⟩ := hc'
    exact ⟨none, 0, 0, fun _ => 0, fun _ => 0, rfl, fun i hi => absurd hi (Nat.not_lt_zero i)⟩
  · have hc' : [Value.slice ao len cap] = [Value.slice (some a) len' cap'] := hc
    simp only [List.cons.injEq, and_true, Value.slice.injEq] at hc'
    obtain ⟨rfl, rfl, rfl⟩ := hc'
    simp only [if_true] at hmm
    subst hmm
    refine ⟨some a, len, m, fun i => RowKit.intOf (V0 i), fun i => RowKit.intOf (V1 i), rfl, fun i hi => ?_⟩
    obtain ⟨ab, o, spot⟩ := a
    have hspot : spot = none := by simpa [Addr.add] using World.cell?_spot (hall 0 (by omega)).1
    subst hspot
    obtain ⟨g0, g1, t0, t1⟩ := hall i (by omega)
    obtain ⟨n0, e0, _⟩ := DataW.trod_int Tryd.underlying3 t0
    obtain ⟨n1, e1, _⟩ := DataW.trod_int Tryd.underlying3 t1
    simp only [List.cons.injEq, and_true] at e0 e1
    rw [add_plain] at g0 g1
    refine ⟨ab, o, rfl, ?_, ?_⟩
    · show _ = some (Value.int .i64 (RowKit.intOf (V0 i)))
      rw [g0, e0]; rfl
    · show _ = some (Value.int .i64 (RowKit.intOf (V1 i)))
      rw [Nat.add_assoc, g1, e1]; rfl

set_option maxRecDepth 100000 in
theorem numStays_lifted (os : Os) (started : os.Started) (H : Type) (enc : TypeId × Value → H) :
    ReturnsInHanded {} Tryd.checked os 9 .any (fun w args => (Rows.numStaysSpec.pre enc Tryd.prog Tryd.f9 [] false w args ∧ laidMetH Tryd.prog [("errors.errorType", Rows.laid_errors_errorType)] w) ∧ sizedMet enc Tryd.prog Tryd.f9 (OpenSpec.ofChange Rows.numStaysSpec) false w args)
      (Rows.numStaysSpec.post enc Tryd.prog Tryd.f9 false true false false) := by
  refine returnsInHanded_of_calls Tryd.own started (by kernel_rfl)
    (ChangeSpec.witness_at (enc := enc) (C := Tryd.checked) (os := os) (X := fun w _ => laidMetH Tryd.prog [("errors.errorType", Rows.laid_errors_errorType)] w) false (laidWorld os) #[.string ⟨#[]⟩, .slice none 0 0] 8 rfl (by kernel_rfl) (by kernel_rfl) (by kernel_rfl) (by kernel_rfl) (by kernel_rfl) (laidWorld_met os _)) ?_
  intro w tape i _ hsh _ hok hpre _
  obtain ⟨_, _, _, fn', hfn', _, _, _, _, hval0⟩ := hok
  obtain rfl : fn' = Tryd.f9 := Option.some.inj (hfn'.symm.trans Tryd.func9)
  obtain ⟨⟨⟨ds, gs, before, hw, _⟩, hx⟩, _⟩ := hpre
  have hW := DataW.Whole.of_heap (w' := w.forCall tape i) (by rfl) hw
  have hL : laidMetH Tryd.prog [("errors.errorType", Rows.laid_errors_errorType)] (w.forCall tape i) := hx.of_heap (by rfl)
  obtain ⟨t2, hc2⟩ := tab_of hsh 2 (by decide)
  obtain ⟨t3, hc3⟩ := tab_of hsh 3 (by decide)
  suffices hS : Calls Tryd.prog 9 i.args (w.forCall tape i) fun e W' => ∃ v, e = .returned v ∧ Rows.numStaysSpec.post enc Tryd.prog Tryd.f9 false true false false (w.forCall tape i) i.args v W' by
    refine hS.mono fun e W' ⟨v, he, hp⟩ => ?_
    subst he
    exact ChangeSpec.post_blind hp
  have hT : Tab (w.forCall tape i) t2 t3 := ⟨hc2, hc3⟩
  have hval : ∀ (j : Nat) t v, Tryd.f9.params[j]? = some t → i.args[j]? = some v → Value.okWide Tryd.prog (w.forCall tape i) .any w.heap.size t v := hval0
  generalize i.args = args at hW hval
  generalize w.forCall tape i = W at hW hL hT hval
  generalize w.heap.size = base at hval
  have hW' := hW
  obtain ⟨p, q, hA0, hV, rfl, hfz, hnd⟩ := hW
  have hA : DataW.TrodAll enc Tryd.prog W 0 (fun _ => true) true Tryd.f9.params.toList args.toList ds p := hA0
  rw [Tryd.params9] at hA hval
  obtain ⟨v0, v1, d0, d1, p0, p1, rfl, rfl, rfl, h0, h1⟩ := trodAll_two hA
  obtain ⟨rfl, rfl⟩ := trodVars_none hV
  obtain ⟨s, rfl, rfl, rfl, ws⟩ := open_string Tryd.underlying9 (hval 0 9 v0 rfl rfl) h0
  obtain ⟨ao, len, cap, D, N, rfl, hacts⟩ := open_acts (hval 1 38 v1 rfl rfl) h1
  clear hA0
  simp only [List.append_nil, List.nil_append] at hW'
  have hlt : ∀ x ∈ p1, x.block < W.heap.size := fun x hx => by simpa using hW'.lt x hx
  refine (numStays_any s ao len cap D N W t2 t3 (held_of_laid hL) hT hacts).mono fun e W' ⟨he, hb⟩ => ?_
  subst he
  refine ⟨_, rfl, _, _, _, [], [] ++ p1, [], hW', ?_, ?_, ?_, hb.frame _, fun h => by cases h⟩
  · exact trodAll_mk1 (shut_bool Tryd.underlying4 true)
  · exact trodAll_mk2 (shut_string Tryd.underlying9 ws) (Below.trod Tryd.laidOut (by kernel_rfl) (of_decide_eq_true (by kernel_rfl)) h1 hb hlt)
  · rfl

theorem numStays_holds : Rows.NumStaysSaid :=
  OpenClaim.holds_of_wide 9 Tryd.f9 rfl rfl rfl rfl rfl rfl rfl ⟨rfl, rfl, rfl, rfl, rfl⟩ rfl rfl rfl rfl rfl (by kernel_rfl) Tryd.func9 (by kernel_rfl)
    (of_decide_eq_true (by kernel_rfl)) (by unfold Func.isWrapper; rw [if_neg (of_decide_eq_false (by kernel_rfl))]; exact ⟨rfl, rfl⟩)
    (fun os started H enc _ => numStays_lifted os started H enc)

theorem numStays_card : Rows.NumStaysCardSaid :=
  Claim7.holds_tied_plain_at .later [] _ _ _ _
    numStays_holds (fun _ h => by cases h) (by kernel_rfl) (fun _ h => by cases h) numStays_row_tie rfl ⟨rfl, rfl⟩ (by kernel_rfl) rfl
    (fun f fn hf hfn => by
      obtain rfl : f = 9 := Option.some.inj ((show Tryd.prog.funcNamed "interpreter/interpreterlaw01.NumStays" = some 9 by kernel_rfl).symm.trans hf) |>.symm
      obtain rfl : fn = Tryd.f9 := (Option.some.inj (Tryd.func9.symm.trans hfn)).symm
      exact ⟨by kernel_rfl, fun j t ht => by
        rw [Tryd.params9] at ht
        have h3 : t = 9 ∨ t = 38 := by
          rcases j with _ | _ | j
          · exact .inl (by simpa using ht.symm)
          · exact .inr (by simpa using ht.symm)
          · simp at ht
        rcases h3 with rfl | rfl
        · exact (show Tryd.prog.wantsStandIn 9 = false by kernel_rfl)
        · exact (show Tryd.prog.wantsStandIn 38 = false by kernel_rfl)⟩)
    (by kernel_rfl)
end Go.Proofs.YtieadejlnfjgbaaDoor
