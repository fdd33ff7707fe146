/-
  Proved here: the law NumBack answers true whatever it is given, and its arguments read afterwards as before (the tied card).
  Conditions: none but the row's own (the listed variable starts as the program's text lays it, tied by the given tie).
-/
import Derived.Test.YtieadejlnfjgbaaDoorLift
import Derived.Test.YtieadejlnfjgbaaDoorBack
import Derived.Test.YtieadejlnfjgbaaDoorCards
import Derived.Test.YtieadejlnfjgbaaDoorTie
import Derived.Deep.Slices
namespace Go.Proofs.YtieadejlnfjgbaaDoor
open Go.ChangeShapes Go.WideShapes Go.RowKit Go.ChangeMaps Go.Deep

set_option maxRecDepth 100000 in
theorem numBack_long1 (lo zo : Option Addr) (len lcap zlen zcap : Nat) (behind : ByteArray) (w : World) (hg : Held w) (hl : 300 < len) :
    Calls Tryd.prog 8 #[.slice lo len lcap, .slice zo zlen zcap, .string behind] w fun e w' => e = .returned (.bool true) ∧ Below w.heap.size w w' := by
  go_enter Tryd.func8, Tryd.ntmps8
  go_wp2_with fail
  refine (awake_true w hg).mono ?_
  rintro e w1 ⟨rfl, b1⟩
  have hB1 := Lib.hid b1
  clear b1
  go_wp2_with fail
  go_ret
  exact ⟨rfl, hB1.out⟩
set_option maxRecDepth 100000 in
theorem numBack_long2 (lo zo : Option Addr) (len lcap zlen zcap : Nat) (behind : ByteArray) (w : World) (hg : Held w) (hl : len ≤ 300) (hb : 300 < behind.size) :
    Calls Tryd.prog 8 #[.slice lo len lcap, .slice zo zlen zcap, .string behind] w fun e w' => e = .returned (.bool true) ∧ Below w.heap.size w w' := by
  go_enter Tryd.func8, Tryd.ntmps8
  go_wp2_with fail
  refine (awake_true w hg).mono ?_
  rintro e w1 ⟨rfl, b1⟩
  have hB1 := Lib.hid b1
  clear b1
  go_wp2_with fail
  go_ret
  exact ⟨rfl, hB1.out⟩
theorem numBack_any (lo zo : Option Addr) (len lcap zlen zcap : Nat) (L Z : Nat → Int) (behind : ByteArray) (w : World) (hg : Held w)
    (hL : NumsAt w lo len .u32 4294967296 L) (hZ : NumsAt w zo zlen .u8 256 Z) :
    Calls Tryd.prog 8 #[.slice lo len lcap, .slice zo zlen zcap, .string behind] w fun e w' => e = .returned (.bool true) ∧ Below w.heap.size w w' := by
  rcases Nat.lt_or_ge 300 len with h | h
  · exact numBack_long1 lo zo len lcap zlen zcap behind w hg h
  · rcases Nat.lt_or_ge 300 behind.size with h' | h'
    · exact numBack_long2 lo zo len lcap zlen zcap behind w hg h h'
    · exact numBack_walk lo zo len lcap zlen zcap L Z behind w hg h h' hL hZ

theorem Tryd.cellsU32 : Tryd.prog.cellsOf 63 = 1 := by kernel_rfl
theorem Tryd.cellsU8 : Tryd.prog.cellsOf 5 = 1 := by kernel_rfl
theorem Tryd.wfU32 (n : Int) (h : (Lit.int .u32 n).wf = true) : 0 ≤ n ∧ n < 4294967296 := by
  simp [Lit.wf, IntKind.min, IntKind.max, IntKind.bits, IntKind.signed] at h
  omega
theorem Tryd.wfU8 (n : Int) (h : (Lit.int .u8 n).wf = true) : 0 ≤ n ∧ n < 256 := by
  simp [Lit.wf, IntKind.min, IntKind.max, IntKind.bits, IntKind.signed] at h
  omega
theorem Tryd.laidOut : laidOutB Tryd.prog = true := by kernel_rfl

set_option maxRecDepth 100000 in
/-- A slice of numbers that are not below 0, opened. -/
theorem open_nums {H : Type} {enc : TypeId × Value → H} {W : World} {v : Value} {d : DataW H} {ps : List MemPlace} {base : Nat} {t e : TypeId} {k : IntKind} {lim : Int} (ht : Tryd.prog.underlying t = some (.slice e)) (he : Tryd.prog.underlying e = some (.int k)) (hc : Tryd.prog.cellsOf e = 1)
    (hwf : ∀ n, (Lit.int k n).wf = true → 0 ≤ n ∧ n < lim) (hv : Value.okWide Tryd.prog W .any base t v) (h : DataW.Trod enc Tryd.prog W 0 (fun _ => true) true t v d ps) :
    ∃ ao len cap L, v = .slice ao len cap ∧ NumsAt W ao len k lim L := by
  obtain ⟨ao, len, cap, rfl⟩ := okWide_slice ht hv
  obtain ⟨fuel, hf⟩ := h
  rcases open_ints ht he hc hf with ⟨hcs, hx⟩ | ⟨a, len', cap', zs, hcs, _, hl, hm, hzl, hx, hall, hw⟩
  · have hc' : [Value.slice ao len cap] = [Value.slice none 0 0] := hcs
    simp only [List.cons.injEq, and_true, Value.slice.injEq] at hc'
    obtain ⟨rfl, rfl, rfl⟩ := hc'
    exact ⟨none, 0, 0, fun _ => 0, rfl, fun i hi => absurd hi (Nat.not_lt_zero i)⟩
  · have hc' : [Value.slice ao len cap] = [Value.slice (some a) len' cap'] := hcs
    simp only [List.cons.injEq, and_true, Value.slice.injEq] at hc'
    obtain ⟨rfl, rfl, rfl⟩ := hc'
    simp only [if_true] at hzl
    refine ⟨some a, len, cap, fun i => zs.getD i 0, rfl, fun i hi => ?_⟩
    obtain ⟨ab, o, spot⟩ := a
    have hspot : spot = none := by simpa [Addr.add] using World.cell?_spot (hall 0 (by omega))
    subst hspot
    have g0 := hall i (by omega)
    rw [add_plain] at g0
    refine ⟨⟨ab, o, rfl, g0⟩, hwf _ (hw _ ?_)⟩
    have hi' : i < zs.length := by omega
    show zs.getD i 0 ∈ zs
    rw [List.getD_eq_getElem?_getD, List.getElem?_eq_getElem hi']
    exact List.getElem_mem hi'

set_option maxRecDepth 100000 in
theorem numBack_lifted (os : Os) (started : os.Started) (H : Type) (enc : TypeId × Value → H) :
    ReturnsInHanded {} Tryd.checked os 8 .any (fun w args => (Rows.numBackSpec.pre enc Tryd.prog Tryd.f8 [] false w args ∧ laidMetH Tryd.prog [("errors.errorType", Rows.laid_errors_errorType)] w) ∧ sizedMet enc Tryd.prog Tryd.f8 (OpenSpec.ofChange Rows.numBackSpec) false w args)
      (Rows.numBackSpec.post enc Tryd.prog Tryd.f8 false true false false) := by
  refine returnsInHanded_of_change_and (C := Tryd.checked) (X := fun w _ => laidMetH Tryd.prog [("errors.errorType", Rows.laid_errors_errorType)] w) (fun _ _ _ hh h => h.of_heap hh) Tryd.own started (by kernel_rfl) Tryd.func8
    (ChangeSpec.witness_at (enc := enc) (C := Tryd.checked) (os := os) (X := fun w _ => laidMetH Tryd.prog [("errors.errorType", Rows.laid_errors_errorType)] w) false (laidWorld os) #[.slice none 0 0, .slice none 0 0, .string ⟨#[]⟩] 8 rfl (by kernel_rfl) (by kernel_rfl) (by kernel_rfl) (by kernel_rfl) (by kernel_rfl) (laidWorld_met os _)) ?_
  intro W base args ds gs before hval0 hW _ _ hL _
  have hval : ∀ (j : Nat) t v, Tryd.f8.params[j]? = some t → args[j]? = some v → Value.okWide Tryd.prog W .any base t v := hval0
  have hW' := hW
  obtain ⟨p, q, hA0, hV, rfl, hfz, hnd⟩ := hW
  have hA : DataW.TrodAll enc Tryd.prog W 0 (fun _ => true) true Tryd.f8.params.toList args.toList ds p := hA0
  rw [Tryd.params8] at hA hval
  obtain ⟨v0, v1, v2, d0, d1, d2, p0, p1, p2, rfl, rfl, rfl, h0, h1, h2⟩ := trodAll_three hA
  obtain ⟨rfl, rfl⟩ := trodVars_none hV
  obtain ⟨s, rfl, rfl, rfl, ws⟩ := open_string Tryd.underlying9 (hval 2 9 v2 rfl rfl) h2
  obtain ⟨lo, len, lcap, L, rfl, hLs⟩ := open_nums (lim := 4294967296) Tryd.underlying60 Tryd.underlying63 Tryd.cellsU32 Tryd.wfU32 (hval 0 60 v0 rfl rfl) h0
  obtain ⟨zo, zlen, zcap, Z, rfl, hZs⟩ := open_nums (lim := 256) Tryd.underlying61 Tryd.underlying5 Tryd.cellsU8 Tryd.wfU8 (hval 1 61 v1 rfl rfl) h1
  clear hA0 hval0
  simp only [List.append_nil] at hW'
  have hlt0 : ∀ x ∈ p0, x.block < W.heap.size := fun x hx => by simpa using hW'.lt x (List.mem_append_left _ hx)
  have hlt1 : ∀ x ∈ p1, x.block < W.heap.size := fun x hx => by simpa using hW'.lt x (List.mem_append_right _ hx)
  refine (numBack_any lo zo len lcap zlen zcap L Z s W (held_of_laid hL) hLs hZs).mono fun e W' ⟨he, hb⟩ => ?_
  subst he
  refine ⟨_, rfl, _, _, _, [], p0 ++ (p1 ++ []), [], hW', ?_, ?_, ?_, hb.frame _, fun h => by cases h⟩
  · exact trodAll_mk1 (shut_bool Tryd.underlying4 true)
  · exact trodAll_mk3 (Below.trod Tryd.laidOut (by kernel_rfl) (of_decide_eq_true (by kernel_rfl)) h0 hb hlt0) (Below.trod Tryd.laidOut (by kernel_rfl) (of_decide_eq_true (by kernel_rfl)) h1 hb hlt1) (shut_string Tryd.underlying9 ws)
  · rfl

theorem numBack_holds : Rows.NumBackSaid :=
  OpenClaim.holds_of_wide 8 Tryd.f8 rfl rfl rfl rfl rfl rfl rfl ⟨rfl, rfl, rfl, rfl, rfl⟩ rfl rfl rfl rfl rfl (by kernel_rfl) Tryd.func8 (by kernel_rfl)
    (of_decide_eq_true (by kernel_rfl)) (by unfold Func.isWrapper; rw [if_neg (of_decide_eq_false (by kernel_rfl))]; exact ⟨rfl, rfl⟩)
    (fun os started H enc _ => numBack_lifted os started H enc)

theorem numBack_card : Rows.NumBackCardSaid :=
  Claim7.holds_tied_plain_at .later [] _ _ _ _
    numBack_holds (fun _ h => by cases h) (by kernel_rfl) (fun _ h => by cases h) numBack_row_tie rfl ⟨rfl, rfl⟩ (by kernel_rfl) rfl
    (fun f fn hf hfn => by
      obtain rfl : f = 8 := Option.some.inj ((show Tryd.prog.funcNamed "interpreter/interpreterlaw01.NumBack" = some 8 by kernel_rfl).symm.trans hf) |>.symm
      obtain rfl : fn = Tryd.f8 := (Option.some.inj (Tryd.func8.symm.trans hfn)).symm
      exact ⟨by kernel_rfl, fun j t ht => by
        rw [Tryd.params8] at ht
        have h3 : t = 60 ∨ t = 61 ∨ t = 9 := by
          rcases j with _ | _ | _ | j
          · exact .inl (by simpa using ht.symm)
          · exact .inr (.inl (by simpa using ht.symm))
          · exact .inr (.inr (by simpa using ht.symm))
          · simp at ht
        rcases h3 with rfl | rfl | rfl
        · exact (show Tryd.prog.wantsStandIn 60 = false by kernel_rfl)
        · exact (show Tryd.prog.wantsStandIn 61 = false by kernel_rfl)
        · exact (show Tryd.prog.wantsStandIn 9 = false by kernel_rfl)⟩)
    (by kernel_rfl)
end Go.Proofs.YtieadejlnfjgbaaDoor
