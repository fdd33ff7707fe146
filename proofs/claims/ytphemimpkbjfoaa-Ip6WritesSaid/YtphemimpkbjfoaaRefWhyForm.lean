/-
  Proved here: the document's Why of a packet one of whose extensions is not formed.
  Conditions: at most 20 extensions, sizes as in Sm.
-/
import Derived.Test.YtphemimpkbjfoaaRefWhyProto
namespace Go.Proofs.Ytphemimpkbjfoaa
open Go.RowKit

set_option maxRecDepth 100000 in
set_option maxHeartbeats 2000000 in
theorem rwhy_form (p : Pk6) (v : Value) (w : World) (hx : Exs w v p.exts) (hs : Sm p) (hb : p.bnd = true) (hkd : p.kinds = true) (hfm : formed p.exts = false) :
    Calls Try.prog 41 #[.agg (p.vals v).toArray] w fun e w' => e = .returned (.int .i64 8) ∧ Below w.heap.size w w' := by
  have hn : p.exts.all (fun e => isExB e.1) = true := by unfold Pk6.kinds at hkd; rw [Bool.and_eq_true] at hkd; exact hkd.1
  have hpk : p.frag = false → isExB p.proto = false ∧ (p.proto != 44) = true := fun e => by
    unfold Pk6.kinds at hkd
    rw [e] at hkd
    simp only [Bool.false_or, Bool.and_eq_true, Bool.not_eq_true'] at hkd
    exact hkd.2
  have HFM := Lib.hid hfm
  have HF := Lib.hid hn
  have hl20 := hs.len
  have hd7 := hs.data
  have HSm := Lib.hid hs.body
  obtain ⟨ao, cap, rfl, _⟩ := id hx
  have hbb := hb
  unfold Pk6.bnd at hbb
  simp only [Bool.and_eq_true, beq_iff_eq] at hbb
  have h0 := Lib.hid hbb.1
  have h1 := Lib.hid hbb.2.1
  have h2 := Lib.hid hbb.2.2.1
  have h3 := Lib.hid hbb.2.2.2.1
  have h4 := Lib.hid hbb.2.2.2.2.1
  have h8 : p.pl % 8 = 0 := hbb.2.2.2.2.2
  have hp : 0 ≤ p.pl := ((inB_iff _ _).1 h4.out).1
  have hm : Int.tmod p.pl 8 = p.pl % 8 := Int.tmod_eq_emod_of_nonneg hp
  have k4 : IntKind.i64.wrap (p.pl % 8) = p.pl % 8 := IntWalk.i64_in _ (by omega)
  obtain ⟨V, hV, hVl, hD, hK⟩ := boxed6 p (.slice ao p.exts.length cap) w
  rw [← hV]
  clear hV hb hs hn hbb hkd hfm
  have d0 := hD.c0
  have d1 := hD.c1
  have d2 := hD.c2
  have d35 := hD.c35
  have d38 := hD.c38
  have d36 := hD.c36
  have d40 := hD.c40
  have d41 := hD.c41
  have HB := Lib.hid hK.2.1
  have HX := Lib.hid (hx.below hK.2.1 (Nat.le_refl _))
  clear hD hK hx
  generalize hw1 : w.alloc (.cells V.toArray 31) = w1 at *
  go_enter Try.func41, Try.ntmps41
  go_upto_region 1 with (fail)
  clear hw1
  have hcase : p.frag = true ∨ (p.frag = false ∧ (p.proto == 0) = false ∧ (p.proto == 43) = false ∧ (p.proto == 44) = false ∧ (p.proto == 60) = false) := by
    cases e : p.frag
    · obtain ⟨e1, e2⟩ := hpk e
      obtain ⟨a, b, c⟩ := isExB_no e1
      exact .inr ⟨rfl, by simpa using a, by simpa using b, by simpa using e2, by simpa using c⟩
    · exact .inl rfl
  clear hpk
  rcases hcase with hf | ⟨hf, qq0, qq1, qq2, qq3⟩
  all_goals
    rw [hf] at d36
    clear hf
    go_wp2_with fail
    refine (rbound_at _ _ _ h0.out _).mono ?_
    rintro e wx ⟨rfl, rfl⟩
    go_wp2_with fail
    refine (rbound_at _ _ _ h1.out _).mono ?_
    rintro e wx ⟨rfl, rfl⟩
    go_wp2_with fail
    refine (rbound_at _ _ _ h2.out _).mono ?_
    rintro e wx ⟨rfl, rfl⟩
    go_wp2_with fail
    refine (rbound_at _ _ _ h3.out _).mono ?_
    rintro e wx ⟨rfl, rfl⟩
    go_wp2_with fail
    refine (rbound_at _ _ _ h4.out _).mono ?_
    rintro e wx ⟨rfl, rfl⟩
    clear h0 h1 h2 h3 h4
    go_wp2_with fail
    go_loopw [3, 4, 5] (fun n i _ wr => ∃ k : Nat, k ≤ p.exts.length ∧ i = .int .i64 k ∧ n = .int .i64 ((p.data.size + esum (p.exts.take k) : Nat) : Int) ∧ Hid ((p.exts.take k).all (fun e => isExB e.1) = true) ∧ w1 = wr) (fun _ i _ _ => p.exts.length - (intOf i).toNat)
    case atStart => exact ⟨0, Nat.zero_le _, rfl, by simp [esum], Lib.hid rfl, rfl⟩
    case round =>
      obtain ⟨k, hk, rfl, rfl, HA, rfl⟩ := hrel
      by_cases hlt : k < p.exts.length
      · obtain ⟨b, ob, rfl, g1, g2⟩ := exs_cells HX.out k hlt
        have hn := esum_snoc p.exts k hlt
        have HN := Lib.hid hn
        have HAll := Lib.hid (all_snoc p.exts k hlt (fun e => isExB e.1) HA.out)
        have hk2 : (k : Int) < (p.exts.length : Int) := by omega
        have hb2 : p.exts[k].2.size ≤ 70000 := HSm.out _ (List.getElem_mem hlt)
        have hs2 : esum (p.exts.take k) ≤ 1400040 := by
          have e1 := esum_le p.exts k
          have e2 := esum_small p.exts HSm.out
          have e3 : 70002 * p.exts.length ≤ 70002 * 20 := Nat.mul_le_mul_left _ hl20
          omega
        have hyy : isExB p.exts[k].1 = true := List.all_eq_true.1 HF.out _ (List.getElem_mem hlt)
        clear hn
        generalize p.exts[k] = x at *
        obtain ⟨kd, bd⟩ := x
        dsimp only at g1 g2 hb2 HN HAll hyy
        generalize esum (p.exts.take k) = S at *
        have hy : isExB kd = true := hyy
        have HM := Lib.hid (HAll.out hy)
        rcases isExB_yes hy with rfl | rfl | rfl
        all_goals
          clear hy
          try clear hyy
          go_wp2_with fail
          go_roundw
          case rel => exact ⟨k + 1, by omega, by go_num, by rw [HN.out]; congr 1; omega, HM, by trivial⟩
          case measure => simp [intOf]; omega
      · obtain rfl : k = p.exts.length := by omega
        have hsz : esum p.exts ≤ 1400040 := by
          have e2 := esum_small p.exts HSm.out
          have e3 : 70002 * p.exts.length ≤ 70002 * 20 := Nat.mul_le_mul_left _ hl20
          omega
        rw [List.take_length]
        generalize esum p.exts = SS at *
        go_wp2_with fail
        go_loopw [6, 7] (fun i _ wr => ∃ k : Nat, k ≤ p.exts.length ∧ i = .int .i64 k ∧ Hid (fms p.exts k = true) ∧ w1 = wr) (fun i _ _ => p.exts.length - (intOf i).toNat)
        case atStart => exact ⟨0, Nat.zero_le _, rfl, Lib.hid rfl, rfl⟩
        case round =>
          obtain ⟨k, hk, rfl, HA2, rfl⟩ := hrel
          by_cases hlt : k < p.exts.length
          · obtain ⟨b, ob, rfl, g1, g2⟩ := exs_cells HX.out k hlt
            have HN2 := Lib.hid (fms_snoc p.exts k hlt HA2.out)
            have hk2 : (k : Int) < (p.exts.length : Int) := by omega
            have hb2 : p.exts[k].2.size ≤ 70000 := HSm.out _ (List.getElem_mem hlt)
            generalize p.exts[k] = x at *
            obtain ⟨kd, bd⟩ := x
            dsimp only at g1 g2 hb2
            have k5 : IntKind.i64.wrap ((bd.size : Int) + 2) = (bd.size : Int) + 2 := IntWalk.i64_in _ (by omega)
            have k3 : ((bd.size : Int) + 2).tmod 8 = ((bd.size : Int) + 2) % 8 := Int.tmod_eq_emod_of_nonneg (by omega)
            have k6 : IntKind.i64.wrap (((bd.size : Int) + 2) % 8) = ((bd.size : Int) + 2) % 8 := IntWalk.i64_in _ (by omega)
            by_cases h1 : bd.size < 6
            · have m1 : (bd.size : Int) + 2 < 8 := by omega
              have m1' : decide ((bd.size : Int) + 2 < 8) = true := decide_eq_true m1
              clear h1 HN2
              go_wp2_with fail
              go_ret
              exact ⟨rfl, HB.out⟩
            · have m1 : ¬ (bd.size : Int) + 2 < 8 := by omega
              have m1' : decide ((bd.size : Int) + 2 < 8) = false := decide_eq_false m1
              by_cases h2 : bd.size % 8 = 6
              · have m2 : (((bd.size : Int) + 2) % 8 != 0) = false := by rw [show ((bd.size : Int) + 2) % 8 = 0 by omega]; rfl
                by_cases h3 : bd.size ≤ 2046
                · have m3 : ¬ (2048 : Int) < (bd.size : Int) + 2 := by omega
                  have m3' : decide ((2048 : Int) < (bd.size : Int) + 2) = false := decide_eq_false m3
                  by_cases h4 : kd = 0
                  · subst h4
                    by_cases h5 : k = 0
                    · have m5 : ¬ (0 : Int) < (k : Int) := by omega
                      have m5' : decide ((0 : Int) < (k : Int)) = false := decide_eq_false m5
                      have HT := Lib.hid (HN2.out (by unfold fm1 inPl; dsimp only; rw [h2, decide_eq_true h3, show ((k : Int) == 0) = true by rw [h5]; rfl]; rfl))
                      clear h1 h2 h3 h5 HN2
                      go_wp2_with fail
                      go_roundw
                      case rel => exact ⟨k + 1, by omega, by go_num, HT, by trivial⟩
                      case measure => simp [intOf]; omega
                    · have m5 : (0 : Int) < (k : Int) := by omega
                      have m5' : decide ((0 : Int) < (k : Int)) = true := decide_eq_true m5
                      clear h1 h2 h3 h5 HN2
                      go_wp2_with fail
                      go_ret
                      exact ⟨rfl, HB.out⟩
                  · have m4 : (kd == 0) = false := by rw [beq_eq_false_iff_ne]; exact h4
                    have HT := Lib.hid (HN2.out (by unfold fm1 inPl; dsimp only; rw [h2, decide_eq_true h3, show (kd != 0) = true from bne_iff_ne.2 h4]; rfl))
                    clear h1 h2 h3 h4 HN2
                    go_wp2_with fail
                    go_roundw
                    case rel => exact ⟨k + 1, by omega, by go_num, HT, by trivial⟩
                    case measure => simp [intOf]; omega
                · have m3 : (2048 : Int) < (bd.size : Int) + 2 := by omega
                  have m3' : decide ((2048 : Int) < (bd.size : Int) + 2) = true := decide_eq_true m3
                  clear h1 h2 h3 HN2
                  go_wp2_with fail
                  go_ret
                  exact ⟨rfl, HB.out⟩
              · have m2 : (((bd.size : Int) + 2) % 8 != 0) = true := by rw [bne_iff_ne]; omega
                clear h1 h2 HN2
                go_wp2_with fail
                go_ret
                exact ⟨rfl, HB.out⟩
          · obtain rfl : k = p.exts.length := by omega
            have hA2 := HA2.out
            have hF2 := HFM.out
            unfold formed at hF2
            rw [hF2] at hA2
            cases hA2
end Go.Proofs.Ytphemimpkbjfoaa
