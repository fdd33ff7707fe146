/-
  Proved here: the document's Why of a whole packet whose numbers are within bounds, whose kinds may be and whose extensions are formed.
  Conditions: at most 20 extensions, sizes as in Sm.
-/
import Derived.Test.YtphemimpkbjfoaaRefWhyForm
namespace Go.Proofs.Ytphemimpkbjfoaa
open Go.RowKit

set_option maxRecDepth 100000 in
set_option maxHeartbeats 2000000 in
theorem rwhy_whole (p : Pk6) (v : Value) (w : World) (hx : Exs w v p.exts) (hs : Sm p) (hb : p.bnd = true) (hkd : p.kinds = true) (hfm : formed p.exts = true) (hf : p.frag = false) :
    Calls Try.prog 41 #[.agg (p.vals v).toArray] w fun e w' => e = .returned (.int .i64 p.why) ∧ Below w.heap.size w w' := by
  have W8 := Lib.hid (fun h : p.piece = false => show p.why = 8 by unfold Pk6.why; rw [if_neg (by rw [hb]; decide), if_neg (by rw [hkd]; decide), if_pos (.inr h)])
  have W3 := Lib.hid (fun (h : p.piece = true) (h2 : 8 < p.exts.length ∨ p.rch = false ∨ 65535 < p.behind) => show p.why = 3 by unfold Pk6.why; rw [if_neg (by rw [hb]; decide), if_neg (by rw [hkd]; decide), if_neg (by rw [hfm, h]; decide), if_pos h2])
  have W0 := Lib.hid (fun (h : p.piece = true) (h2 : ¬ (8 < p.exts.length ∨ p.rch = false ∨ 65535 < p.behind)) => show p.why = 0 by unfold Pk6.why; rw [if_neg (by rw [hb]; decide), if_neg (by rw [hkd]; decide), if_neg (by rw [hfm, h]; decide), if_neg h2])
  have HP := Lib.hid (show p.piece = (p.id == 0 && (p.pl == 0 && !p.more)) by unfold Pk6.piece; rw [hf]; rfl)
  have HB8 := Lib.hid (show p.behind = p.data.size + 0 + esum p.exts by unfold Pk6.behind; rw [hf]; rfl)
  have HR := Lib.hid (show p.rch = decide (p.pl + p.data.size ≤ 65535) from rfl)
  have hn : p.exts.all (fun e => isExB e.1) = true := by unfold Pk6.kinds at hkd; rw [Bool.and_eq_true] at hkd; exact hkd.1
  have hpk : p.frag = false → isExB p.proto = false ∧ (p.proto != 44) = true := fun e => by
    unfold Pk6.kinds at hkd
    rw [e] at hkd
    simp only [Bool.false_or, Bool.and_eq_true, Bool.not_eq_true'] at hkd
    exact hkd.2
  have HFM := Lib.hid hfm
  have HF := Lib.hid hn
  have hl20 := hs.len
  have hd7 := hs.data
  have HSm := Lib.hid hs.body
  obtain ⟨ao, cap, rfl, _⟩ := id hx
  have hbb := hb
  unfold Pk6.bnd at hbb
  simp only [Bool.and_eq_true, beq_iff_eq] at hbb
  have h0 := Lib.hid hbb.1
  have h1 := Lib.hid hbb.2.1
  have h2 := Lib.hid hbb.2.2.1
  have h3 := Lib.hid hbb.2.2.2.1
  have h4 := Lib.hid hbb.2.2.2.2.1
  have h8 : p.pl % 8 = 0 := hbb.2.2.2.2.2
  have hp : 0 ≤ p.pl := ((inB_iff _ _).1 h4.out).1
  have hpp : p.pl ≤ 65528 := ((inB_iff _ _).1 h4.out).2
  have hm : Int.tmod p.pl 8 = p.pl % 8 := Int.tmod_eq_emod_of_nonneg hp
  have k4 : IntKind.i64.wrap (p.pl % 8) = p.pl % 8 := IntWalk.i64_in _ (by omega)
  have k9 : IntKind.i64.wrap (p.pl + (p.data.size : Int)) = p.pl + (p.data.size : Int) := IntWalk.i64_in _ (by omega)
  obtain ⟨V, hV, hVl, hD, hK⟩ := boxed6 p (.slice ao p.exts.length cap) w
  rw [← hV]
  clear hV hb hs hn hbb hkd hfm
  have d0 := hD.c0
  have d1 := hD.c1
  have d2 := hD.c2
  have d35 := hD.c35
  have d36 := hD.c36
  have d37 := hD.c37
  have d38 := hD.c38
  have d39 := hD.c39
  have d40 := hD.c40
  have d41 := hD.c41
  have HB := Lib.hid hK.2.1
  have HX := Lib.hid (hx.below hK.2.1 (Nat.le_refl _))
  clear hD hK hx
  generalize hw1 : w.alloc (.cells V.toArray 31) = w1 at *
  go_enter Try.func41, Try.ntmps41
  go_upto_region 1 with (fail)
  clear hw1
  rw [hf] at d36
  obtain ⟨e1, e2⟩ := hpk hf
  obtain ⟨a, b, c⟩ := isExB_no e1
  have qq0 : (p.proto == 0) = false := by simpa using a
  have qq1 : (p.proto == 43) = false := by simpa using b
  have qq2 : (p.proto == 44) = false := by simpa using e2
  have qq3 : (p.proto == 60) = false := by simpa using c
  clear hpk hf e1 e2 a b c
  go_wp2_with fail
  refine (rbound_at _ _ _ h0.out _).mono ?_
  rintro e wx ⟨rfl, rfl⟩
  go_wp2_with fail
  refine (rbound_at _ _ _ h1.out _).mono ?_
  rintro e wx ⟨rfl, rfl⟩
  go_wp2_with fail
  refine (rbound_at _ _ _ h2.out _).mono ?_
  rintro e wx ⟨rfl, rfl⟩
  go_wp2_with fail
  refine (rbound_at _ _ _ h3.out _).mono ?_
  rintro e wx ⟨rfl, rfl⟩
  go_wp2_with fail
  refine (rbound_at _ _ _ h4.out _).mono ?_
  rintro e wx ⟨rfl, rfl⟩
  clear h0 h1 h2 h3 h4
  go_wp2_with fail
  go_loopw [3, 4, 5] (fun n i _ wr => ∃ k : Nat, k ≤ p.exts.length ∧ i = .int .i64 k ∧ n = .int .i64 ((p.data.size + esum (p.exts.take k) : Nat) : Int) ∧ Hid ((p.exts.take k).all (fun e => isExB e.1) = true) ∧ w1 = wr) (fun _ i _ _ => p.exts.length - (intOf i).toNat)
  case atStart => exact ⟨0, Nat.zero_le _, rfl, by simp [esum], Lib.hid rfl, rfl⟩
  case round =>
    obtain ⟨k, hk, rfl, rfl, HA, rfl⟩ := hrel
    by_cases hlt : k < p.exts.length
    · obtain ⟨b, ob, rfl, g1, g2⟩ := exs_cells HX.out k hlt
      have hn := esum_snoc p.exts k hlt
      have HN := Lib.hid hn
      have HAll := Lib.hid (all_snoc p.exts k hlt (fun e => isExB e.1) HA.out)
      have hk2 : (k : Int) < (p.exts.length : Int) := by omega
      have hb2 : p.exts[k].2.size ≤ 70000 := HSm.out _ (List.getElem_mem hlt)
      have hs2 : esum (p.exts.take k) ≤ 1400040 := by
        have e1 := esum_le p.exts k
        have e2 := esum_small p.exts HSm.out
        have e3 : 70002 * p.exts.length ≤ 70002 * 20 := Nat.mul_le_mul_left _ hl20
        omega
      have hyy : isExB p.exts[k].1 = true := List.all_eq_true.1 HF.out _ (List.getElem_mem hlt)
      clear hn
      generalize p.exts[k] = x at *
      obtain ⟨kd, bd⟩ := x
      dsimp only at g1 g2 hb2 HN HAll hyy
      generalize esum (p.exts.take k) = S at *
      have hy : isExB kd = true := hyy
      have HM := Lib.hid (HAll.out hy)
      rcases isExB_yes hy with rfl | rfl | rfl
      all_goals
        clear hy
        try clear hyy
        go_wp2_with fail
        go_roundw
        case rel => exact ⟨k + 1, by omega, by go_num, by rw [HN.out]; congr 1; omega, HM, by trivial⟩
        case measure => simp [intOf]; omega
    · obtain rfl : k = p.exts.length := by omega
      have hsz : esum p.exts ≤ 1400040 := by
        have e2 := esum_small p.exts HSm.out
        have e3 : 70002 * p.exts.length ≤ 70002 * 20 := Nat.mul_le_mul_left _ hl20
        omega
      rw [List.take_length]
      generalize esum p.exts = SS at *
      go_wp2_with fail
      go_loopw [6, 7] (fun i _ wr => ∃ k : Nat, k ≤ p.exts.length ∧ i = .int .i64 k ∧ w1 = wr) (fun i _ _ => p.exts.length - (intOf i).toNat)
      case atStart => exact ⟨0, Nat.zero_le _, rfl, rfl⟩
      case round =>
        obtain ⟨k, hk, rfl, rfl⟩ := hrel
        by_cases hlt : k < p.exts.length
        · obtain ⟨b, ob, rfl, g1, g2⟩ := exs_cells HX.out k hlt
          have hf1 := fms_at HFM.out k hlt
          have hk2 : (k : Int) < (p.exts.length : Int) := by omega
          have hb2 : p.exts[k].2.size ≤ 70000 := HSm.out _ (List.getElem_mem hlt)
          generalize p.exts[k] = x at *
          obtain ⟨kd, bd⟩ := x
          dsimp only at g1 g2 hb2
          unfold fm1 inPl at hf1
          simp only [Bool.and_eq_true, decide_eq_true_eq, beq_iff_eq, Bool.or_eq_true, bne_iff_ne] at hf1
          obtain ⟨z1, z2, z3⟩ := hf1
          have k5 : IntKind.i64.wrap ((bd.size : Int) + 2) = (bd.size : Int) + 2 := IntWalk.i64_in _ (by omega)
          have k3 : ((bd.size : Int) + 2).tmod 8 = ((bd.size : Int) + 2) % 8 := Int.tmod_eq_emod_of_nonneg (by omega)
          have k6 : IntKind.i64.wrap (((bd.size : Int) + 2) % 8) = ((bd.size : Int) + 2) % 8 := IntWalk.i64_in _ (by omega)
          have m1 : ¬ (bd.size : Int) + 2 < 8 := by omega
          have m1' : decide ((bd.size : Int) + 2 < 8) = false := decide_eq_false m1
          have m2 : (((bd.size : Int) + 2) % 8 != 0) = false := by rw [show ((bd.size : Int) + 2) % 8 = 0 by omega]; rfl
          have m3 : ¬ (2048 : Int) < (bd.size : Int) + 2 := by omega
          have m3' : decide ((2048 : Int) < (bd.size : Int) + 2) = false := decide_eq_false m3
          by_cases h4 : kd = 0
          · subst h4
            have h5 : k = 0 := by
              rcases z3 with z | z
              · exact absurd rfl z
              · omega
            have m5 : ¬ (0 : Int) < (k : Int) := by omega
            have m5' : decide ((0 : Int) < (k : Int)) = false := decide_eq_false m5
            clear h5 z1 z2 z3
            go_wp2_with fail
            go_roundw
            case rel => exact ⟨k + 1, by omega, by go_num, by trivial⟩
            case measure => simp [intOf]; omega
          · have m4 : (kd == 0) = false := by rw [beq_eq_false_iff_ne]; exact h4
            clear h4 z1 z2 z3
            go_wp2_with fail
            go_roundw
            case rel => exact ⟨k + 1, by omega, by go_num, by trivial⟩
            case measure => simp [intOf]; omega
        · obtain rfl : k = p.exts.length := by omega
          generalize hTT : p.data.size + SS = TT at *
          have hT1 : TT ≤ 1500000 := by omega
          by_cases hid : p.id = 0
          · have i1 : (p.id != 0) = false := by rw [hid]; rfl
            by_cases hpl : p.pl = 0
            · have i2 : (p.pl != 0) = false := by rw [hpl]; rfl
              cases h3 : p.more
              · have HPT : Hid (p.piece = true) := Lib.hid (by rw [HP.out, hid, hpl, h3]; rfl)
                rw [h3] at d39
                clear h3
                by_cases g1 : 8 < p.exts.length
                · have m1 : (8 : Int) < (p.exts.length : Int) := by omega
                  have m1' : decide ((8 : Int) < (p.exts.length : Int)) = true := decide_eq_true m1
                  have HW := Lib.hid (W3.out HPT.out (.inl g1))
                  clear W8 W3 W0
                  go_wp2_with fail
                  go_ret
                  exact ⟨by rw [HW.out]; rfl, HB.out⟩
                · have m1 : ¬ (8 : Int) < (p.exts.length : Int) := by omega
                  have m1' : decide ((8 : Int) < (p.exts.length : Int)) = false := decide_eq_false m1
                  by_cases g2 : p.pl + p.data.size ≤ 65535
                  · have m2 : ¬ (65535 : Int) < p.pl + (p.data.size : Int) := by omega
                    have m2' : decide ((65535 : Int) < p.pl + (p.data.size : Int)) = false := decide_eq_false m2
                    by_cases g3 : 65535 < p.behind
                    · have m3 : (65535 : Int) < (TT : Int) := by have := HB8.out; omega
                      have m3' : decide ((65535 : Int) < (TT : Int)) = true := decide_eq_true m3
                      have HW := Lib.hid (W3.out HPT.out (.inr (.inr g3)))
                      clear W8 W3 W0 g1 g2 g3
                      go_wp2_with fail
                      go_ret
                      exact ⟨by rw [HW.out]; rfl, HB.out⟩
                    · have m3 : ¬ (65535 : Int) < (TT : Int) := by have := HB8.out; omega
                      have m3' : decide ((65535 : Int) < (TT : Int)) = false := decide_eq_false m3
                      have HW := Lib.hid (W0.out HPT.out (fun a => a.elim g1 (fun b => b.elim (fun c => by rw [HR.out, decide_eq_true g2] at c; cases c) g3)))
                      clear W8 W3 W0 g1 g2 g3
                      go_wp2_with fail
                      go_ret
                      exact ⟨by rw [HW.out]; rfl, HB.out⟩
                  · have m2 : (65535 : Int) < p.pl + (p.data.size : Int) := by omega
                    have m2' : decide ((65535 : Int) < p.pl + (p.data.size : Int)) = true := decide_eq_true m2
                    have HW := Lib.hid (W3.out HPT.out (.inr (.inl (by rw [HR.out, decide_eq_false g2]))))
                    clear W8 W3 W0 g1 g2
                    go_wp2_with fail
                    go_ret
                    exact ⟨by rw [HW.out]; rfl, HB.out⟩
              · have HW := Lib.hid (W8.out (by rw [HP.out, hid, hpl, h3]; rfl))
                rw [h3] at d39
                clear h3 W8 W3 W0
                go_wp2_with fail
                go_ret
                exact ⟨by rw [HW.out]; rfl, HB.out⟩
            · have i2 : (p.pl != 0) = true := by rw [bne_iff_ne]; exact hpl
              have HW := Lib.hid (W8.out (by rw [HP.out, beq_eq_false_iff_ne.2 hpl, Bool.false_and, Bool.and_false]))
              clear W8 W3 W0
              go_wp2_with fail
              go_ret
              exact ⟨by rw [HW.out]; rfl, HB.out⟩
          · have i1 : (p.id != 0) = true := by rw [bne_iff_ne]; exact hid
            have HW := Lib.hid (W8.out (by rw [HP.out, beq_eq_false_iff_ne.2 hid, Bool.false_and]))
            clear W8 W3 W0
            go_wp2_with fail
            go_ret
            exact ⟨by rw [HW.out]; rfl, HB.out⟩
end Go.Proofs.Ytphemimpkbjfoaa
