/-
  Proved here: the document's Why of a packet within bounds, one of whose extensions is none.
  Conditions: at most 20 extensions, sizes as in Sm.
-/
import Derived.Test.YtphemimpkbjfoaaRefWhyBnd
namespace Go.Proofs.Ytphemimpkbjfoaa
open Go.RowKit

theorem isExB_no {n : Int} (h : isExB n = false) : (n != 0) = true ∧ (n != 43) = true ∧ (n != 60) = true := by
  have h2 : ¬ isEx n := fun hx => by
    have : isExB n = true := decide_eq_true hx
    rw [h] at this
    cases this
  refine ⟨?_, ?_, ?_⟩
  · rw [bne_iff_ne]; exact fun e => h2 (.inl e)
  · rw [bne_iff_ne]; exact fun e => h2 (.inr (.inl e))
  · rw [bne_iff_ne]; exact fun e => h2 (.inr (.inr e))
theorem isExB_yes {n : Int} (h : isExB n = true) : n = 0 ∨ n = 43 ∨ n = 60 := of_decide_eq_true h
set_option maxRecDepth 100000 in
set_option maxHeartbeats 2000000 in
theorem rwhy_ext (p : Pk6) (v : Value) (w : World) (hx : Exs w v p.exts) (hs : Sm p) (hb : p.bnd = true) (hn : p.exts.all (fun e => isExB e.1) = false) :
    Calls Try.prog 41 #[.agg (p.vals v).toArray] w fun e w' => e = .returned (.int .i64 10) ∧ Below w.heap.size w w' := by
  have HF := Lib.hid hn
  have hl20 := hs.len
  have hd7 := hs.data
  have HSm := Lib.hid hs.body
  obtain ⟨ao, cap, rfl, _⟩ := id hx
  have hbb := hb
  unfold Pk6.bnd at hbb
  simp only [Bool.and_eq_true, beq_iff_eq] at hbb
  have h0 := Lib.hid hbb.1
  have h1 := Lib.hid hbb.2.1
  have h2 := Lib.hid hbb.2.2.1
  have h3 := Lib.hid hbb.2.2.2.1
  have h4 := Lib.hid hbb.2.2.2.2.1
  have h8 : p.pl % 8 = 0 := hbb.2.2.2.2.2
  have hp : 0 ≤ p.pl := ((inB_iff _ _).1 h4.out).1
  have hm : Int.tmod p.pl 8 = p.pl % 8 := Int.tmod_eq_emod_of_nonneg hp
  have k4 : IntKind.i64.wrap (p.pl % 8) = p.pl % 8 := IntWalk.i64_in _ (by omega)
  obtain ⟨V, hV, hVl, hD, hK⟩ := boxed6 p (.slice ao p.exts.length cap) w
  rw [← hV]
  clear hV hb hs hn hbb
  have d0 := hD.c0
  have d1 := hD.c1
  have d2 := hD.c2
  have d35 := hD.c35
  have d38 := hD.c38
  have d40 := hD.c40
  have d41 := hD.c41
  have HB := Lib.hid hK.2.1
  have HX := Lib.hid (hx.below hK.2.1 (Nat.le_refl _))
  clear hD hK hx
  generalize hw1 : w.alloc (.cells V.toArray 31) = w1 at *
  go_enter Try.func41, Try.ntmps41
  go_upto_region 1 with (fail)
  clear hw1
  go_wp2_with fail
  refine (rbound_at _ _ _ h0.out _).mono ?_
  rintro e wx ⟨rfl, rfl⟩
  go_wp2_with fail
  refine (rbound_at _ _ _ h1.out _).mono ?_
  rintro e wx ⟨rfl, rfl⟩
  go_wp2_with fail
  refine (rbound_at _ _ _ h2.out _).mono ?_
  rintro e wx ⟨rfl, rfl⟩
  go_wp2_with fail
  refine (rbound_at _ _ _ h3.out _).mono ?_
  rintro e wx ⟨rfl, rfl⟩
  go_wp2_with fail
  refine (rbound_at _ _ _ h4.out _).mono ?_
  rintro e wx ⟨rfl, rfl⟩
  clear h0 h1 h2 h3 h4
  go_wp2_with fail
  go_loopw [3, 4, 5] (fun n i _ wr => ∃ k : Nat, k ≤ p.exts.length ∧ i = .int .i64 k ∧ n = .int .i64 ((p.data.size + esum (p.exts.take k) : Nat) : Int) ∧ Hid ((p.exts.take k).all (fun e => isExB e.1) = true) ∧ w1 = wr) (fun _ i _ _ => p.exts.length - (intOf i).toNat)
  case atStart => exact ⟨0, Nat.zero_le _, rfl, by simp [esum], Lib.hid rfl, rfl⟩
  case round =>
    obtain ⟨k, hk, rfl, rfl, HA, rfl⟩ := hrel
    by_cases hlt : k < p.exts.length
    · obtain ⟨b, ob, rfl, g1, g2⟩ := exs_cells HX.out k hlt
      have hn := esum_snoc p.exts k hlt
      have HN := Lib.hid hn
      have HAll := Lib.hid (all_snoc p.exts k hlt (fun e => isExB e.1) HA.out)
      have hk2 : (k : Int) < (p.exts.length : Int) := by omega
      have hb2 : p.exts[k].2.size ≤ 70000 := HSm.out _ (List.getElem_mem hlt)
      have hs2 : esum (p.exts.take k) ≤ 1400040 := by
        have e1 := esum_le p.exts k
        have e2 := esum_small p.exts HSm.out
        have e3 : 70002 * p.exts.length ≤ 70002 * 20 := Nat.mul_le_mul_left _ hl20
        omega
      clear hn
      generalize p.exts[k] = x at *
      obtain ⟨kd, bd⟩ := x
      dsimp only at g1 g2 hb2 HN HAll
      generalize esum (p.exts.take k) = S at *
      cases hy : isExB kd
      · obtain ⟨y0, y1, y2⟩ := isExB_no hy
        clear hy
        go_wp2_with fail
        go_ret
        exact ⟨rfl, HB.out⟩
      · have HM := Lib.hid (HAll.out hy)
        rcases isExB_yes hy with rfl | rfl | rfl
        all_goals
          clear hy
          go_wp2_with fail
          go_roundw
          case rel => exact ⟨k + 1, by omega, by go_num, by rw [HN.out]; congr 1; omega, HM, by trivial⟩
          case measure => simp [intOf]; omega
    · obtain rfl : k = p.exts.length := by omega
      have hA := HA.out
      rw [List.take_length, HF.out] at hA
      cases hA
end Go.Proofs.Ytphemimpkbjfoaa
