/-
  Proved here: what ip6.bounded, kindsMayBe, extsFormed, pieceFormed, lengthBehind answer.
  Conditions: the slice's cells hold the extensions; small packets.
-/
import Derived.Test.YtdljjcnihajchaaRouted
namespace Go.Proofs.Ytdljjcnihajchaa
open Go.RowKit

/-- Are a packet's numbers in their bounds? -/
def Pk6.bnd (p : Pk6) : Bool := inB p.cls 255 && (inB p.flow 1048575 && (inB p.hop 255 && (inB p.proto 255 && (inB p.pl 65528 && (p.pl % 8 == 0)))))
theorem bnd_pl {p : Pk6} (h : p.bnd = true) : 0 ≤ p.cls ∧ p.cls ≤ 255 ∧ 0 ≤ p.flow ∧ p.flow ≤ 1048575 ∧ 0 ≤ p.hop ∧ p.hop ≤ 255 ∧ 0 ≤ p.proto ∧ p.proto ≤ 255 ∧ 0 ≤ p.pl ∧ p.pl ≤ 65528 ∧ p.pl % 8 = 0 := by
  unfold Pk6.bnd at h
  simp only [Bool.and_eq_true, inB_iff, beq_iff_eq] at h
  obtain ⟨⟨h1, h2⟩, ⟨h3, h4⟩, ⟨h5, h6⟩, ⟨h7, h8⟩, ⟨h9, h10⟩, h11⟩ := h
  exact ⟨h1, h2, h3, h4, h5, h6, h7, h8, h9, h10, h11⟩
set_option maxRecDepth 100000 in
set_option maxHeartbeats 1000000 in
theorem bounded_any (p : Pk6) (v : Value) (w : World) :
    Calls Try.prog 36 #[.agg (p.vals v).toArray] w fun e w' => e = .returned (.bool p.bnd) ∧ Below w.heap.size w w' := by
  have HQ : Hid (p.bnd = (inB p.cls 255 && (inB p.flow 1048575 && (inB p.hop 255 && (inB p.proto 255 && (inB p.pl 65528 && (p.pl % 8 == 0))))))) := Lib.hid rfl
  obtain ⟨V, hV, hVl, hD, hK⟩ := boxed6 p v w
  rw [← hV]
  clear hV
  have d0 := hD.c0
  have d1 := hD.c1
  have d2 := hD.c2
  have d38 := hD.c38
  have d40 := hD.c40
  have HB := Lib.hid hK.2.1
  clear hD hK
  generalize hw1 : w.alloc (.cells V.toArray 27) = w1 at *
  go_enter Try.func36, Try.ntmps36
  go_upto_region 1 with (fail)
  clear hw1
  cases g0 : inB p.cls 255
  · have h0 := Lib.hid g0
    have HT : Hid (p.bnd = false) := Lib.hid (by rw [HQ.out, h0.out]; rfl)
    clear g0
    go_wp2_with fail
    refine (within_at _ _ _ h0.out _).mono ?_
    rintro e w1 ⟨rfl, rfl⟩
    go_wp2_with fail
    go_ret
    exact ⟨ret_bool HT.out.symm, HB.out⟩
  · have h0 := Lib.hid g0
    clear g0
    cases g1 : inB p.flow 1048575
    · have h1 := Lib.hid g1
      have HT : Hid (p.bnd = false) := Lib.hid (by rw [HQ.out, h0.out, h1.out]; rfl)
      clear g1
      go_wp2_with fail
      refine (within_at _ _ _ h0.out _).mono ?_
      rintro e w1 ⟨rfl, rfl⟩
      go_wp2_with fail
      refine (within_at _ _ _ h1.out _).mono ?_
      rintro e w1 ⟨rfl, rfl⟩
      go_wp2_with fail
      go_ret
      exact ⟨ret_bool HT.out.symm, HB.out⟩
    · have h1 := Lib.hid g1
      clear g1
      cases g2 : inB p.hop 255
      · have h2 := Lib.hid g2
        have HT : Hid (p.bnd = false) := Lib.hid (by rw [HQ.out, h0.out, h1.out, h2.out]; rfl)
        clear g2
        go_wp2_with fail
        refine (within_at _ _ _ h0.out _).mono ?_
        rintro e w1 ⟨rfl, rfl⟩
        go_wp2_with fail
        refine (within_at _ _ _ h1.out _).mono ?_
        rintro e w1 ⟨rfl, rfl⟩
        go_wp2_with fail
        refine (within_at _ _ _ h2.out _).mono ?_
        rintro e w1 ⟨rfl, rfl⟩
        go_wp2_with fail
        go_ret
        exact ⟨ret_bool HT.out.symm, HB.out⟩
      · have h2 := Lib.hid g2
        clear g2
        cases g3 : inB p.proto 255
        · have h3 := Lib.hid g3
          have HT : Hid (p.bnd = false) := Lib.hid (by rw [HQ.out, h0.out, h1.out, h2.out, h3.out]; rfl)
          clear g3
          go_wp2_with fail
          refine (within_at _ _ _ h0.out _).mono ?_
          rintro e w1 ⟨rfl, rfl⟩
          go_wp2_with fail
          refine (within_at _ _ _ h1.out _).mono ?_
          rintro e w1 ⟨rfl, rfl⟩
          go_wp2_with fail
          refine (within_at _ _ _ h2.out _).mono ?_
          rintro e w1 ⟨rfl, rfl⟩
          go_wp2_with fail
          refine (within_at _ _ _ h3.out _).mono ?_
          rintro e w1 ⟨rfl, rfl⟩
          go_wp2_with fail
          go_ret
          exact ⟨ret_bool HT.out.symm, HB.out⟩
        · have h3 := Lib.hid g3
          clear g3
          cases g4 : inB p.pl 65528
          · have h4 := Lib.hid g4
            have HT : Hid (p.bnd = false) := Lib.hid (by rw [HQ.out, h0.out, h1.out, h2.out, h3.out, h4.out]; rfl)
            clear g4
            go_wp2_with fail
            refine (within_at _ _ _ h0.out _).mono ?_
            rintro e w1 ⟨rfl, rfl⟩
            go_wp2_with fail
            refine (within_at _ _ _ h1.out _).mono ?_
            rintro e w1 ⟨rfl, rfl⟩
            go_wp2_with fail
            refine (within_at _ _ _ h2.out _).mono ?_
            rintro e w1 ⟨rfl, rfl⟩
            go_wp2_with fail
            refine (within_at _ _ _ h3.out _).mono ?_
            rintro e w1 ⟨rfl, rfl⟩
            go_wp2_with fail
            refine (within_at _ _ _ h4.out _).mono ?_
            rintro e w1 ⟨rfl, rfl⟩
            go_wp2_with fail
            go_ret
            exact ⟨ret_bool HT.out.symm, HB.out⟩
          · have h4 := Lib.hid g4
            have g := (inB_iff _ _).1 g4
            obtain ⟨g1, g2⟩ := g
            have k3 : p.pl.tmod 8 = p.pl % 8 := Int.tmod_eq_emod_of_nonneg g1
            have k4 : IntKind.i64.wrap (p.pl % 8) = p.pl % 8 := IntWalk.i64_in _ (by omega)
            clear g4
            cases g6 : (p.pl % 8 == 0)
            · have HT : Hid (p.bnd = false) := Lib.hid (by rw [HQ.out, h0.out, h1.out, h2.out, h3.out, h4.out, g6]; rfl)
              go_wp2_with fail
              refine (within_at _ _ _ h0.out _).mono ?_
              rintro e w1 ⟨rfl, rfl⟩
              go_wp2_with fail
              refine (within_at _ _ _ h1.out _).mono ?_
              rintro e w1 ⟨rfl, rfl⟩
              go_wp2_with fail
              refine (within_at _ _ _ h2.out _).mono ?_
              rintro e w1 ⟨rfl, rfl⟩
              go_wp2_with fail
              refine (within_at _ _ _ h3.out _).mono ?_
              rintro e w1 ⟨rfl, rfl⟩
              go_wp2_with fail
              refine (within_at _ _ _ h4.out _).mono ?_
              rintro e w1 ⟨rfl, rfl⟩
              go_wp2_with fail
              go_ret
              exact ⟨ret_bool HT.out.symm, HB.out⟩
            · have HT : Hid (p.bnd = true) := Lib.hid (by rw [HQ.out, h0.out, h1.out, h2.out, h3.out, h4.out, g6]; rfl)
              go_wp2_with fail
              refine (within_at _ _ _ h0.out _).mono ?_
              rintro e w1 ⟨rfl, rfl⟩
              go_wp2_with fail
              refine (within_at _ _ _ h1.out _).mono ?_
              rintro e w1 ⟨rfl, rfl⟩
              go_wp2_with fail
              refine (within_at _ _ _ h2.out _).mono ?_
              rintro e w1 ⟨rfl, rfl⟩
              go_wp2_with fail
              refine (within_at _ _ _ h3.out _).mono ?_
              rintro e w1 ⟨rfl, rfl⟩
              go_wp2_with fail
              refine (within_at _ _ _ h4.out _).mono ?_
              rintro e w1 ⟨rfl, rfl⟩
              go_wp2_with fail
              go_ret
              exact ⟨ret_bool HT.out.symm, HB.out⟩
theorem bounded_at (p : Pk6) (v : Value) (b : Bool) (h : p.bnd = b) (w : World) :
    Calls Try.prog 36 #[.agg (p.vals v).toArray] w fun e w' => e = .returned (.bool b) ∧ Below w.heap.size w w' := h ▸ bounded_any p v w
/-- Is a next no extension's? -/
def isExB (n : Int) : Bool := decide (isEx n)
/-- Are the Kinds, and Proto, such as may be? -/
def Pk6.kinds (p : Pk6) : Bool := p.exts.all (fun e => isExB e.1) && (p.frag || (!isExB p.proto && p.proto != 44))
theorem all_snoc (l : List (Int × ByteArray)) (k : Nat) (h : k < l.length) (f : Int × ByteArray → Bool) (h0 : (l.take k).all f = true) (h1 : f l[k] = true) : (l.take (k + 1)).all f = true := by
  rw [List.take_succ_eq_append_getElem h, List.all_append, h0, List.all_cons, h1]
  rfl
theorem all_no (l : List (Int × ByteArray)) (k : Nat) (h : k < l.length) (f : Int × ByteArray → Bool) (h1 : f l[k] = false) : l.all f = false := by
  cases hl : l.all f
  · rfl
  · rw [List.all_eq_true] at hl
    rw [hl _ (List.getElem_mem h)] at h1
    cases h1
set_option maxRecDepth 100000 in
set_option maxHeartbeats 1000000 in
theorem kinds_any (p : Pk6) (v : Value) (w : World) (hx : Exs w v p.exts) (hl : p.exts.length ≤ 1099511627776) :
    Calls Try.prog 37 #[.agg (p.vals v).toArray] w fun e w' => e = .returned (.bool p.kinds) ∧ Below w.heap.size w w' := by
  have HQ : Hid (p.kinds = (p.exts.all (fun e => isExB e.1) && (p.frag || (!isExB p.proto && p.proto != 44)))) := Lib.hid rfl
  obtain ⟨ao, cap, rfl, _⟩ := id hx
  obtain ⟨V, hV, hVl, hD, hK⟩ := boxed6 p (.slice ao p.exts.length cap) w
  rw [← hV]
  clear hV
  have HX := Lib.hid (hx.below hK.2.1 (Nat.le_refl _))
  have HB := Lib.hid hK.2.1
  have HBk := Lib.hid hD
  have HSz := Lib.hid hK.2.2
  have d35 := hD.c35
  clear hD hK hx
  generalize hw1 : w.alloc (.cells V.toArray 27) = w1 at *
  go_enter Try.func37, Try.ntmps37
  go_upto_region 1 with (fail)
  clear hw1
  go_wp2_with fail
  go_loopw [8] (fun i wr => ∃ k : Nat, k ≤ p.exts.length ∧ i = .int .i64 k ∧ Hid ((p.exts.take k).all (fun e => isExB e.1) = true) ∧ Hid (Below w1.heap.size w1 wr)) (fun i _ => p.exts.length - (intOf i).toNat)
  case atStart => exact ⟨0, Nat.zero_le _, rfl, Lib.hid rfl, Lib.hid (Below.refl _ _)⟩
  case round =>
    obtain ⟨k, hk, rfl, HA, HC⟩ := hrel
    by_cases hlt : k < p.exts.length
    · obtain ⟨ao', cap', e, hc⟩ := HX.out.below HC.out (Nat.le_refl _)
      injection e with e1 e2 e3
      subst e1
      obtain ⟨b, ob, rfl, g1, g2⟩ := hc k hlt
      clear hc e2 e3 d35
      have HN := Lib.hid (all_snoc p.exts k hlt (fun e => isExB e.1) HA.out)
      have HY := Lib.hid (all_no p.exts k hlt (fun e => isExB e.1))
      have hk2 : (k : Int) < (p.exts.length : Int) := by omega
      have HB2 := fun o => Lib.hid (HC.out.alloc HC.out.size o)
      cases hy : isExB p.exts[k].1
      · have HI := Lib.hid (isExt_at p.exts[k].1 false hy)
        have HT : Hid (p.kinds = false) := Lib.hid (by rw [HQ.out, HY.out hy]; rfl)
        clear hy HN HY
        generalize p.exts[k] = x at *
        obtain ⟨kd, bd⟩ := x
        dsimp only at HI g1 g2
        go_wp2_with fail
        refine (HI.out _).mono ?_
        rintro e w2 ⟨rfl, rfl⟩
        go_wp2_with fail
        go_ret
        exact ⟨ret_bool HT.out.symm, HB.out.trans ((HB2 _).out.mono HSz.out)⟩
      · have HI := Lib.hid (isExt_at p.exts[k].1 true hy)
        have HM := Lib.hid (HN.out hy)
        clear hy HN HY
        generalize p.exts[k] = x at *
        obtain ⟨kd, bd⟩ := x
        dsimp only at HI g1 g2
        go_wp2_with fail
        refine (HI.out _).mono ?_
        rintro e w2 ⟨rfl, rfl⟩
        go_wp2_with fail
        go_roundw
        case rel => exact ⟨k + 1, by omega, by go_num, HM, HB2 _⟩
        case measure => simp [intOf]; omega
    · obtain rfl : k = p.exts.length := by omega
      have hA := HA.out
      rw [List.take_length] at hA
      have HA2 := Lib.hid hA
      have HE := Lib.hid (HB.out.trans (HC.out.mono HSz.out))
      clear hA HA d35
      have hbk : w.heap.size < w1.heap.size := World.block_lt_of_cell? w1 ⟨w.heap.size, 0, none⟩ HBk.out.c0
      have d36 := (HC.out.cell (p := ⟨w.heap.size, 36, none⟩) hbk).trans HBk.out.c36
      have d40 := (HC.out.cell (p := ⟨w.heap.size, 40, none⟩) hbk).trans HBk.out.c40
      clear hbk
      cases hf : p.frag
      · rw [hf] at d36
        cases hy : isExB p.proto
        · have HI := Lib.hid (isExt_at p.proto false hy)
          cases h4 : (p.proto != 44)
          · have HT : Hid (p.kinds = false) := Lib.hid (by rw [HQ.out, HA2.out, hf, hy, h4]; rfl)
            clear hf hy
            go_wp2_with fail
            refine (HI.out _).mono ?_
            rintro e w2 ⟨rfl, rfl⟩
            go_wp2_with fail
            go_ret
            exact ⟨ret_bool HT.out.symm, HE.out⟩
          · have HT : Hid (p.kinds = true) := Lib.hid (by rw [HQ.out, HA2.out, hf, hy, h4]; rfl)
            clear hf hy
            go_wp2_with fail
            refine (HI.out _).mono ?_
            rintro e w2 ⟨rfl, rfl⟩
            go_wp2_with fail
            go_ret
            exact ⟨ret_bool HT.out.symm, HE.out⟩
        · have HI := Lib.hid (isExt_at p.proto true hy)
          have HT : Hid (p.kinds = false) := Lib.hid (by rw [HQ.out, HA2.out, hf, hy]; rfl)
          clear hf hy
          go_wp2_with fail
          refine (HI.out _).mono ?_
          rintro e w2 ⟨rfl, rfl⟩
          go_wp2_with fail
          go_ret
          exact ⟨ret_bool HT.out.symm, HE.out⟩
      · rw [hf] at d36
        have HT : Hid (p.kinds = true) := Lib.hid (by rw [HQ.out, HA2.out, hf]; rfl)
        clear hf
        go_wp2_with fail
        go_ret
        exact ⟨ret_bool HT.out.symm, HE.out⟩
/-- Is an extension that has so many ahead of it formed? -/
def fm1 (k : Nat) (e : Int × ByteArray) : Bool := decide (e.2.size ≤ 2046) && (e.2.size % 8 == 6 && inPl e.1 k)
/-- Are the first so many extensions formed? -/
def fms (l : List (Int × ByteArray)) (n : Nat) : Bool := (List.range n).all (fun k => fm1 k (l.getD k (0, ⟨#[]⟩)))
def formed (l : List (Int × ByteArray)) : Bool := fms l l.length
theorem getD_at (l : List (Int × ByteArray)) (k : Nat) (h : k < l.length) : l.getD k (0, ⟨#[]⟩) = l[k] := by
  rw [List.getD_eq_getElem?_getD, List.getElem?_eq_getElem h]
  rfl
theorem fms_snoc (l : List (Int × ByteArray)) (k : Nat) (h : k < l.length) (h0 : fms l k = true) (h1 : fm1 k l[k] = true) : fms l (k + 1) = true := by
  unfold fms at *
  rw [List.range_succ, List.all_append, h0, List.all_cons, getD_at l k h, h1]
  rfl
theorem fms_no (l : List (Int × ByteArray)) (k : Nat) (h : k < l.length) (h1 : fm1 k l[k] = false) : formed l = false := by
  unfold formed fms
  cases hl : (List.range l.length).all (fun k => fm1 k (l.getD k (0, ⟨#[]⟩)))
  · rfl
  · rw [List.all_eq_true] at hl
    have := hl k (List.mem_range.2 h)
    rw [getD_at l k h, h1] at this
    cases this
theorem fms_at {l : List (Int × ByteArray)} (h : formed l = true) (k : Nat) (hk : k < l.length) : fm1 k l[k] = true := by
  unfold formed fms at h
  rw [List.all_eq_true] at h
  have := h k (List.mem_range.2 hk)
  rwa [getD_at l k hk] at this
set_option maxRecDepth 100000 in
set_option maxHeartbeats 1000000 in
theorem formed_any (v : Value) (l : List (Int × ByteArray)) (w : World) (hx : Exs w v l) (hl : l.length ≤ 1099511627776) (hb : ∀ e ∈ l, e.2.size ≤ 1099511627776) :
    Calls Try.prog 38 #[v] w fun e w' => e = .returned (.bool (formed l)) ∧ Below w.heap.size w w' := by
  obtain ⟨ao, cap, rfl, _⟩ := id hx
  have HX := Lib.hid hx
  have HBB := Lib.hid hb
  clear hx hb
  go_enter Try.func38, Try.ntmps38
  go_wp2_with fail
  go_loopw [8] (fun i wr => ∃ k : Nat, k ≤ l.length ∧ i = .int .i64 k ∧ Hid (fms l k = true) ∧ Hid (Below w.heap.size w wr)) (fun i _ => l.length - (intOf i).toNat)
  case atStart => exact ⟨0, Nat.zero_le _, rfl, Lib.hid rfl, Lib.hid (Below.refl _ _)⟩
  case round =>
    obtain ⟨k, hk, rfl, HA, HC⟩ := hrel
    by_cases hlt : k < l.length
    · obtain ⟨ao', cap', e, hc⟩ := HX.out.below HC.out (Nat.le_refl _)
      injection e with e1 e2 e3
      subst e1
      obtain ⟨b, ob, rfl, g1, g2⟩ := hc k hlt
      clear hc e2 e3
      have HN := Lib.hid (fms_snoc l k hlt HA.out)
      have HY := Lib.hid (fms_no l k hlt)
      have hk2 : (k : Int) < (l.length : Int) := by omega
      have HB2 := fun o => Lib.hid (HC.out.alloc HC.out.size o)
      have hbk := HBB.out _ (List.getElem_mem hlt)
      generalize l[k] = x at *
      obtain ⟨kd, bd⟩ := x
      dsimp only at g1 g2 hbk
      have k3 : (bd.size : Int).tmod 8 = (bd.size : Int) % 8 := Int.tmod_eq_emod_of_nonneg (by omega)
      by_cases h1 : bd.size ≤ 2046
      · have m1 : (bd.size : Int) ≤ 2046 := by omega
        have k4 : IntKind.i64.wrap ((bd.size : Int) % 8) = (bd.size : Int) % 8 := IntWalk.i64_in _ (by omega)
        by_cases h2 : bd.size % 8 = 6
        · have m2 : ((bd.size : Int) % 8 != 6) = false := by rw [show (bd.size : Int) % 8 = 6 by omega]; rfl
          have HP := Lib.hid (inPlace_any kd k)
          cases h3 : inPl kd k
          · rw [h3] at HP
            have HT : Hid (formed l = false) := Lib.hid (HY.out (by unfold fm1; dsimp only; rw [h3, Bool.and_false, Bool.and_false]))
            clear HY HN h1 h2 h3
            go_wp2_with fail
            refine (HP.out _).mono ?_
            rintro e w2 ⟨rfl, rfl⟩
            go_wp2_with fail
            go_ret
            exact ⟨ret_bool HT.out.symm, (HB2 _).out⟩
          · rw [h3] at HP
            have HT : Hid (fms l (k + 1) = true) := Lib.hid (HN.out (by unfold fm1; dsimp only; rw [h3, h2, decide_eq_true h1]; rfl))
            clear HY HN h1 h2 h3
            go_wp2_with fail
            refine (HP.out _).mono ?_
            rintro e w2 ⟨rfl, rfl⟩
            go_wp2_with fail
            go_roundw
            case rel => exact ⟨k + 1, by omega, by go_num, HT, HB2 _⟩
            case measure => simp [intOf]; omega
        · have m2 : ((bd.size : Int) % 8 != 6) = true := by rw [bne_iff_ne]; omega
          have HT : Hid (formed l = false) := Lib.hid (HY.out (by unfold fm1; dsimp only; rw [show (bd.size % 8 == 6) = false from beq_eq_false_iff_ne.2 h2, Bool.false_and, Bool.and_false]))
          clear HY HN h1 h2
          go_wp2_with fail
          go_ret
          exact ⟨ret_bool HT.out.symm, (HB2 _).out⟩
      · have m1 : ¬ (bd.size : Int) ≤ 2046 := by omega
        have HT : Hid (formed l = false) := Lib.hid (HY.out (by unfold fm1; dsimp only; rw [decide_eq_false h1]; rfl))
        clear HY HN h1
        go_wp2_with fail
        go_ret
        exact ⟨ret_bool HT.out.symm, (HB2 _).out⟩
    · obtain rfl : k = l.length := by omega
      go_wp2_with fail
      go_ret
      exact ⟨ret_bool HA.out.symm, HC.out⟩
/-- Has a packet what Frag asks? -/
def Pk6.piece (p : Pk6) : Bool := if p.frag then (!p.more || (decide (0 < p.data.size) && p.data.size % 8 == 0)) else (p.id == 0 && (p.pl == 0 && !p.more))
set_option maxRecDepth 100000 in
set_option maxHeartbeats 1000000 in
theorem piece_any (p : Pk6) (v : Value) (w : World) (hd : p.data.size ≤ 1099511627776) :
    Calls Try.prog 39 #[.agg (p.vals v).toArray] w fun e w' => e = .returned (.bool p.piece) ∧ Below w.heap.size w w' := by
  obtain ⟨V, hV, hVl, hD, hK⟩ := boxed6 p v w
  rw [← hV]
  clear hV
  have d36 := hD.c36
  have d37 := hD.c37
  have d38 := hD.c38
  have d39 := hD.c39
  have d41 := hD.c41
  have HB := Lib.hid hK.2.1
  clear hD hK
  generalize hw1 : w.alloc (.cells V.toArray 27) = w1 at *
  go_enter Try.func39, Try.ntmps39
  go_upto_region 1 with (fail)
  clear hw1
  cases hf : p.frag
  · have hq : p.piece = (p.id == 0 && (p.pl == 0 && !p.more)) := by unfold Pk6.piece; rw [hf]; rfl
    have HQ := Lib.hid hq
    rw [hf] at d36
    clear hf hq
    cases h1 : (p.id == 0)
    · have HT : Hid (p.piece = false) := Lib.hid (by rw [HQ.out, h1]; rfl)
      go_wp2_with fail
      go_ret
      exact ⟨ret_bool HT.out.symm, HB.out⟩
    · cases h2 : (p.pl == 0)
      · have HT : Hid (p.piece = false) := Lib.hid (by rw [HQ.out, h1, h2]; rfl)
        go_wp2_with fail
        go_ret
        exact ⟨ret_bool HT.out.symm, HB.out⟩
      · cases h3 : p.more
        all_goals
          have HT := Lib.hid (HQ.out.trans (by rw [h1, h2, h3]))
          rw [h3] at d39
          clear h3
          go_wp2_with fail
          go_ret
          exact ⟨ret_bool HT.out.symm, HB.out⟩
  · have hq : p.piece = (!p.more || (decide (0 < p.data.size) && p.data.size % 8 == 0)) := by unfold Pk6.piece; rw [hf]; rfl
    have HQ := Lib.hid hq
    rw [hf] at d36
    clear hf hq
    cases h3 : p.more
    · have HT : Hid (p.piece = true) := Lib.hid (by rw [HQ.out, h3]; rfl)
      rw [h3] at d39
      clear h3
      go_wp2_with fail
      go_ret
      exact ⟨ret_bool HT.out.symm, HB.out⟩
    · rw [h3] at d39
      by_cases h4 : 0 < p.data.size
      · have k3 : (p.data.size : Int).tmod 8 = (p.data.size : Int) % 8 := Int.tmod_eq_emod_of_nonneg (by omega)
        have k4 : IntKind.i64.wrap ((p.data.size : Int) % 8) = (p.data.size : Int) % 8 := IntWalk.i64_in _ (by omega)
        have m4 : (0 : Int) < (p.data.size : Int) := by omega
        by_cases h5 : p.data.size % 8 = 0
        · have m5 : ((p.data.size : Int) % 8 == 0) = true := by rw [beq_iff_eq]; omega
          have HT : Hid (p.piece = true) := Lib.hid (by rw [HQ.out, h3, h5, decide_eq_true h4]; rfl)
          clear h3 h5
          go_wp2_with fail
          go_ret
          exact ⟨ret_bool HT.out.symm, HB.out⟩
        · have m5 : ((p.data.size : Int) % 8 == 0) = false := by rw [beq_eq_false_iff_ne]; omega
          have HT : Hid (p.piece = false) := Lib.hid (by rw [HQ.out, h3, beq_eq_false_iff_ne.2 h5, Bool.and_false]; rfl)
          clear h3 h5
          go_wp2_with fail
          go_ret
          exact ⟨ret_bool HT.out.symm, HB.out⟩
      · have m4 : ¬ (0 : Int) < (p.data.size : Int) := by omega
        have HT : Hid (p.piece = false) := Lib.hid (by rw [HQ.out, h3, decide_eq_false h4, Bool.false_and]; rfl)
        clear h3
        go_wp2_with fail
        go_ret
        exact ⟨ret_bool HT.out.symm, HB.out⟩
/-- How many bytes extensions have in all. -/
def esum (l : List (Int × ByteArray)) : Nat := (l.map fun e => 2 + e.2.size).sum
theorem esum_snoc (l : List (Int × ByteArray)) (k : Nat) (h : k < l.length) : esum (l.take (k + 1)) = esum (l.take k) + (2 + l[k].2.size) := by
  unfold esum
  rw [List.take_succ_eq_append_getElem h, List.map_append, List.sum_append]
  simp
theorem esum_le (l : List (Int × ByteArray)) (k : Nat) : esum (l.take k) ≤ esum l := by
  have : esum l = esum (l.take k) + esum (l.drop k) := by
    unfold esum
    rw [← List.sum_append, ← List.map_append, List.take_append_drop]
  omega
/-- How many bytes stand behind a packet's head. -/
def Pk6.behind (p : Pk6) : Nat := p.data.size + (if p.frag then 8 else 0) + esum p.exts
set_option maxRecDepth 100000 in
set_option maxHeartbeats 1000000 in
theorem length_any (p : Pk6) (v : Value) (w : World) (hx : Exs w v p.exts) (hl : p.exts.length ≤ 1099511627776) (hd : p.data.size ≤ 1099511627776) (he : esum p.exts ≤ 1099511627776) :
    Calls Try.prog 41 #[.agg (p.vals v).toArray] w fun e w' => e = .returned (.int .i64 p.behind) ∧ Below w.heap.size w w' := by
  obtain ⟨ao, cap, rfl, _⟩ := id hx
  obtain ⟨V, hV, hVl, hD, hK⟩ := boxed6 p (.slice ao p.exts.length cap) w
  rw [← hV]
  clear hV
  have HX := Lib.hid (hx.below hK.2.1 (Nat.le_refl _))
  have HB := Lib.hid hK.2.1
  have HSz := Lib.hid hK.2.2
  have d35 := hD.c35
  have d36 := hD.c36
  have d41 := hD.c41
  clear hD hK hx
  generalize hw1 : w.alloc (.cells V.toArray 27) = w1 at *
  obtain ⟨F, hF⟩ : ∃ F : Nat, F = p.data.size + (if p.frag then 8 else 0) := ⟨_, rfl⟩
  have HQ : Hid (p.behind = F + esum p.exts) := Lib.hid (by unfold Pk6.behind; rw [hF])
  have hF8 : F ≤ 1099511627784 := by rw [hF]; split <;> omega
  go_enter Try.func41, Try.ntmps41
  go_upto_region 1 with (fail)
  clear hw1
  cases hf : p.frag
  · rw [hf] at d36 hF
    have hF2 : F = p.data.size := by rw [hF]; rfl
    clear hf hF
    go_wp2_with fail
    go_loopw [3, 16] (fun n i wr => ∃ k : Nat, k ≤ p.exts.length ∧ i = .int .i64 k ∧ n = .int .i64 ((F + esum (p.exts.take k) : Nat) : Int) ∧ Hid (Below w1.heap.size w1 wr)) (fun _ i _ => p.exts.length - (intOf i).toNat)
    case atStart => exact ⟨0, Nat.zero_le _, rfl, by simp [esum, hF2], Lib.hid (Below.refl _ _)⟩
    case round =>
      obtain ⟨k, hk, rfl, rfl, HC⟩ := hrel
      by_cases hlt : k < p.exts.length
      · obtain ⟨ao', cap', e, hc⟩ := HX.out.below HC.out (Nat.le_refl _)
        injection e with e1 e2 e3
        subst e1
        obtain ⟨b, ob, rfl, g1, g2⟩ := hc k hlt
        clear hc e2 e3
        have hn := esum_snoc p.exts k hlt
        have hm := esum_le p.exts (k + 1)
        have HN := Lib.hid hn
        have hk2 : (k : Int) < (p.exts.length : Int) := by omega
        have HB2 := fun o => Lib.hid (HC.out.alloc HC.out.size o)
        have hb2 : p.exts[k].2.size ≤ 1099511627776 := by omega
        have hs2 : esum (p.exts.take k) ≤ 1099511627776 := by omega
        clear hn hm
        generalize p.exts[k] = x at *
        obtain ⟨kd, bd⟩ := x
        dsimp only at g1 g2 hb2 HN
        generalize esum (p.exts.take k) = S at *
        go_wp2_with fail
        go_roundw
        case rel => exact ⟨k + 1, by omega, by go_num, by rw [HN.out]; congr 1; omega, HB2 _⟩
        case measure => simp [intOf]; omega
      · obtain rfl : k = p.exts.length := by omega
        rw [List.take_length]
        have hQ := HQ.out
        go_wp2_with fail
        go_ret
        exact ⟨by rw [hQ]; rfl, HB.out.trans (HC.out.mono HSz.out)⟩
  · rw [hf] at d36 hF
    have hF2 : F = p.data.size + 8 := by rw [hF]; rfl
    clear hf hF
    go_wp2_with fail
    go_loopw [3, 16] (fun n i wr => ∃ k : Nat, k ≤ p.exts.length ∧ i = .int .i64 k ∧ n = .int .i64 ((F + esum (p.exts.take k) : Nat) : Int) ∧ Hid (Below w1.heap.size w1 wr)) (fun _ i _ => p.exts.length - (intOf i).toNat)
    case atStart => exact ⟨0, Nat.zero_le _, rfl, by simp [esum, hF2], Lib.hid (Below.refl _ _)⟩
    case round =>
      obtain ⟨k, hk, rfl, rfl, HC⟩ := hrel
      by_cases hlt : k < p.exts.length
      · obtain ⟨ao', cap', e, hc⟩ := HX.out.below HC.out (Nat.le_refl _)
        injection e with e1 e2 e3
        subst e1
        obtain ⟨b, ob, rfl, g1, g2⟩ := hc k hlt
        clear hc e2 e3
        have hn := esum_snoc p.exts k hlt
        have hm := esum_le p.exts (k + 1)
        have HN := Lib.hid hn
        have hk2 : (k : Int) < (p.exts.length : Int) := by omega
        have HB2 := fun o => Lib.hid (HC.out.alloc HC.out.size o)
        have hb2 : p.exts[k].2.size ≤ 1099511627776 := by omega
        have hs2 : esum (p.exts.take k) ≤ 1099511627776 := by omega
        clear hn hm
        generalize p.exts[k] = x at *
        obtain ⟨kd, bd⟩ := x
        dsimp only at g1 g2 hb2 HN
        generalize esum (p.exts.take k) = S at *
        go_wp2_with fail
        go_roundw
        case rel => exact ⟨k + 1, by omega, by go_num, by rw [HN.out]; congr 1; omega, HB2 _⟩
        case measure => simp [intOf]; omega
      · obtain rfl : k = p.exts.length := by omega
        rw [List.take_length]
        have hQ := HQ.out
        go_wp2_with fail
        go_ret
        exact ⟨by rw [hQ]; rfl, HB.out.trans (HC.out.mono HSz.out)⟩
end Go.Proofs.Ytdljjcnihajchaa
