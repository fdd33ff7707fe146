/-
  Proved here: the law NumReads answers true at every input, and leaves old memory as it was.
  Conditions: errors.errorType holds its type handle; the acts lie in old memory.
-/
import Derived.Test.YtieadejlnfjgbaaDoorActs
namespace Go.Proofs.YtieadejlnfjgbaaDoor
open Go.RowKit Go.Extern.Stop Go.Stop Go.Extern

/-- What the law's loop keeps: both readers at one place, with one fault. -/
def Both (w : World) (s : ByteArray) (b1 b2 : Nat) (wr : World) : Prop :=
  ∃ (p : Nat) (c q : Int), p ≤ s.size ∧ (c ≠ 0 → q = p) ∧ Rd wr b1 s p c ∧ Rr wr b2 s p c q ∧ Below w.heap.size w wr

/-- Each act's two cells. -/
def ActsAt (w : World) (ao : Option Addr) (len : Nat) (D N : Nat → Int) : Prop :=
  ∀ i, i < len → ∃ ab o, ao = some ⟨ab, o, none⟩ ∧ w.cell? ⟨ab, o + i * 2, none⟩ = some (.int .i64 (D i)) ∧ w.cell? ⟨ab, o + i * 2 + 1, none⟩ = some (.int .i64 (N i))

/-- Both readers behind one act, and the error that the program's one told. -/
def Full (w : World) (s : ByteArray) (b1 b2 : Nat) (p : Nat) (c q : Int) (ev : Value) (wr : World) : Prop :=
  p ≤ s.size ∧ (c ≠ 0 → q = p) ∧ Rd wr b1 s p c ∧ Rr wr b2 s p c q ∧ Below w.heap.size w wr ∧ ErrAt wr ev c p

section
variable {w wr : World} {s : ByteArray} {b1 b2 : Nat}
theorem not_flt {b : Nat} {p : Nat} {c q : Int} (h : Rr w b s p c q) : ∀ c p, ¬ Flt w b c p := by
  intro c' p' hf
  unfold Rr at h
  unfold Flt at hf
  rw [h] at hf
  simp at hf

theorem both_num (n : Nat) (hn : n ≤ 4) (h : Both w s b1 b2 wr) (hne : b1 ≠ b2) (hB1 : w.heap.size ≤ b1) (hB2 : w.heap.size ≤ b2) (hs : s.size ≤ maxLen) :
    ∃ (x : Int) (p' : Nat) (c' q' : Int) (H1 : World → Value → Prop),
      Calls Tryd.prog 30 #[.pointer (some ⟨b1, 0, none⟩), .int .i64 n] wr (fun e w' => ∃ ev, e = .returned (.tuple #[.int .i64 x, ev]) ∧ H1 w' ev) ∧
      ∀ w' ev, H1 w' ev → Calls Tryd.prog 21 #[.pointer (some ⟨b2, 0, none⟩), .int .i64 n] w' fun e w'' => e = .returned (.tuple #[.int .i64 x, .int .i64 c']) ∧ Full w s b1 b2 p' c' q' ev w'' := by
  obtain ⟨p, c, q, hp, hq, hR, hRr, hb⟩ := h
  refine ⟨numOf (textV s p c n).data.toList, newP s.size p c n, newC s.size p c n, newQ s.size p c n q, fun w' ev => ErrAt w' ev (newC s.size p c n) (newP s.size p c n) ∧ Rd w' b1 s (newP s.size p c n) (newC s.size p c n) ∧ wr.grownBy w' (some b1), ?_, ?_⟩
  · exact number_all hR hp hs n hn
  · rintro w' ev ⟨he, hR', hg⟩
    have hRr' := hRr.grown hg (fun e => hne (Option.some.inj e).symm)
    refine (rnum_all hRr' hp hs n hn).mono ?_
    rintro e w'' ⟨rfl, hRr'', hg'⟩
    refine ⟨rfl, newP_le hp, newQ_eq hq, hR'.grown hg' (fun e => hne (Option.some.inj e)), hRr'', ?_, he.grown hg' (not_flt hRr')⟩
    have hb' := hb.grown hg hb.size (fun k e => by cases e; exact hB1)
    exact hb'.grown hg' hb'.size (fun k e => by cases e; exact hB2)

theorem both_text (n : Int) (h : Both w s b1 b2 wr) (hne : b1 ≠ b2) (hB1 : w.heap.size ≤ b1) (hB2 : w.heap.size ≤ b2) (hs : s.size ≤ maxLen) :
    ∃ (x : ByteArray) (p' : Nat) (c' q' : Int) (H1 : World → Value → Prop),
      Calls Tryd.prog 22 #[.pointer (some ⟨b1, 0, none⟩), .int .i64 n] wr (fun e w' => ∃ ev, e = .returned (.tuple #[.string x, ev]) ∧ H1 w' ev) ∧
      ∀ w' ev, H1 w' ev → Below w.heap.size w w' ∧ Calls Tryd.prog 23 #[.pointer (some ⟨b2, 0, none⟩), .int .i64 n] w' fun e w'' => e = .returned (.tuple #[.string x, .int .i64 c']) ∧ Full w s b1 b2 p' c' q' ev w'' := by
  obtain ⟨p, c, q, hp, hq, hR, hRr, hb⟩ := h
  refine ⟨textV s p c n, newP s.size p c n, newC s.size p c n, newQ s.size p c n q, fun w' ev => ErrAt w' ev (newC s.size p c n) (newP s.size p c n) ∧ Rd w' b1 s (newP s.size p c n) (newC s.size p c n) ∧ wr.grownBy w' (some b1), ?_, ?_⟩
  · exact text_all hR hp hs n
  · rintro w' ev ⟨he, hR', hg⟩
    have hRr' := hRr.grown hg (fun e => hne (Option.some.inj e).symm)
    have hb' := hb.grown hg hb.size (fun k e => by cases e; exact hB1)
    refine ⟨hb', (rtext_all hRr' hp hs n).mono ?_⟩
    rintro e w'' ⟨rfl, hRr'', hg'⟩
    exact ⟨rfl, newP_le hp, newQ_eq hq, hR'.grown hg' (fun e => hne (Option.some.inj e)), hRr'', hb'.grown hg' hb'.size (fun k e => by cases e; exact hB2), he.grown hg' (not_flt hRr')⟩

theorem both_rest (h : Both w s b1 b2 wr) (hne : b1 ≠ b2) (hB1 : w.heap.size ≤ b1) (hB2 : w.heap.size ≤ b2) :
    ∃ (x : ByteArray) (H1 : World → Prop),
      Calls Tryd.prog 18 #[.pointer (some ⟨b1, 0, none⟩)] wr (fun e w' => e = .returned (.string x) ∧ H1 w') ∧
      ∀ w', H1 w' → Calls Tryd.prog 24 #[.pointer (some ⟨b2, 0, none⟩)] w' fun e w'' => e = .returned (.string x) ∧ Both w s b1 b2 w'' := by
  obtain ⟨p, c, q, hp, hq, hR, hRr, hb⟩ := h
  refine ⟨restV s p c, fun w' => Rd w' b1 s (restP s.size p c) c ∧ wr.grownBy w' (some b1), rest_all hR hp, ?_⟩
  rintro w' ⟨hR', hg⟩
  have hRr' := hRr.grown hg (fun e => hne (Option.some.inj e).symm)
  have hb' := hb.grown hg hb.size (fun k e => by cases e; exact hB1)
  refine (rrest_all hRr' hp).mono ?_
  rintro e w'' ⟨rfl, hRr'', hg'⟩
  have hP : restP s.size p c ≤ s.size := by unfold restP; split <;> omega
  have hQ : c ≠ 0 → q = (restP s.size p c : Int) := fun hc => by unfold restP; rw [if_neg hc]; exact hq hc
  exact ⟨rfl, _, _, _, hP, hQ, hR'.grown hg' (fun e => hne (Option.some.inj e)), hRr'', hb'.grown hg' hb'.size (fun k e => by cases e; exact hB2)⟩

theorem at_quiet {p : Nat} {c : Int} (h : Rd w b1 s p c) (n : Nat) :
    Calls Tryd.prog 16 #[.pointer (some ⟨b1, 0, none⟩)] (w.drewN n) fun e w'' => e = .returned (.int .i64 p) ∧ ∃ m, w'' = w.drewN m :=
  (at_any (w := w.drewN n) h).mono fun _ _ ⟨he, hw⟩ => ⟨he, n, hw.symm⟩
theorem left_quiet {p : Nat} {c : Int} (h : Rd w b1 s p c) (hp : p ≤ s.size) (hs : s.size ≤ maxLen) (n : Nat) :
    Calls Tryd.prog 17 #[.pointer (some ⟨b1, 0, none⟩)] (w.drewN n) fun e w'' => e = .returned (.int .i64 ((s.size : Int) - p)) ∧ ∃ m, w'' = w.drewN m :=
  (left_any (w := w.drewN n) h hp hs).mono fun _ _ ⟨he, hw⟩ => ⟨by rw [he, Int.ofNat_sub hp], n + 1, hw⟩
theorem Both.drewN (h : Both w s b1 b2 wr) (n : Nat) : Both w s b1 b2 (wr.drewN n) := by
  obtain ⟨p, c, q, hp, hq, hR, hRr, hb⟩ := h
  exact ⟨p, c, q, hp, hq, hR, hRr, ⟨hb.os, hb.tape, hb.output, hb.size, hb.block⟩⟩
theorem Full.both {p : Nat} {c q : Int} {ev : Value} (h : Full w s b1 b2 p c q ev wr) {w' : World} (hb : Below wr.heap.size wr w') : Both w s b1 b2 w' := by
  obtain ⟨hp, hq, hR, hRr, hB, _⟩ := h
  exact ⟨p, c, q, hp, hq, hR.below hb hR.lt, hRr.below hb hRr.lt, hB.trans (hb.mono hB.size)⟩
end

set_option maxRecDepth 100000 in
set_option maxHeartbeats 4000000 in
theorem numReads_walk (s : ByteArray) (ao : Option Addr) (len cap : Nat) (D N : Nat → Int) (w : World) (hg : Held w) (hs : s.size ≤ 3000) (hl : len ≤ 300) (hA : ActsAt w ao len D N) :
    Calls Tryd.prog 4 #[.string s, .slice ao len cap] w fun e w' => e = .returned (.bool true) ∧ Below w.heap.size w w' := by
  have hm : s.size ≤ maxLen := by unfold maxLen; omega
  have HM := Lib.hid hm
  have HA := Lib.hid hA
  have HG := Lib.hid hg
  clear hA hm
  go_enter Tryd.func4, Tryd.ntmps4
  go_wp2_with fail
  refine (awake_true w hg).mono ?_
  rintro e w1 ⟨rfl, b1⟩
  have hB1 := Lib.hid b1
  clear b1 hg
  go_wp2_with fail
  refine (new_any s _).mono ?_
  rintro e w2 ⟨rfl, hw2⟩
  have R2 : Rd w2 w1.heap.size s 0 0 := hw2 ▸ Rd.new w1 s
  have hz2 : w2.heap.size = w1.heap.size + 1 := by rw [hw2]; simp
  have hB2 := Lib.hid (show Below w.heap.size w w2 from hw2 ▸ hB1.out.alloc hB1.out.size _)
  have HR2 := Lib.hid R2
  have HNE := Lib.hid (show w1.heap.size ≠ w2.heap.size by omega)
  have HB1 := Lib.hid (show w.heap.size ≤ w1.heap.size from hB1.out.size)
  have HB2 := Lib.hid (show w.heap.size ≤ w2.heap.size from hB2.out.size)
  clear hw2 R2 hz2
  go_wp2_with fail
  go_loopw [7] (fun i wr => ∃ k : Nat, k ≤ len ∧ i = .int .i64 k ∧ Both w s w1.heap.size w2.heap.size wr) (fun i _ => len - (intOf i).toNat)
  case atStart =>
    exact ⟨0, Nat.zero_le _, rfl, 0, 0, 0, Nat.zero_le _, fun _ => rfl, HR2.out.alloc _, Rr.new w2 s, hB2.out.alloc hB2.out.size _⟩
  case round =>
    obtain ⟨k, hk, rfl, hBoth⟩ := hrel
    have HBo := Lib.hid hBoth
    clear hBoth
    by_cases hlt : k < len
    · obtain ⟨ab, o, rfl, g0, g1⟩ := HA.out k hlt
      have hbl : Below w.heap.size w wr := by obtain ⟨_, _, _, _, _, _, _, hb⟩ := HBo.out; exact hb
      have d0 : wr.cell? ⟨ab, o + k * 2, none⟩ = some (.int .i64 (D k)) := (hbl.cell (lt_of_cell g0)).trans g0
      have d1 : wr.cell? ⟨ab, o + k * 2 + 1, none⟩ = some (.int .i64 (N k)) := (hbl.cell (lt_of_cell g1)).trans g1
      have G1 := Lib.hid g1
      clear g0 g1 hbl
      generalize D k = d at d0
      by_cases h0 : d = 0
      · subst h0
        obtain ⟨x, p', c', q', H1, hU, hN⟩ := both_num 1 (by decide) HBo.out HNE.out HB1.out HB2.out HM.out
        have HU := Lib.hid hU
        have HN := Lib.hid hN
        clear hU hN
        go_wp2_with fail
        refine (u8_of _ _ HU.out (fun _ _ ⟨_, h, _⟩ => ⟨_, _, h⟩)).mono ?_
        rintro e w3 ⟨ev, rfl, h1⟩
        have HN1 := Lib.hid (HN.out w3 ev h1)
        clear h1 HN HU
        go_wp2_with fail
        refine HN1.out.mono ?_
        rintro e w4 ⟨rfl, hF⟩
        have k3 := hF.2.2.2.1.c3
        have HS := Lib.hid (same_all (HG.out.below hF.2.2.2.2.1 HG.out.lt) hF.2.2.2.2.2 hF.2.1)
        have HF := Lib.hid hF
        clear hF HN1
        go_wp2_with fail
        refine HS.out.mono ?_
        rintro e w5 ⟨rfl, h5⟩
        have HB3 := Lib.hid (HF.out.both h5)
        clear h5 HS k3
        obtain ⟨p3, c3, q3, hp3, hq3, R3, Rr3, hb3⟩ := HB3.out
        have k1 := Rr3.c1
        have HR3 := Lib.hid R3
        have HP3 := Lib.hid hp3
        clear R3 Rr3 hb3 hq3
        go_wp2_with fail
        go_quiet ((first | (go_at_call 16; exact at_quiet HR3.out _) | (go_at_call 17; exact left_quiet HR3.out HP3.out HM.out _)))
        go_wp2_with fail
        go_roundw
        case rel => exact ⟨k + 1, by omega, by go_num, HB3.out.drewN _⟩
        case measure => simp [intOf]; omega
      by_cases h1 : d = 1
      · subst h1
        clear h0
        obtain ⟨x, p', c', q', H1, hU, hN⟩ := both_num 2 (by decide) HBo.out HNE.out HB1.out HB2.out HM.out
        have HU := Lib.hid hU
        have HN := Lib.hid hN
        clear hU hN
        go_wp2_with fail
        refine (u16_of _ _ HU.out (fun _ _ ⟨_, h, _⟩ => ⟨_, _, h⟩)).mono ?_
        rintro e w3 ⟨ev, rfl, h1⟩
        have HN1 := Lib.hid (HN.out w3 ev h1)
        clear h1 HN HU
        go_wp2_with fail
        refine HN1.out.mono ?_
        rintro e w4 ⟨rfl, hF⟩
        have k3 := hF.2.2.2.1.c3
        have HS := Lib.hid (same_all (HG.out.below hF.2.2.2.2.1 HG.out.lt) hF.2.2.2.2.2 hF.2.1)
        have HF := Lib.hid hF
        clear hF HN1
        go_wp2_with fail
        refine HS.out.mono ?_
        rintro e w5 ⟨rfl, h5⟩
        have HB3 := Lib.hid (HF.out.both h5)
        clear h5 HS k3
        obtain ⟨p3, c3, q3, hp3, hq3, R3, Rr3, hb3⟩ := HB3.out
        have k1 := Rr3.c1
        have HR3 := Lib.hid R3
        have HP3 := Lib.hid hp3
        clear R3 Rr3 hb3 hq3
        go_wp2_with fail
        go_quiet ((first | (go_at_call 16; exact at_quiet HR3.out _) | (go_at_call 17; exact left_quiet HR3.out HP3.out HM.out _)))
        go_wp2_with fail
        go_roundw
        case rel => exact ⟨k + 1, by omega, by go_num, HB3.out.drewN _⟩
        case measure => simp [intOf]; omega
      by_cases h2 : d = 2
      · subst h2
        clear h0 h1
        obtain ⟨x, p', c', q', H1, hU, hN⟩ := both_num 4 (by decide) HBo.out HNE.out HB1.out HB2.out HM.out
        have HU := Lib.hid hU
        have HN := Lib.hid hN
        clear hU hN
        go_wp2_with fail
        refine (u32_of _ _ HU.out (fun _ _ ⟨_, h, _⟩ => ⟨_, _, h⟩)).mono ?_
        rintro e w3 ⟨ev, rfl, h1⟩
        have HN1 := Lib.hid (HN.out w3 ev h1)
        clear h1 HN HU
        go_wp2_with fail
        refine HN1.out.mono ?_
        rintro e w4 ⟨rfl, hF⟩
        have k3 := hF.2.2.2.1.c3
        have HS := Lib.hid (same_all (HG.out.below hF.2.2.2.2.1 HG.out.lt) hF.2.2.2.2.2 hF.2.1)
        have HF := Lib.hid hF
        clear hF HN1
        go_wp2_with fail
        refine HS.out.mono ?_
        rintro e w5 ⟨rfl, h5⟩
        have HB3 := Lib.hid (HF.out.both h5)
        clear h5 HS k3
        obtain ⟨p3, c3, q3, hp3, hq3, R3, Rr3, hb3⟩ := HB3.out
        have k1 := Rr3.c1
        have HR3 := Lib.hid R3
        have HP3 := Lib.hid hp3
        clear R3 Rr3 hb3 hq3
        go_wp2_with fail
        go_quiet ((first | (go_at_call 16; exact at_quiet HR3.out _) | (go_at_call 17; exact left_quiet HR3.out HP3.out HM.out _)))
        go_wp2_with fail
        go_roundw
        case rel => exact ⟨k + 1, by omega, by go_num, HB3.out.drewN _⟩
        case measure => simp [intOf]; omega
      by_cases h3 : d = 3
      · subst h3
        clear h0 h1 h2
        obtain ⟨x, p', c', q', H1, hU, hN⟩ := both_text (N k) HBo.out HNE.out HB1.out HB2.out HM.out
        have HU := Lib.hid hU
        have HN := Lib.hid hN
        clear hU hN
        go_wp2_with fail
        refine HU.out.mono ?_
        rintro e w3 ⟨ev, rfl, h1⟩
        obtain ⟨hb3, hN1⟩ := HN.out w3 ev h1
        have HN1 := Lib.hid hN1
        have d1' : w3.cell? ⟨ab, o + k * 2 + 1, none⟩ = some (.int .i64 (N k)) := (hb3.cell (lt_of_cell G1.out)).trans G1.out
        clear h1 HN HU hN1 hb3 d1
        go_wp2_with fail
        refine HN1.out.mono ?_
        rintro e w4 ⟨rfl, hF⟩
        have k3 := hF.2.2.2.1.c3
        have HS := Lib.hid (same_all (HG.out.below hF.2.2.2.2.1 HG.out.lt) hF.2.2.2.2.2 hF.2.1)
        have HF := Lib.hid hF
        clear hF HN1 d1'
        go_wp2_with fail
        refine HS.out.mono ?_
        rintro e w5 ⟨rfl, h5⟩
        have HB3 := Lib.hid (HF.out.both h5)
        clear h5 HS k3
        obtain ⟨p3, c3, q3, hp3, hq3, R3, Rr3, hb3⟩ := HB3.out
        have k1 := Rr3.c1
        have HR3 := Lib.hid R3
        have HP3 := Lib.hid hp3
        clear R3 Rr3 hb3 hq3
        go_wp2_with fail
        go_quiet ((first | (go_at_call 16; exact at_quiet HR3.out _) | (go_at_call 17; exact left_quiet HR3.out HP3.out HM.out _)))
        go_wp2_with fail
        go_roundw
        case rel => exact ⟨k + 1, by omega, by go_num, HB3.out.drewN _⟩
        case measure => simp [intOf]; omega
      by_cases h4 : d = 4
      · subst h4
        clear h0 h1 h2 h3
        obtain ⟨x, H1, hU, hN⟩ := both_rest HBo.out HNE.out HB1.out HB2.out
        have HU := Lib.hid hU
        have HN := Lib.hid hN
        clear hU hN
        go_wp2_with fail
        refine HU.out.mono ?_
        rintro e w3 ⟨rfl, h1⟩
        have HN1 := Lib.hid (HN.out w3 h1)
        clear h1 HN HU
        go_wp2_with fail
        refine HN1.out.mono ?_
        rintro e w4 ⟨rfl, hF⟩
        have HB3 := Lib.hid hF
        clear hF HN1
        obtain ⟨p3, c3, q3, hp3, hq3, R3, Rr3, hb3⟩ := HB3.out
        have k1 := Rr3.c1
        have HR3 := Lib.hid R3
        have HP3 := Lib.hid hp3
        clear R3 Rr3 hb3 hq3
        go_wp2_with fail
        go_quiet ((first | (go_at_call 16; exact at_quiet HR3.out _) | (go_at_call 17; exact left_quiet HR3.out HP3.out HM.out _)))
        go_wp2_with fail
        go_roundw
        case rel => exact ⟨k + 1, by omega, by go_num, HB3.out.drewN _⟩
        case measure => simp [intOf]; omega
      have e0 : (d == 0) = false := by simpa using h0
      have e1 : (d == 1) = false := by simpa using h1
      have e2 : (d == 2) = false := by simpa using h2
      have e3 : (d == 3) = false := by simpa using h3
      have e4 : (d == 4) = false := by simpa using h4
      clear h0 h1 h2 h3 h4
      have HB3 := Lib.hid HBo.out
      obtain ⟨p3, c3, q3, hp3, hq3, R3, Rr3, hb3⟩ := HB3.out
      have k1 := Rr3.c1
      have HR3 := Lib.hid R3
      have HP3 := Lib.hid hp3
      clear R3 Rr3 hb3 hq3
      go_wp2_with fail
      go_quiet ((first | (go_at_call 16; exact at_quiet HR3.out _) | (go_at_call 17; exact left_quiet HR3.out HP3.out HM.out _)))
      go_wp2_with fail
      go_roundw
      case rel => exact ⟨k + 1, by omega, by go_num, HB3.out.drewN _⟩
      case measure => simp [intOf]; omega
    · go_wp2_with fail
      go_ret
      obtain ⟨_, _, _, _, _, _, _, hb⟩ := HBo.out
      exact ⟨rfl, hb⟩
end Go.Proofs.YtieadejlnfjgbaaDoor
