/-
  Proved here: the law NumStays answers true at every input, and leaves old memory as it was, whatever the table internal/strconv.uint64pow10 holds.
  Conditions: errors.errorType holds its type handle; two cells of that table hold numbers; the acts lie in old memory.
-/
import Derived.Test.YtieadejlnfjgbaaDoorErrorAll
import Derived.Test.YtieadejlnfjgbaaDoorActs
namespace Go.Proofs.YtieadejlnfjgbaaDoor
open Go.RowKit Go.Extern.Stop Go.Stop Go.Extern Go.Lib

/-- Each act's two cells. -/
def ActsIn (w : World) (ao : Option Addr) (len : Nat) (D N : Nat → Int) : Prop :=
  ∀ i, i < len → ∃ ab o, ao = some ⟨ab, o, none⟩ ∧ w.cell? ⟨ab, o + i * 2, none⟩ = some (.int .i64 (D i)) ∧ w.cell? ⟨ab, o + i * 2 + 1, none⟩ = some (.int .i64 (N i))

/-- What the law's loop keeps: a reader, and what it said. -/
def Stay (w : World) (s : ByteArray) (b : Nat) (t2 t3 : Int) (said : Value) (wr : World) : Prop :=
  ∃ p : Nat, p ≤ s.size ∧ Below w.heap.size w wr ∧
    ((Rd wr b s p 0 ∧ said = .string ⟨#[]⟩) ∨ ∃ j : Nat, 0 < j ∧ j < 10 ∧ Rd wr b s p j ∧ said = .string (errT t2 t3 j p))

theorem left_int {w : World} {b : Nat} {s : ByteArray} {p : Nat} {c : Int} (h : Rd w b s p c) (hp : p ≤ s.size) (hs : s.size ≤ maxLen) :
    Calls Tryd.prog 17 #[.pointer (some ⟨b, 0, none⟩)] w fun e w' => e = .returned (.int .i64 ((s.size : Int) - p)) ∧ w' = w.drew :=
  (left_any h hp hs).mono fun _ _ ⟨he, hw⟩ => ⟨by rw [he, Int.ofNat_sub hp], hw⟩
theorem toList_some {s : ByteArray} (h : 0 < s.size) : ¬ s.toList = [] := by
  intro he
  rw [ByteArray.toList_eq] at he
  have : s.size = 0 := by rw [show s.size = s.data.toList.length by simp, he]; rfl
  omega
theorem toList_full {s : ByteArray} (h : 0 < s.size) : s.toList.isEmpty = false := by
  cases hs : s.toList with
  | nil => exact absurd hs (toList_some h)
  | cons _ _ => rfl
theorem toList_none {s : ByteArray} (h : s.size = 0) : s.toList = [] := by
  rw [ByteArray.toList_eq]
  apply List.eq_nil_of_length_eq_zero
  simpa using h
theorem errT_pos (t2 t3 : Int) (j k : Nat) : 0 < (errT t2 t3 j k).size := by
  unfold errT
  rw [ByteArray.size_append, ByteArray.size_append, ByteArray.size_append]
  have h2 : faultText.size = 6 := rfl
  omega

set_option maxRecDepth 100000 in
set_option maxHeartbeats 40000000 in
theorem numStays_walk (s : ByteArray) (ao : Option Addr) (len cap : Nat) (D N : Nat → Int) (w : World) (t2 t3 : Int) (hg : Held w) (hT : Tab w t2 t3) (hs : s.size ≤ 3000) (hl : len ≤ 300) (hA : ActsIn w ao len D N) :
    Calls Tryd.prog 9 #[.string s, .slice ao len cap] w fun e w' => e = .returned (.bool true) ∧ Below w.heap.size w w' := by
  have hm : s.size ≤ maxLen := by unfold maxLen; omega
  have HM := Lib.hid hm
  have HA := Lib.hid hA
  have HG := Lib.hid hg
  have HT := Lib.hid hT
  clear hA hm hT
  go_enter Tryd.func9, Tryd.ntmps9
  go_wp2_with fail
  refine (awake_true w hg).mono ?_
  rintro e w1 ⟨rfl, b1⟩
  have hB1 := Lib.hid b1
  clear b1 hg
  go_wp2_with fail
  refine (new_any s _).mono ?_
  rintro e w2 ⟨rfl, hw2⟩
  have HR2 := Lib.hid (show Rd w2 w1.heap.size s 0 0 from hw2 ▸ Rd.new w1 s)
  have hB2 := Lib.hid (show Below w.heap.size w w2 from hw2 ▸ hB1.out.alloc hB1.out.size _)
  have HBR := Lib.hid (show w.heap.size ≤ w1.heap.size from hB1.out.size)
  clear hw2
  obtain ⟨b, hb⟩ : ∃ b, b = w1.heap.size := ⟨_, rfl⟩
  rw [← hb] at HR2 HBR ⊢
  clear hb
  go_wp2_with fail
  go_loopw [6, 7] (fun said i wr => ∃ k : Nat, k ≤ len ∧ i = .int .i64 k ∧ Stay w s b t2 t3 said wr) (fun _ i _ => len - (RowKit.intOf i).toNat)
  case atStart => exact ⟨0, Nat.zero_le _, rfl, 0, Nat.zero_le _, hB2.out, .inl ⟨HR2.out, rfl⟩⟩
  case round =>
    obtain ⟨k, hk, rfl, p, hp, hBl, hst⟩ := hrel
    by_cases hlt : k < len
    · obtain ⟨ab, o, rfl, g0, g1⟩ := HA.out k hlt
      have G0 := Lib.hid g0
      have G1 := Lib.hid g1
      have HB := Lib.hid hBl
      clear g0 g1 hBl
      obtain ⟨d, hd⟩ : ∃ d, d = D k := ⟨_, rfl⟩
      rw [← hd] at G0
      clear hd
      have d0 : wr.cell? ⟨ab, o + k * 2, none⟩ = some (.int .i64 d) := (HB.out.cell (lt_of_cell G0.out)).trans G0.out
      rcases hst with ⟨hR, rfl⟩ | ⟨j, hj0, hj1, hR, rfl⟩
      · have HR := Lib.hid hR
        clear hR
        by_cases h0 : d = 0
        · subst h0
          by_cases hn : p + 1 ≤ s.size
          · skip
            as_aux_lemma =>
              obtain ⟨p', hp'⟩ : ∃ p', p' = p + 1 := ⟨_, rfl⟩
              have hq : p ≤ p' := by omega
              have hq' : p' ≤ s.size := by omega
              have HC := Lib.hid (number_ok HR.out HM.out 1 (by decide) hn)
              unfold Read at HC
              rw [← hp'] at HC
              clear hp' hn
              go_wp2_with fail
              refine (at_any HR.out).mono ?_
              rintro e wn ⟨rfl, rfl⟩
              go_wp2_with fail
              refine (u8_of _ _ HC.out (fun _ _ h => ⟨_, _, h.1⟩)).mono ?_
              rintro e w3 ⟨rfl, R3, G3⟩
              have hB3 := HB.out.grown G3 HB.out.size (fun i hi => by cases hi; exact HBR.out)
              have e0 : w3.cell? ⟨ab, o + k * 2, none⟩ = some (.int .i64 0) := (hB3.cell (lt_of_cell G0.out)).trans G0.out
              have HB3 := Lib.hid hB3
              have HR3 := Lib.hid R3
              clear hB3 R3 G3 d0
              go_wp2_with fail
              refine (at_any HR3.out).mono ?_
              rintro e wn ⟨rfl, rfl⟩
              go_wp2_with fail
              have hpl : ((p' : Int) + ((s.size : Int) - p') != s.size) = false := by first | (simp; done) | (simp; omega)
              refine (left_int HR3.out hq' HM.out).mono ?_
              rintro e w4 ⟨rfl, hw4⟩
              have b4 : Below w3.heap.size w3 w4 := hw4 ▸ (Below.refl _ _).drew
              have e4 := (b4.cell (lt_of_cell e0)).trans e0
              have HB4 := Lib.hid (HB3.out.trans (b4.mono HB3.out.size))
              have HR4 := Lib.hid (HR3.out.below b4 HR3.out.lt)
              clear b4 hw4 e0
              go_wp2_with fail
              go_roundw
              case rel => exact ⟨k + 1, by omega, by go_num, p', hq', HB4.out, .inl ⟨HR4.out, rfl⟩⟩
              case measure => simp [RowKit.intOf]; omega
          · skip
            as_aux_lemma =>
              go_wp2_with fail
              refine (at_any HR.out).mono ?_
              rintro e wn ⟨rfl, rfl⟩
              go_wp2_with fail
              refine (u8_of _ _ (number_told 1 (text_short HR.out hp HM.out 1 (by decide) (by omega))) two_told).mono ?_
              rintro e w3 ⟨rfl, F3, R3, G3⟩
              have hB3 := HB.out.grown G3 HB.out.size (fun i hi => by cases hi; exact HBR.out)
              have e0 : w3.cell? ⟨ab, o + k * 2, none⟩ = some (.int .i64 0) := (hB3.cell (lt_of_cell G0.out)).trans G0.out
              have HB3 := Lib.hid hB3
              have HR3 := Lib.hid R3
              clear hB3 R3 G3 d0 hn
              go_wp2_with fail
              refine (at_any HR3.out).mono ?_
              rintro e wn ⟨rfl, rfl⟩
              go_wp2_with fail
              have hpl : ((p : Int) + ((s.size : Int) - p) != s.size) = false := by first | (simp; done) | (simp; omega)
              refine (left_int HR3.out hp HM.out).mono ?_
              rintro e w4 ⟨rfl, hw4⟩
              have b4 : Below w3.heap.size w3 w4 := hw4 ▸ (Below.refl _ _).drew
              have e4 := (b4.cell (lt_of_cell e0)).trans e0
              have HB4 := Lib.hid (HB3.out.trans (b4.mono HB3.out.size))
              have HR4 := Lib.hid (HR3.out.below b4 HR3.out.lt)
              have F4 := F3.below b4 F3.lt
              have hg4 := HG.out.below HB4.out HG.out.lt
              have T4 := HT.out.below HB4.out
              have HF4 := Lib.hid F4
              have HG4 := Lib.hid hg4
              have HT4 := Lib.hid T4
              clear b4 hw4 e0 F4 hg4 T4
              go_wp2_with fail
              refine (only_fault (asGives_fault (some ⟨wr.heap.size, 0, none⟩)) w4 HG4.out).mono ?_
              rintro e w5 ⟨rfl, b5⟩
              have f5 := (HF4.out.below b5 HF4.out.lt).c1
              have HF5 := Lib.hid (HF4.out.below b5 HF4.out.lt)
              have HT5 := Lib.hid (HT4.out.below b5)
              have HR5 := Lib.hid (HR4.out.below b5 HR4.out.lt)
              have HB5 := Lib.hid (HB4.out.trans (b5.mono HB4.out.size))
              clear b5
              go_wp2_with fail
              refine (error_all wr.heap.size 7 p (by decide) (by omega) w5 t2 t3 HF5.out HT5.out).mono ?_
              rintro e w6 ⟨rfl, b6⟩
              have HR6 := Lib.hid (HR5.out.below b6 HR5.out.lt)
              have HB6 := Lib.hid (HB5.out.trans (b6.mono HB5.out.size))
              clear b6
              go_wp2_with fail
              go_roundw
              case rel => exact ⟨k + 1, by omega, by go_num, p, hp, HB6.out, .inr ⟨7, by decide, (by decide), HR6.out, rfl⟩⟩
              case measure => simp [RowKit.intOf]; omega
        by_cases h1 : d = 1
        · subst h1
          clear h0
          by_cases hn : p + 2 ≤ s.size
          · skip
            as_aux_lemma =>
              obtain ⟨p', hp'⟩ : ∃ p', p' = p + 2 := ⟨_, rfl⟩
              have hq : p ≤ p' := by omega
              have hq' : p' ≤ s.size := by omega
              have HC := Lib.hid (number_ok HR.out HM.out 2 (by decide) hn)
              unfold Read at HC
              rw [← hp'] at HC
              clear hp' hn
              go_wp2_with fail
              refine (at_any HR.out).mono ?_
              rintro e wn ⟨rfl, rfl⟩
              go_wp2_with fail
              refine (u16_of _ _ HC.out (fun _ _ h => ⟨_, _, h.1⟩)).mono ?_
              rintro e w3 ⟨rfl, R3, G3⟩
              have hB3 := HB.out.grown G3 HB.out.size (fun i hi => by cases hi; exact HBR.out)
              have e0 : w3.cell? ⟨ab, o + k * 2, none⟩ = some (.int .i64 1) := (hB3.cell (lt_of_cell G0.out)).trans G0.out
              have HB3 := Lib.hid hB3
              have HR3 := Lib.hid R3
              clear hB3 R3 G3 d0
              go_wp2_with fail
              refine (at_any HR3.out).mono ?_
              rintro e wn ⟨rfl, rfl⟩
              go_wp2_with fail
              have hpl : ((p' : Int) + ((s.size : Int) - p') != s.size) = false := by first | (simp; done) | (simp; omega)
              refine (left_int HR3.out hq' HM.out).mono ?_
              rintro e w4 ⟨rfl, hw4⟩
              have b4 : Below w3.heap.size w3 w4 := hw4 ▸ (Below.refl _ _).drew
              have e4 := (b4.cell (lt_of_cell e0)).trans e0
              have HB4 := Lib.hid (HB3.out.trans (b4.mono HB3.out.size))
              have HR4 := Lib.hid (HR3.out.below b4 HR3.out.lt)
              clear b4 hw4 e0
              go_wp2_with fail
              go_roundw
              case rel => exact ⟨k + 1, by omega, by go_num, p', hq', HB4.out, .inl ⟨HR4.out, rfl⟩⟩
              case measure => simp [RowKit.intOf]; omega
          · skip
            as_aux_lemma =>
              go_wp2_with fail
              refine (at_any HR.out).mono ?_
              rintro e wn ⟨rfl, rfl⟩
              go_wp2_with fail
              refine (u16_of _ _ (number_told 2 (text_short HR.out hp HM.out 2 (by decide) (by omega))) two_told).mono ?_
              rintro e w3 ⟨rfl, F3, R3, G3⟩
              have hB3 := HB.out.grown G3 HB.out.size (fun i hi => by cases hi; exact HBR.out)
              have e0 : w3.cell? ⟨ab, o + k * 2, none⟩ = some (.int .i64 1) := (hB3.cell (lt_of_cell G0.out)).trans G0.out
              have HB3 := Lib.hid hB3
              have HR3 := Lib.hid R3
              clear hB3 R3 G3 d0 hn
              go_wp2_with fail
              refine (at_any HR3.out).mono ?_
              rintro e wn ⟨rfl, rfl⟩
              go_wp2_with fail
              have hpl : ((p : Int) + ((s.size : Int) - p) != s.size) = false := by first | (simp; done) | (simp; omega)
              refine (left_int HR3.out hp HM.out).mono ?_
              rintro e w4 ⟨rfl, hw4⟩
              have b4 : Below w3.heap.size w3 w4 := hw4 ▸ (Below.refl _ _).drew
              have e4 := (b4.cell (lt_of_cell e0)).trans e0
              have HB4 := Lib.hid (HB3.out.trans (b4.mono HB3.out.size))
              have HR4 := Lib.hid (HR3.out.below b4 HR3.out.lt)
              have F4 := F3.below b4 F3.lt
              have hg4 := HG.out.below HB4.out HG.out.lt
              have T4 := HT.out.below HB4.out
              have HF4 := Lib.hid F4
              have HG4 := Lib.hid hg4
              have HT4 := Lib.hid T4
              clear b4 hw4 e0 F4 hg4 T4
              go_wp2_with fail
              refine (only_fault (asGives_fault (some ⟨wr.heap.size, 0, none⟩)) w4 HG4.out).mono ?_
              rintro e w5 ⟨rfl, b5⟩
              have f5 := (HF4.out.below b5 HF4.out.lt).c1
              have HF5 := Lib.hid (HF4.out.below b5 HF4.out.lt)
              have HT5 := Lib.hid (HT4.out.below b5)
              have HR5 := Lib.hid (HR4.out.below b5 HR4.out.lt)
              have HB5 := Lib.hid (HB4.out.trans (b5.mono HB4.out.size))
              clear b5
              go_wp2_with fail
              refine (error_all wr.heap.size 7 p (by decide) (by omega) w5 t2 t3 HF5.out HT5.out).mono ?_
              rintro e w6 ⟨rfl, b6⟩
              have HR6 := Lib.hid (HR5.out.below b6 HR5.out.lt)
              have HB6 := Lib.hid (HB5.out.trans (b6.mono HB5.out.size))
              clear b6
              go_wp2_with fail
              go_roundw
              case rel => exact ⟨k + 1, by omega, by go_num, p, hp, HB6.out, .inr ⟨7, by decide, (by decide), HR6.out, rfl⟩⟩
              case measure => simp [RowKit.intOf]; omega
        by_cases h2 : d = 2
        · subst h2
          clear h0 h1
          by_cases hn : p + 4 ≤ s.size
          · skip
            as_aux_lemma =>
              obtain ⟨p', hp'⟩ : ∃ p', p' = p + 4 := ⟨_, rfl⟩
              have hq : p ≤ p' := by omega
              have hq' : p' ≤ s.size := by omega
              have HC := Lib.hid (number_ok HR.out HM.out 4 (by decide) hn)
              unfold Read at HC
              rw [← hp'] at HC
              clear hp' hn
              go_wp2_with fail
              refine (at_any HR.out).mono ?_
              rintro e wn ⟨rfl, rfl⟩
              go_wp2_with fail
              refine (u32_of _ _ HC.out (fun _ _ h => ⟨_, _, h.1⟩)).mono ?_
              rintro e w3 ⟨rfl, R3, G3⟩
              have hB3 := HB.out.grown G3 HB.out.size (fun i hi => by cases hi; exact HBR.out)
              have e0 : w3.cell? ⟨ab, o + k * 2, none⟩ = some (.int .i64 2) := (hB3.cell (lt_of_cell G0.out)).trans G0.out
              have HB3 := Lib.hid hB3
              have HR3 := Lib.hid R3
              clear hB3 R3 G3 d0
              go_wp2_with fail
              refine (at_any HR3.out).mono ?_
              rintro e wn ⟨rfl, rfl⟩
              go_wp2_with fail
              have hpl : ((p' : Int) + ((s.size : Int) - p') != s.size) = false := by first | (simp; done) | (simp; omega)
              refine (left_int HR3.out hq' HM.out).mono ?_
              rintro e w4 ⟨rfl, hw4⟩
              have b4 : Below w3.heap.size w3 w4 := hw4 ▸ (Below.refl _ _).drew
              have e4 := (b4.cell (lt_of_cell e0)).trans e0
              have HB4 := Lib.hid (HB3.out.trans (b4.mono HB3.out.size))
              have HR4 := Lib.hid (HR3.out.below b4 HR3.out.lt)
              clear b4 hw4 e0
              go_wp2_with fail
              go_roundw
              case rel => exact ⟨k + 1, by omega, by go_num, p', hq', HB4.out, .inl ⟨HR4.out, rfl⟩⟩
              case measure => simp [RowKit.intOf]; omega
          · skip
            as_aux_lemma =>
              go_wp2_with fail
              refine (at_any HR.out).mono ?_
              rintro e wn ⟨rfl, rfl⟩
              go_wp2_with fail
              refine (u32_of _ _ (number_told 4 (text_short HR.out hp HM.out 4 (by decide) (by omega))) two_told).mono ?_
              rintro e w3 ⟨rfl, F3, R3, G3⟩
              have hB3 := HB.out.grown G3 HB.out.size (fun i hi => by cases hi; exact HBR.out)
              have e0 : w3.cell? ⟨ab, o + k * 2, none⟩ = some (.int .i64 2) := (hB3.cell (lt_of_cell G0.out)).trans G0.out
              have HB3 := Lib.hid hB3
              have HR3 := Lib.hid R3
              clear hB3 R3 G3 d0 hn
              go_wp2_with fail
              refine (at_any HR3.out).mono ?_
              rintro e wn ⟨rfl, rfl⟩
              go_wp2_with fail
              have hpl : ((p : Int) + ((s.size : Int) - p) != s.size) = false := by first | (simp; done) | (simp; omega)
              refine (left_int HR3.out hp HM.out).mono ?_
              rintro e w4 ⟨rfl, hw4⟩
              have b4 : Below w3.heap.size w3 w4 := hw4 ▸ (Below.refl _ _).drew
              have e4 := (b4.cell (lt_of_cell e0)).trans e0
              have HB4 := Lib.hid (HB3.out.trans (b4.mono HB3.out.size))
              have HR4 := Lib.hid (HR3.out.below b4 HR3.out.lt)
              have F4 := F3.below b4 F3.lt
              have hg4 := HG.out.below HB4.out HG.out.lt
              have T4 := HT.out.below HB4.out
              have HF4 := Lib.hid F4
              have HG4 := Lib.hid hg4
              have HT4 := Lib.hid T4
              clear b4 hw4 e0 F4 hg4 T4
              go_wp2_with fail
              refine (only_fault (asGives_fault (some ⟨wr.heap.size, 0, none⟩)) w4 HG4.out).mono ?_
              rintro e w5 ⟨rfl, b5⟩
              have f5 := (HF4.out.below b5 HF4.out.lt).c1
              have HF5 := Lib.hid (HF4.out.below b5 HF4.out.lt)
              have HT5 := Lib.hid (HT4.out.below b5)
              have HR5 := Lib.hid (HR4.out.below b5 HR4.out.lt)
              have HB5 := Lib.hid (HB4.out.trans (b5.mono HB4.out.size))
              clear b5
              go_wp2_with fail
              refine (error_all wr.heap.size 7 p (by decide) (by omega) w5 t2 t3 HF5.out HT5.out).mono ?_
              rintro e w6 ⟨rfl, b6⟩
              have HR6 := Lib.hid (HR5.out.below b6 HR5.out.lt)
              have HB6 := Lib.hid (HB5.out.trans (b6.mono HB5.out.size))
              clear b6
              go_wp2_with fail
              go_roundw
              case rel => exact ⟨k + 1, by omega, by go_num, p, hp, HB6.out, .inr ⟨7, by decide, (by decide), HR6.out, rfl⟩⟩
              case measure => simp [RowKit.intOf]; omega
        by_cases h3 : d = 3
        · subst h3
          clear h0 h1 h2
          have d1 : wr.cell? ⟨ab, o + k * 2 + 1, none⟩ = some (.int .i64 (N k)) := (HB.out.cell (lt_of_cell G1.out)).trans G1.out
          generalize N k = n at d1
          by_cases hn0 : n < 0
          · skip
            as_aux_lemma =>
              go_wp2_with fail
              refine (at_any HR.out).mono ?_
              rintro e wn ⟨rfl, rfl⟩
              go_wp2_with fail
              refine (text_neg HR.out n hn0).mono ?_
              rintro e w3 ⟨rfl, F3, R3, G3⟩
              have hB3 := HB.out.grown G3 HB.out.size (fun i hi => by cases hi; exact HBR.out)
              have e0 : w3.cell? ⟨ab, o + k * 2, none⟩ = some (.int .i64 3) := (hB3.cell (lt_of_cell G0.out)).trans G0.out
              have HB3 := Lib.hid hB3
              have HR3 := Lib.hid R3
              clear hB3 R3 G3 d0 d1
              go_wp2_with fail
              refine (at_any HR3.out).mono ?_
              rintro e wn ⟨rfl, rfl⟩
              go_wp2_with fail
              have hpl : ((p : Int) + ((s.size : Int) - p) != s.size) = false := by first | (simp; done) | (simp; omega)
              refine (left_int HR3.out hp HM.out).mono ?_
              rintro e w4 ⟨rfl, hw4⟩
              have b4 : Below w3.heap.size w3 w4 := hw4 ▸ (Below.refl _ _).drew
              have e4 := (b4.cell (lt_of_cell e0)).trans e0
              have HB4 := Lib.hid (HB3.out.trans (b4.mono HB3.out.size))
              have HR4 := Lib.hid (HR3.out.below b4 HR3.out.lt)
              have F4 := F3.below b4 F3.lt
              have hg4 := HG.out.below HB4.out HG.out.lt
              have T4 := HT.out.below HB4.out
              have HF4 := Lib.hid F4
              have HG4 := Lib.hid hg4
              have HT4 := Lib.hid T4
              clear b4 hw4 e0 F4 hg4 T4
              go_wp2_with fail
              refine (only_fault (asGives_fault (some ⟨wr.heap.size, 0, none⟩)) w4 HG4.out).mono ?_
              rintro e w5 ⟨rfl, b5⟩
              have f5 := (HF4.out.below b5 HF4.out.lt).c1
              have HF5 := Lib.hid (HF4.out.below b5 HF4.out.lt)
              have HT5 := Lib.hid (HT4.out.below b5)
              have HR5 := Lib.hid (HR4.out.below b5 HR4.out.lt)
              have HB5 := Lib.hid (HB4.out.trans (b5.mono HB4.out.size))
              clear b5
              go_wp2_with fail
              refine (error_all wr.heap.size 1 p (by decide) (by omega) w5 t2 t3 HF5.out HT5.out).mono ?_
              rintro e w6 ⟨rfl, b6⟩
              have HR6 := Lib.hid (HR5.out.below b6 HR5.out.lt)
              have HB6 := Lib.hid (HB5.out.trans (b6.mono HB5.out.size))
              clear b6
              go_wp2_with fail
              go_roundw
              case rel => exact ⟨k + 1, by omega, by go_num, p, hp, HB6.out, .inr ⟨1, by decide, (by decide), HR6.out, rfl⟩⟩
              case measure => simp [RowKit.intOf]; omega
          · by_cases hn1 : ((s.size - p : Nat) : Int) < n
            · skip
              as_aux_lemma =>
                have hn2 : 0 ≤ n := by omega
                clear hn0
                have HC := Lib.hid (text_short HR.out hp HM.out n hn2 hn1)
                clear hn1
                go_wp2_with fail
                refine (at_any HR.out).mono ?_
                rintro e wn ⟨rfl, rfl⟩
                go_wp2_with fail
                refine (HC.out).mono ?_
                rintro e w3 ⟨rfl, F3, R3, G3⟩
                have hB3 := HB.out.grown G3 HB.out.size (fun i hi => by cases hi; exact HBR.out)
                have e0 : w3.cell? ⟨ab, o + k * 2, none⟩ = some (.int .i64 3) := (hB3.cell (lt_of_cell G0.out)).trans G0.out
                have HB3 := Lib.hid hB3
                have HR3 := Lib.hid R3
                clear hB3 R3 G3 d0 d1
                go_wp2_with fail
                refine (at_any HR3.out).mono ?_
                rintro e wn ⟨rfl, rfl⟩
                go_wp2_with fail
                have hpl : ((p : Int) + ((s.size : Int) - p) != s.size) = false := by first | (simp; done) | (simp; omega)
                refine (left_int HR3.out hp HM.out).mono ?_
                rintro e w4 ⟨rfl, hw4⟩
                have b4 : Below w3.heap.size w3 w4 := hw4 ▸ (Below.refl _ _).drew
                have e4 := (b4.cell (lt_of_cell e0)).trans e0
                have HB4 := Lib.hid (HB3.out.trans (b4.mono HB3.out.size))
                have HR4 := Lib.hid (HR3.out.below b4 HR3.out.lt)
                have F4 := F3.below b4 F3.lt
                have hg4 := HG.out.below HB4.out HG.out.lt
                have T4 := HT.out.below HB4.out
                have HF4 := Lib.hid F4
                have HG4 := Lib.hid hg4
                have HT4 := Lib.hid T4
                clear b4 hw4 e0 F4 hg4 T4
                go_wp2_with fail
                refine (only_fault (asGives_fault (some ⟨wr.heap.size, 0, none⟩)) w4 HG4.out).mono ?_
                rintro e w5 ⟨rfl, b5⟩
                have f5 := (HF4.out.below b5 HF4.out.lt).c1
                have HF5 := Lib.hid (HF4.out.below b5 HF4.out.lt)
                have HT5 := Lib.hid (HT4.out.below b5)
                have HR5 := Lib.hid (HR4.out.below b5 HR4.out.lt)
                have HB5 := Lib.hid (HB4.out.trans (b5.mono HB4.out.size))
                clear b5
                go_wp2_with fail
                refine (error_all wr.heap.size 7 p (by decide) (by omega) w5 t2 t3 HF5.out HT5.out).mono ?_
                rintro e w6 ⟨rfl, b6⟩
                have HR6 := Lib.hid (HR5.out.below b6 HR5.out.lt)
                have HB6 := Lib.hid (HB5.out.trans (b6.mono HB5.out.size))
                clear b6
                go_wp2_with fail
                go_roundw
                case rel => exact ⟨k + 1, by omega, by go_num, p, hp, HB6.out, .inr ⟨7, by decide, (by decide), HR6.out, rfl⟩⟩
                case measure => simp [RowKit.intOf]; omega
            · skip
              obtain ⟨m, rfl⟩ : ∃ m : Nat, n = m := ⟨n.toNat, by omega⟩
              obtain ⟨p', hp'⟩ : ∃ p', p' = p + m := ⟨_, rfl⟩
              have hq : p ≤ p' := by omega
              have hq' : p' ≤ s.size := by omega
              have HC := Lib.hid (text_ok HR.out HM.out m (by omega))
              unfold Read at HC
              rw [← hp'] at HC
              have hTs : (s.extract p p').size = p' - p := by simp; omega
              clear hn0 hn1
              by_cases hmm : m = 0
              · skip
                as_aux_lemma =>
                  have HMM := Lib.hid hmm
                  clear hmm
                  have hgt := toList_none (s := s.extract p p') (by have := HMM.out; omega)
                  clear hp' hTs
                  go_wp2_with fail
                  refine (at_any HR.out).mono ?_
                  rintro e wn ⟨rfl, rfl⟩
                  go_wp2_with fail
                  refine HC.out.mono ?_
                  rintro e w3 ⟨rfl, R3, G3⟩
                  have hB3 := HB.out.grown G3 HB.out.size (fun i hi => by cases hi; exact HBR.out)
                  have e0 : w3.cell? ⟨ab, o + k * 2, none⟩ = some (.int .i64 3) := (hB3.cell (lt_of_cell G0.out)).trans G0.out
                  have HB3 := Lib.hid hB3
                  have HR3 := Lib.hid R3
                  clear hB3 R3 G3 d0 d1
                  go_wp2_with fail
                  refine (at_any HR3.out).mono ?_
                  rintro e wn ⟨rfl, rfl⟩
                  go_wp2_with fail
                  have hpl : ((p' : Int) + ((s.size : Int) - p') != s.size) = false := by first | (simp; done) | (simp; omega)
                  refine (left_int HR3.out hq' HM.out).mono ?_
                  rintro e w4 ⟨rfl, hw4⟩
                  have b4 : Below w3.heap.size w3 w4 := hw4 ▸ (Below.refl _ _).drew
                  have e4 := (b4.cell (lt_of_cell e0)).trans e0
                  have HB4 := Lib.hid (HB3.out.trans (b4.mono HB3.out.size))
                  have HR4 := Lib.hid (HR3.out.below b4 HR3.out.lt)
                  clear b4 hw4 e0
                  go_wp2_with fail
                  go_roundw
                  case rel => exact ⟨k + 1, by omega, by go_num, p', hq', HB4.out, .inl ⟨HR4.out, rfl⟩⟩
                  case measure => simp [RowKit.intOf]; omega
              · skip
                as_aux_lemma =>
                  have hgt := toList_some (s := s.extract p p') (by omega)
                  have hgt' := toList_full (s := s.extract p p') (by omega)
                  clear hp' hTs
                  go_wp2_with fail
                  refine (at_any HR.out).mono ?_
                  rintro e wn ⟨rfl, rfl⟩
                  go_wp2_with fail
                  refine HC.out.mono ?_
                  rintro e w3 ⟨rfl, R3, G3⟩
                  have hB3 := HB.out.grown G3 HB.out.size (fun i hi => by cases hi; exact HBR.out)
                  have e0 : w3.cell? ⟨ab, o + k * 2, none⟩ = some (.int .i64 3) := (hB3.cell (lt_of_cell G0.out)).trans G0.out
                  have HB3 := Lib.hid hB3
                  have HR3 := Lib.hid R3
                  clear hB3 R3 G3 d0 d1
                  go_wp2_with fail
                  refine (at_any HR3.out).mono ?_
                  rintro e wn ⟨rfl, rfl⟩
                  go_wp2_with fail
                  have hpl : ((p' : Int) + ((s.size : Int) - p') != s.size) = false := by first | (simp; done) | (simp; omega)
                  refine (left_int HR3.out hq' HM.out).mono ?_
                  rintro e w4 ⟨rfl, hw4⟩
                  have b4 : Below w3.heap.size w3 w4 := hw4 ▸ (Below.refl _ _).drew
                  have e4 := (b4.cell (lt_of_cell e0)).trans e0
                  have HB4 := Lib.hid (HB3.out.trans (b4.mono HB3.out.size))
                  have HR4 := Lib.hid (HR3.out.below b4 HR3.out.lt)
                  clear b4 hw4 e0
                  go_wp2_with fail
                  go_roundw
                  case rel => exact ⟨k + 1, by omega, by go_num, p', hq', HB4.out, .inl ⟨HR4.out, rfl⟩⟩
                  case measure => simp [RowKit.intOf]; omega
        by_cases h4 : d = 4
        · subst h4
          clear h0 h1 h2 h3
          by_cases hn : p = s.size
          · skip
            as_aux_lemma =>
              have hTs : (s.extract p s.size).size = s.size - p := by simp
              have hgt := toList_none (s := s.extract p s.size) (by omega)
              clear hTs
              have hzz : s.size ≤ s.size := Nat.le_refl _
              go_wp2_with fail
              refine (at_any HR.out).mono ?_
              rintro e wn ⟨rfl, rfl⟩
              go_wp2_with fail
              refine (rest_ok HR.out hp).mono ?_
              rintro e w3 ⟨rfl, R3, G3⟩
              have hB3 := HB.out.grown G3 HB.out.size (fun i hi => by cases hi; exact HBR.out)
              have e0 : w3.cell? ⟨ab, o + k * 2, none⟩ = some (.int .i64 4) := (hB3.cell (lt_of_cell G0.out)).trans G0.out
              have HB3 := Lib.hid hB3
              have HR3 := Lib.hid R3
              clear hB3 R3 G3 d0
              go_wp2_with fail
              refine (at_any HR3.out).mono ?_
              rintro e wn ⟨rfl, rfl⟩
              go_wp2_with fail
              have hpl : ((s.size : Int) + ((s.size : Int) - s.size) != s.size) = false := by first | (simp; done) | (simp; omega)
              refine (left_int HR3.out hzz HM.out).mono ?_
              rintro e w4 ⟨rfl, hw4⟩
              have b4 : Below w3.heap.size w3 w4 := hw4 ▸ (Below.refl _ _).drew
              have e4 := (b4.cell (lt_of_cell e0)).trans e0
              have HB4 := Lib.hid (HB3.out.trans (b4.mono HB3.out.size))
              have HR4 := Lib.hid (HR3.out.below b4 HR3.out.lt)
              clear b4 hw4 e0
              go_wp2_with fail
              go_roundw
              case rel => exact ⟨k + 1, by omega, by go_num, s.size, hzz, HB4.out, .inl ⟨HR4.out, rfl⟩⟩
              case measure => simp [RowKit.intOf]; omega
          · skip
            as_aux_lemma =>
              have hTs : (s.extract p s.size).size = s.size - p := by simp
              have hgt := toList_some (s := s.extract p s.size) (by omega)
              have hgt' := toList_full (s := s.extract p s.size) (by omega)
              clear hTs
              have hzz : s.size ≤ s.size := Nat.le_refl _
              go_wp2_with fail
              refine (at_any HR.out).mono ?_
              rintro e wn ⟨rfl, rfl⟩
              go_wp2_with fail
              refine (rest_ok HR.out hp).mono ?_
              rintro e w3 ⟨rfl, R3, G3⟩
              have hB3 := HB.out.grown G3 HB.out.size (fun i hi => by cases hi; exact HBR.out)
              have e0 : w3.cell? ⟨ab, o + k * 2, none⟩ = some (.int .i64 4) := (hB3.cell (lt_of_cell G0.out)).trans G0.out
              have HB3 := Lib.hid hB3
              have HR3 := Lib.hid R3
              clear hB3 R3 G3 d0
              go_wp2_with fail
              refine (at_any HR3.out).mono ?_
              rintro e wn ⟨rfl, rfl⟩
              go_wp2_with fail
              have hpl : ((s.size : Int) + ((s.size : Int) - s.size) != s.size) = false := by first | (simp; done) | (simp; omega)
              refine (left_int HR3.out hzz HM.out).mono ?_
              rintro e w4 ⟨rfl, hw4⟩
              have b4 : Below w3.heap.size w3 w4 := hw4 ▸ (Below.refl _ _).drew
              have e4 := (b4.cell (lt_of_cell e0)).trans e0
              have HB4 := Lib.hid (HB3.out.trans (b4.mono HB3.out.size))
              have HR4 := Lib.hid (HR3.out.below b4 HR3.out.lt)
              clear b4 hw4 e0
              go_wp2_with fail
              go_roundw
              case rel => exact ⟨k + 1, by omega, by go_num, s.size, hzz, HB4.out, .inl ⟨HR4.out, rfl⟩⟩
              case measure => simp [RowKit.intOf]; omega
        have e0 : (d == 0) = false := by simpa using h0
        have e1 : (d == 1) = false := by simpa using h1
        have e2 : (d == 2) = false := by simpa using h2
        have e3 : (d == 3) = false := by simpa using h3
        have e4 : (d == 4) = false := by simpa using h4
        rcases Int.lt_or_le d 0 with hd | hd
        · clear h0 h1 h2 h3 h4
          as_aux_lemma =>
            go_wp2_with fail
            refine (at_any HR.out).mono ?_
            rintro e wn ⟨rfl, rfl⟩
            go_wp2_with fail
            obtain ⟨w3, hw3⟩ : ∃ w3, w3 = wr := ⟨_, rfl⟩
            rw [← hw3] at HR HB d0 ⊢
            have e0 := d0
            have HB3 := Lib.hid HB.out
            have HR3 := Lib.hid HR.out
            clear hw3 d0
            go_wp2_with fail
            refine (at_any HR3.out).mono ?_
            rintro e wn ⟨rfl, rfl⟩
            go_wp2_with fail
            have hpl : ((p : Int) + ((s.size : Int) - p) != s.size) = false := by first | (simp; done) | (simp; omega)
            refine (left_int HR3.out hp HM.out).mono ?_
            rintro e w4 ⟨rfl, hw4⟩
            have b4 : Below w3.heap.size w3 w4 := hw4 ▸ (Below.refl _ _).drew
            have e4 := (b4.cell (lt_of_cell e0)).trans e0
            have HB4 := Lib.hid (HB3.out.trans (b4.mono HB3.out.size))
            have HR4 := Lib.hid (HR3.out.below b4 HR3.out.lt)
            clear b4 hw4 e0
            go_wp2_with fail
            go_roundw
            case rel => exact ⟨k + 1, by omega, by go_num, p, hp, HB4.out, .inl ⟨HR4.out, rfl⟩⟩
            case measure => simp [RowKit.intOf]; omega
        · have hd5 : 5 ≤ d := by omega
          clear h0 h1 h2 h3 h4 hd
          as_aux_lemma =>
            go_wp2_with fail
            refine (at_any HR.out).mono ?_
            rintro e wn ⟨rfl, rfl⟩
            go_wp2_with fail
            obtain ⟨w3, hw3⟩ : ∃ w3, w3 = wr := ⟨_, rfl⟩
            rw [← hw3] at HR HB d0 ⊢
            have e0 := d0
            have HB3 := Lib.hid HB.out
            have HR3 := Lib.hid HR.out
            clear hw3 d0
            go_wp2_with fail
            refine (at_any HR3.out).mono ?_
            rintro e wn ⟨rfl, rfl⟩
            go_wp2_with fail
            have hpl : ((p : Int) + ((s.size : Int) - p) != s.size) = false := by first | (simp; done) | (simp; omega)
            refine (left_int HR3.out hp HM.out).mono ?_
            rintro e w4 ⟨rfl, hw4⟩
            have b4 : Below w3.heap.size w3 w4 := hw4 ▸ (Below.refl _ _).drew
            have e4 := (b4.cell (lt_of_cell e0)).trans e0
            have HB4 := Lib.hid (HB3.out.trans (b4.mono HB3.out.size))
            have HR4 := Lib.hid (HR3.out.below b4 HR3.out.lt)
            clear b4 hw4 e0
            go_wp2_with fail
            go_roundw
            case rel => exact ⟨k + 1, by omega, by go_num, p, hp, HB4.out, .inl ⟨HR4.out, rfl⟩⟩
            case measure => simp [RowKit.intOf]; omega
      · have HR := Lib.hid hR
        have HJ0 := Lib.hid (show ((j : Int) == 0) = false by simp; omega)
        have HJ1 := Lib.hid (show ((j : Int) != 0) = true by simp; omega)
        have hne := toList_some (errT_pos t2 t3 j p)
        have hne' := toList_full (errT_pos t2 t3 j p)
        clear hR
        by_cases h0 : d = 0
        · subst h0
          as_aux_lemma =>
            go_wp2_with fail
            refine (at_any HR.out).mono ?_
            rintro e wn ⟨rfl, rfl⟩
            go_wp2_with fail
            refine (u8_of _ _ (number_told 1 (text_had HR.out 1 HJ0.out HJ1.out)) two_told).mono ?_
            rintro e w3 ⟨rfl, F3, R3, G3⟩
            have hB3 := HB.out.grown G3 HB.out.size (fun i hi => by cases hi; exact HBR.out)
            have e0 : w3.cell? ⟨ab, o + k * 2, none⟩ = some (.int .i64 0) := (hB3.cell (lt_of_cell G0.out)).trans G0.out
            have HB3 := Lib.hid hB3
            have HR3 := Lib.hid R3
            clear hB3 R3 G3 d0
            go_wp2_with fail
            refine (at_any HR3.out).mono ?_
            rintro e wn ⟨rfl, rfl⟩
            go_wp2_with fail
            have hpl : ((p : Int) + ((s.size : Int) - p) != s.size) = false := by first | (simp; done) | (simp; omega)
            refine (left_int HR3.out hp HM.out).mono ?_
            rintro e w4 ⟨rfl, hw4⟩
            have b4 : Below w3.heap.size w3 w4 := hw4 ▸ (Below.refl _ _).drew
            have e4 := (b4.cell (lt_of_cell e0)).trans e0
            have HB4 := Lib.hid (HB3.out.trans (b4.mono HB3.out.size))
            have HR4 := Lib.hid (HR3.out.below b4 HR3.out.lt)
            have F4 := F3.below b4 F3.lt
            have hg4 := HG.out.below HB4.out HG.out.lt
            have T4 := HT.out.below HB4.out
            have HF4 := Lib.hid F4
            have HG4 := Lib.hid hg4
            have HT4 := Lib.hid T4
            clear b4 hw4 e0 F4 hg4 T4
            go_wp2_with fail
            refine (error_all wr.heap.size j p hj1 (by omega) w4 t2 t3 HF4.out HT4.out).mono ?_
            rintro e w5 ⟨rfl, b5⟩
            have HF5 := Lib.hid (HF4.out.below b5 HF4.out.lt)
            have HT5 := Lib.hid (HT4.out.below b5)
            have HG5 := Lib.hid (HG4.out.below b5 HG4.out.lt)
            have HR5 := Lib.hid (HR4.out.below b5 HR4.out.lt)
            have HB5 := Lib.hid (HB4.out.trans (b5.mono HB4.out.size))
            clear b5
            go_wp2_with fail
            refine (only_fault (asGives_fault (some ⟨wr.heap.size, 0, none⟩)) w5 HG5.out).mono ?_
            rintro e w6 ⟨rfl, b6⟩
            have f6 := (HF5.out.below b6 HF5.out.lt).c1
            have HF6 := Lib.hid (HF5.out.below b6 HF5.out.lt)
            have HT6 := Lib.hid (HT5.out.below b6)
            have HR6 := Lib.hid (HR5.out.below b6 HR5.out.lt)
            have HB6 := Lib.hid (HB5.out.trans (b6.mono HB5.out.size))
            clear b6
            go_wp2_with fail
            refine (error_all wr.heap.size j p hj1 (by omega) w6 t2 t3 HF6.out HT6.out).mono ?_
            rintro e w7 ⟨rfl, b7⟩
            have HR7 := Lib.hid (HR6.out.below b7 HR6.out.lt)
            have HB7 := Lib.hid (HB6.out.trans (b7.mono HB6.out.size))
            clear b7
            go_wp2_with fail
            go_roundw
            case rel => exact ⟨k + 1, by omega, by go_num, p, hp, HB7.out, .inr ⟨j, hj0, hj1, HR7.out, rfl⟩⟩
            case measure => simp [RowKit.intOf]; omega
        by_cases h1 : d = 1
        · subst h1
          clear h0
          as_aux_lemma =>
            go_wp2_with fail
            refine (at_any HR.out).mono ?_
            rintro e wn ⟨rfl, rfl⟩
            go_wp2_with fail
            refine (u16_of _ _ (number_told 2 (text_had HR.out 2 HJ0.out HJ1.out)) two_told).mono ?_
            rintro e w3 ⟨rfl, F3, R3, G3⟩
            have hB3 := HB.out.grown G3 HB.out.size (fun i hi => by cases hi; exact HBR.out)
            have e0 : w3.cell? ⟨ab, o + k * 2, none⟩ = some (.int .i64 1) := (hB3.cell (lt_of_cell G0.out)).trans G0.out
            have HB3 := Lib.hid hB3
            have HR3 := Lib.hid R3
            clear hB3 R3 G3 d0
            go_wp2_with fail
            refine (at_any HR3.out).mono ?_
            rintro e wn ⟨rfl, rfl⟩
            go_wp2_with fail
            have hpl : ((p : Int) + ((s.size : Int) - p) != s.size) = false := by first | (simp; done) | (simp; omega)
            refine (left_int HR3.out hp HM.out).mono ?_
            rintro e w4 ⟨rfl, hw4⟩
            have b4 : Below w3.heap.size w3 w4 := hw4 ▸ (Below.refl _ _).drew
            have e4 := (b4.cell (lt_of_cell e0)).trans e0
            have HB4 := Lib.hid (HB3.out.trans (b4.mono HB3.out.size))
            have HR4 := Lib.hid (HR3.out.below b4 HR3.out.lt)
            have F4 := F3.below b4 F3.lt
            have hg4 := HG.out.below HB4.out HG.out.lt
            have T4 := HT.out.below HB4.out
            have HF4 := Lib.hid F4
            have HG4 := Lib.hid hg4
            have HT4 := Lib.hid T4
            clear b4 hw4 e0 F4 hg4 T4
            go_wp2_with fail
            refine (error_all wr.heap.size j p hj1 (by omega) w4 t2 t3 HF4.out HT4.out).mono ?_
            rintro e w5 ⟨rfl, b5⟩
            have HF5 := Lib.hid (HF4.out.below b5 HF4.out.lt)
            have HT5 := Lib.hid (HT4.out.below b5)
            have HG5 := Lib.hid (HG4.out.below b5 HG4.out.lt)
            have HR5 := Lib.hid (HR4.out.below b5 HR4.out.lt)
            have HB5 := Lib.hid (HB4.out.trans (b5.mono HB4.out.size))
            clear b5
            go_wp2_with fail
            refine (only_fault (asGives_fault (some ⟨wr.heap.size, 0, none⟩)) w5 HG5.out).mono ?_
            rintro e w6 ⟨rfl, b6⟩
            have f6 := (HF5.out.below b6 HF5.out.lt).c1
            have HF6 := Lib.hid (HF5.out.below b6 HF5.out.lt)
            have HT6 := Lib.hid (HT5.out.below b6)
            have HR6 := Lib.hid (HR5.out.below b6 HR5.out.lt)
            have HB6 := Lib.hid (HB5.out.trans (b6.mono HB5.out.size))
            clear b6
            go_wp2_with fail
            refine (error_all wr.heap.size j p hj1 (by omega) w6 t2 t3 HF6.out HT6.out).mono ?_
            rintro e w7 ⟨rfl, b7⟩
            have HR7 := Lib.hid (HR6.out.below b7 HR6.out.lt)
            have HB7 := Lib.hid (HB6.out.trans (b7.mono HB6.out.size))
            clear b7
            go_wp2_with fail
            go_roundw
            case rel => exact ⟨k + 1, by omega, by go_num, p, hp, HB7.out, .inr ⟨j, hj0, hj1, HR7.out, rfl⟩⟩
            case measure => simp [RowKit.intOf]; omega
        by_cases h2 : d = 2
        · subst h2
          clear h0 h1
          as_aux_lemma =>
            go_wp2_with fail
            refine (at_any HR.out).mono ?_
            rintro e wn ⟨rfl, rfl⟩
            go_wp2_with fail
            refine (u32_of _ _ (number_told 4 (text_had HR.out 4 HJ0.out HJ1.out)) two_told).mono ?_
            rintro e w3 ⟨rfl, F3, R3, G3⟩
            have hB3 := HB.out.grown G3 HB.out.size (fun i hi => by cases hi; exact HBR.out)
            have e0 : w3.cell? ⟨ab, o + k * 2, none⟩ = some (.int .i64 2) := (hB3.cell (lt_of_cell G0.out)).trans G0.out
            have HB3 := Lib.hid hB3
            have HR3 := Lib.hid R3
            clear hB3 R3 G3 d0
            go_wp2_with fail
            refine (at_any HR3.out).mono ?_
            rintro e wn ⟨rfl, rfl⟩
            go_wp2_with fail
            have hpl : ((p : Int) + ((s.size : Int) - p) != s.size) = false := by first | (simp; done) | (simp; omega)
            refine (left_int HR3.out hp HM.out).mono ?_
            rintro e w4 ⟨rfl, hw4⟩
            have b4 : Below w3.heap.size w3 w4 := hw4 ▸ (Below.refl _ _).drew
            have e4 := (b4.cell (lt_of_cell e0)).trans e0
            have HB4 := Lib.hid (HB3.out.trans (b4.mono HB3.out.size))
            have HR4 := Lib.hid (HR3.out.below b4 HR3.out.lt)
            have F4 := F3.below b4 F3.lt
            have hg4 := HG.out.below HB4.out HG.out.lt
            have T4 := HT.out.below HB4.out
            have HF4 := Lib.hid F4
            have HG4 := Lib.hid hg4
            have HT4 := Lib.hid T4
            clear b4 hw4 e0 F4 hg4 T4
            go_wp2_with fail
            refine (error_all wr.heap.size j p hj1 (by omega) w4 t2 t3 HF4.out HT4.out).mono ?_
            rintro e w5 ⟨rfl, b5⟩
            have HF5 := Lib.hid (HF4.out.below b5 HF4.out.lt)
            have HT5 := Lib.hid (HT4.out.below b5)
            have HG5 := Lib.hid (HG4.out.below b5 HG4.out.lt)
            have HR5 := Lib.hid (HR4.out.below b5 HR4.out.lt)
            have HB5 := Lib.hid (HB4.out.trans (b5.mono HB4.out.size))
            clear b5
            go_wp2_with fail
            refine (only_fault (asGives_fault (some ⟨wr.heap.size, 0, none⟩)) w5 HG5.out).mono ?_
            rintro e w6 ⟨rfl, b6⟩
            have f6 := (HF5.out.below b6 HF5.out.lt).c1
            have HF6 := Lib.hid (HF5.out.below b6 HF5.out.lt)
            have HT6 := Lib.hid (HT5.out.below b6)
            have HR6 := Lib.hid (HR5.out.below b6 HR5.out.lt)
            have HB6 := Lib.hid (HB5.out.trans (b6.mono HB5.out.size))
            clear b6
            go_wp2_with fail
            refine (error_all wr.heap.size j p hj1 (by omega) w6 t2 t3 HF6.out HT6.out).mono ?_
            rintro e w7 ⟨rfl, b7⟩
            have HR7 := Lib.hid (HR6.out.below b7 HR6.out.lt)
            have HB7 := Lib.hid (HB6.out.trans (b7.mono HB6.out.size))
            clear b7
            go_wp2_with fail
            go_roundw
            case rel => exact ⟨k + 1, by omega, by go_num, p, hp, HB7.out, .inr ⟨j, hj0, hj1, HR7.out, rfl⟩⟩
            case measure => simp [RowKit.intOf]; omega
        by_cases h3 : d = 3
        · subst h3
          clear h0 h1 h2
          as_aux_lemma =>
            have d1 : wr.cell? ⟨ab, o + k * 2 + 1, none⟩ = some (.int .i64 (N k)) := (HB.out.cell (lt_of_cell G1.out)).trans G1.out
            generalize N k = n at d1
            go_wp2_with fail
            refine (at_any HR.out).mono ?_
            rintro e wn ⟨rfl, rfl⟩
            go_wp2_with fail
            refine (text_had HR.out n HJ0.out HJ1.out).mono ?_
            rintro e w3 ⟨rfl, F3, R3, G3⟩
            have hB3 := HB.out.grown G3 HB.out.size (fun i hi => by cases hi; exact HBR.out)
            have e0 : w3.cell? ⟨ab, o + k * 2, none⟩ = some (.int .i64 3) := (hB3.cell (lt_of_cell G0.out)).trans G0.out
            have HB3 := Lib.hid hB3
            have HR3 := Lib.hid R3
            clear hB3 R3 G3 d0 d1
            go_wp2_with fail
            refine (at_any HR3.out).mono ?_
            rintro e wn ⟨rfl, rfl⟩
            go_wp2_with fail
            have hpl : ((p : Int) + ((s.size : Int) - p) != s.size) = false := by first | (simp; done) | (simp; omega)
            refine (left_int HR3.out hp HM.out).mono ?_
            rintro e w4 ⟨rfl, hw4⟩
            have b4 : Below w3.heap.size w3 w4 := hw4 ▸ (Below.refl _ _).drew
            have e4 := (b4.cell (lt_of_cell e0)).trans e0
            have HB4 := Lib.hid (HB3.out.trans (b4.mono HB3.out.size))
            have HR4 := Lib.hid (HR3.out.below b4 HR3.out.lt)
            have F4 := F3.below b4 F3.lt
            have hg4 := HG.out.below HB4.out HG.out.lt
            have T4 := HT.out.below HB4.out
            have HF4 := Lib.hid F4
            have HG4 := Lib.hid hg4
            have HT4 := Lib.hid T4
            clear b4 hw4 e0 F4 hg4 T4
            go_wp2_with fail
            refine (error_all wr.heap.size j p hj1 (by omega) w4 t2 t3 HF4.out HT4.out).mono ?_
            rintro e w5 ⟨rfl, b5⟩
            have HF5 := Lib.hid (HF4.out.below b5 HF4.out.lt)
            have HT5 := Lib.hid (HT4.out.below b5)
            have HG5 := Lib.hid (HG4.out.below b5 HG4.out.lt)
            have HR5 := Lib.hid (HR4.out.below b5 HR4.out.lt)
            have HB5 := Lib.hid (HB4.out.trans (b5.mono HB4.out.size))
            clear b5
            go_wp2_with fail
            refine (only_fault (asGives_fault (some ⟨wr.heap.size, 0, none⟩)) w5 HG5.out).mono ?_
            rintro e w6 ⟨rfl, b6⟩
            have f6 := (HF5.out.below b6 HF5.out.lt).c1
            have HF6 := Lib.hid (HF5.out.below b6 HF5.out.lt)
            have HT6 := Lib.hid (HT5.out.below b6)
            have HR6 := Lib.hid (HR5.out.below b6 HR5.out.lt)
            have HB6 := Lib.hid (HB5.out.trans (b6.mono HB5.out.size))
            clear b6
            go_wp2_with fail
            refine (error_all wr.heap.size j p hj1 (by omega) w6 t2 t3 HF6.out HT6.out).mono ?_
            rintro e w7 ⟨rfl, b7⟩
            have HR7 := Lib.hid (HR6.out.below b7 HR6.out.lt)
            have HB7 := Lib.hid (HB6.out.trans (b7.mono HB6.out.size))
            clear b7
            go_wp2_with fail
            go_roundw
            case rel => exact ⟨k + 1, by omega, by go_num, p, hp, HB7.out, .inr ⟨j, hj0, hj1, HR7.out, rfl⟩⟩
            case measure => simp [RowKit.intOf]; omega
        by_cases h4 : d = 4
        · subst h4
          clear h0 h1 h2 h3
          as_aux_lemma =>
            go_wp2_with fail
            refine (at_any HR.out).mono ?_
            rintro e wn ⟨rfl, rfl⟩
            go_wp2_with fail
            refine (rest_had HR.out HJ1.out).mono ?_
            rintro e wn ⟨rfl, rfl⟩
            obtain ⟨w3, hw3⟩ : ∃ w3, w3 = wr := ⟨_, rfl⟩
            rw [← hw3] at HR HB d0 ⊢
            have e0 := d0
            have HB3 := Lib.hid HB.out
            have HR3 := Lib.hid HR.out
            clear hw3 d0
            go_wp2_with fail
            refine (at_any HR3.out).mono ?_
            rintro e wn ⟨rfl, rfl⟩
            go_wp2_with fail
            have hpl : ((p : Int) + ((s.size : Int) - p) != s.size) = false := by first | (simp; done) | (simp; omega)
            refine (left_int HR3.out hp HM.out).mono ?_
            rintro e w4 ⟨rfl, hw4⟩
            have b4 : Below w3.heap.size w3 w4 := hw4 ▸ (Below.refl _ _).drew
            have e4 := (b4.cell (lt_of_cell e0)).trans e0
            have HB4 := Lib.hid (HB3.out.trans (b4.mono HB3.out.size))
            have HR4 := Lib.hid (HR3.out.below b4 HR3.out.lt)
            clear b4 hw4 e0
            go_wp2_with fail
            go_roundw
            case rel => exact ⟨k + 1, by omega, by go_num, p, hp, HB4.out, .inr ⟨j, hj0, hj1, HR4.out, rfl⟩⟩
            case measure => simp [RowKit.intOf]; omega
        have e0 : (d == 0) = false := by simpa using h0
        have e1 : (d == 1) = false := by simpa using h1
        have e2 : (d == 2) = false := by simpa using h2
        have e3 : (d == 3) = false := by simpa using h3
        have e4 : (d == 4) = false := by simpa using h4
        rcases Int.lt_or_le d 0 with hd | hd
        · clear h0 h1 h2 h3 h4
          as_aux_lemma =>
            go_wp2_with fail
            refine (at_any HR.out).mono ?_
            rintro e wn ⟨rfl, rfl⟩
            go_wp2_with fail
            obtain ⟨w3, hw3⟩ : ∃ w3, w3 = wr := ⟨_, rfl⟩
            rw [← hw3] at HR HB d0 ⊢
            have e0 := d0
            have HB3 := Lib.hid HB.out
            have HR3 := Lib.hid HR.out
            clear hw3 d0
            go_wp2_with fail
            refine (at_any HR3.out).mono ?_
            rintro e wn ⟨rfl, rfl⟩
            go_wp2_with fail
            have hpl : ((p : Int) + ((s.size : Int) - p) != s.size) = false := by first | (simp; done) | (simp; omega)
            refine (left_int HR3.out hp HM.out).mono ?_
            rintro e w4 ⟨rfl, hw4⟩
            have b4 : Below w3.heap.size w3 w4 := hw4 ▸ (Below.refl _ _).drew
            have e4 := (b4.cell (lt_of_cell e0)).trans e0
            have HB4 := Lib.hid (HB3.out.trans (b4.mono HB3.out.size))
            have HR4 := Lib.hid (HR3.out.below b4 HR3.out.lt)
            clear b4 hw4 e0
            go_wp2_with fail
            go_roundw
            case rel => exact ⟨k + 1, by omega, by go_num, p, hp, HB4.out, .inr ⟨j, hj0, hj1, HR4.out, rfl⟩⟩
            case measure => simp [RowKit.intOf]; omega
        · have hd5 : 5 ≤ d := by omega
          clear h0 h1 h2 h3 h4 hd
          as_aux_lemma =>
            go_wp2_with fail
            refine (at_any HR.out).mono ?_
            rintro e wn ⟨rfl, rfl⟩
            go_wp2_with fail
            obtain ⟨w3, hw3⟩ : ∃ w3, w3 = wr := ⟨_, rfl⟩
            rw [← hw3] at HR HB d0 ⊢
            have e0 := d0
            have HB3 := Lib.hid HB.out
            have HR3 := Lib.hid HR.out
            clear hw3 d0
            go_wp2_with fail
            refine (at_any HR3.out).mono ?_
            rintro e wn ⟨rfl, rfl⟩
            go_wp2_with fail
            have hpl : ((p : Int) + ((s.size : Int) - p) != s.size) = false := by first | (simp; done) | (simp; omega)
            refine (left_int HR3.out hp HM.out).mono ?_
            rintro e w4 ⟨rfl, hw4⟩
            have b4 : Below w3.heap.size w3 w4 := hw4 ▸ (Below.refl _ _).drew
            have e4 := (b4.cell (lt_of_cell e0)).trans e0
            have HB4 := Lib.hid (HB3.out.trans (b4.mono HB3.out.size))
            have HR4 := Lib.hid (HR3.out.below b4 HR3.out.lt)
            clear b4 hw4 e0
            go_wp2_with fail
            go_roundw
            case rel => exact ⟨k + 1, by omega, by go_num, p, hp, HB4.out, .inr ⟨j, hj0, hj1, HR4.out, rfl⟩⟩
            case measure => simp [RowKit.intOf]; omega
    · go_wp2_with fail
      go_ret
      exact ⟨rfl, hBl⟩
end Go.Proofs.YtieadejlnfjgbaaDoor
