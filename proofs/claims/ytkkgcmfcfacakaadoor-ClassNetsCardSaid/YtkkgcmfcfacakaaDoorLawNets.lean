/-
  Proved here: the law ClassNets answers true.
  Conditions: what the library's variables hold.
-/
import Derived.Test.YtkkgcmfcfacakaaDoorNtw
import Derived.Test.YtkkgcmfcfacakaaDoorAwakec
import Derived.Test.YtkkgcmfcfacakaaDoorRtb
import Derived.Deep.CutBlock
import Derived.Deep.DeepCutAuto
namespace Go.Proofs.YtkkgcmfcfacakaaDoor
open Go.RowKit

theorem kp_pick {w0 w : World} {B : Nat} {l l' : List (Nat × TypeId × List Value)} (h : Kp w0 B l w) (hs : ∀ x ∈ l', x ∈ l) : Kp w0 B l' w := ⟨fun x hx => h.1 x (hs x hx), h.2⟩
theorem kp_bel {w0 w : World} {B : Nat} {l : List (Nat × TypeId × List Value)} (h : Kp w0 B l w) : Below B w0 w := h.2.1
theorem Kp.first2 {w0 w : World} {B : Nat} {x y : Nat × TypeId × List Value} {l : List (Nat × TypeId × List Value)} (h : Kp w0 B (x :: y :: l) w) : Kp w0 B [x, y] w :=
  ⟨fun z hz => h.1 z (by simp only [List.mem_cons, List.not_mem_nil, or_false] at hz ⊢; rcases hz with rfl | rfl <;> simp), h.2⟩
theorem ba_mk (l : List UInt8) (s : ByteArray) (h : bl s = l) : s = ⟨l.toArray⟩ := by
  apply bl_inj
  rw [h, bl_mk]
theorem word_bl (T D : ByteArray) (a b : List UInt8) (hT : bl T = a) (hD : bl D = b) : bl (T ++ ⟨#[47]⟩ ++ D) = a ++ 47 :: b := by
  have h : bl (T ++ ⟨#[47]⟩ ++ D) = bl T ++ [47] ++ bl D := by unfold bl; simp
  rw [h, hT, hD]
  simp
theorem word_size (T D : ByteArray) : (T ++ ⟨#[47]⟩ ++ D).size = T.size + 1 + D.size := by
  have h := congrArg List.length (word_bl T D (bl T) (bl D) rfl rfl)
  rw [bl_len, List.length_append, List.length_cons, bl_len, bl_len] at h
  omega
theorem long_size (T : ByteArray) (l : List UInt8) (hl : l.length ≤ 4) : (T ++ ⟨l.toArray⟩).size ≤ T.size + 4 := by
  rw [← bl_len, ← bl_len T]
  have h : bl (T ++ ⟨l.toArray⟩) = bl T ++ l := by unfold bl; simp
  rw [h, List.length_append]
  omega
set_option maxRecDepth 100000 in
set_option maxHeartbeats 8000000 in
theorem classNets_any (a x : List UInt8) (c d : UInt8) (w : World) (ha : a.length = 4) (hx : x.length = 16) (h0 : Hw w) :
    Calls Tryd.prog 10 #[.agg (bu a).toArray, .agg (bu x).toArray, .int .u8 (c.toNat : Int), .int .u8 (d.toNat : Int)] w fun e w' => e = .returned (.bool true) ∧ Below w.heap.size w w' := by
  have HW := Lib.hid h0
  have CA := Lib.hid (fun W (h : Hw W) => awakec_true W h)
  have gc := c.toNat_lt
  have gd := d.toNat_lt
  have tc : ((c.toNat : Nat) : Int).tmod 33 = ((c.toNat % 33 : Nat) : Int) := by rw [Int.tmod_eq_emod_of_nonneg (by omega)]; omega
  have td : ((d.toNat : Nat) : Int).tmod 129 = ((d.toNat % 129 : Nat) : Int) := by rw [Int.tmod_eq_emod_of_nonneg (by omega)]; omega
  have hn : c.toNat % 33 ≤ 32 := by have := Nat.mod_lt c.toNat (show 0 < 33 by omega); omega
  have hm : d.toNat % 129 ≤ 128 := by have := Nat.mod_lt d.toNat (show 0 < 129 by omega); omega
  generalize c.toNat = c0 at *
  generalize d.toNat = d0 at *
  generalize c0 % 33 = n at *
  generalize d0 % 129 = m at *
  have HI_VA : Hid ((Tryd.prog.info? 28).map (·.size) = some (bu a).length) := Lib.hid (Tryd.infoU4 _ ha)
  have HO_VA : Hid ((bu a).toArray.all (·.oneCell') = true) := Lib.hid (bu_one _)
  have HL_VA : Hid ((bu a).length = 4) := Lib.hid (by rw [bu_len]; exact ha)
  have HI_VX : Hid ((Tryd.prog.info? 24).map (·.size) = some (bu x).length) := Lib.hid (Tryd.infoU6 _ hx)
  have HO_VX : Hid ((bu x).toArray.all (·.oneCell') = true) := Lib.hid (bu_one _)
  have HL_VX : Hid ((bu x).length = 16) := Lib.hid (by rw [bu_len]; exact hx)
  have lc4 : (clr a n).length = 4 := by rw [← ha]; exact clr_len _ _
  have mm4 : (Nn.mk (clr a n) n).may = true := cut_may a n (by omega)
  have CC4 : Hid (∀ W, Calls Tryd.prog 37 #[.agg (bu a).toArray, .int .i64 (n : Int)] W fun e w' => e = .returned (.agg ((Nn.mk (clr a n) n).vals).toArray) ∧ Below W.heap.size W w') := Lib.hid (fun W => cut4_any a n W ha hn)
  obtain ⟨A4, hA4⟩ : ∃ A, A = clr a n := ⟨_, rfl⟩
  rw [← hA4] at CC4 lc4 mm4
  clear hA4
  obtain ⟨T4, hT4⟩ : ∃ T : ByteArray, T = ⟨(txt4 A4).toArray⟩ := ⟨_, rfl⟩
  obtain ⟨D4, hD4⟩ : ∃ D : ByteArray, D = ⟨(Lib.itoa (n : Int)).toArray⟩ := ⟨_, rfl⟩
  obtain ⟨B4, hB4⟩ : ∃ B, B = A4.set 3 (last1 (A4.getD 3 0)) := ⟨_, rfl⟩
  have lb4 : B4.length = 4 := by rw [hB4, List.length_set]; exact lc4
  have mb4 : n < 32 → (Nn.mk B4 n).may = false := fun h => by rw [hB4]; exact last_not A4 n 3 (by omega) (by omega)
  obtain ⟨U4, hU4⟩ : ∃ T : ByteArray, T = ⟨(txt4 B4).toArray⟩ := ⟨_, rfl⟩
  have et4 : bl T4 = txt4 A4 := by rw [hT4]; exact bl_mk _
  have ed4 : bl D4 = Lib.itoa (n : Int) := by rw [hD4]; exact bl_mk _
  have eu4 : bl U4 = txt4 B4 := by rw [hU4]; exact bl_mk _
  have st4 : T4.size ≤ 39 := by rw [← bl_len, et4]; have := txt4_len A4 lc4; omega
  have su4 : U4.size ≤ 39 := by rw [← bl_len, eu4]; have := txt4_len B4 lb4; omega
  have sd4 : D4.size ≤ 3 := by rw [← bl_len, ed4]; exact itoa_len n (by omega)
  have CT4 : Hid (∀ W, Hw W → Calls Tryd.prog 32 #[.agg (bu A4).toArray] W fun e w' => e = .returned (.string T4) ∧ Below W.heap.size W w') := Lib.hid (fun W h => by rw [hT4]; exact text4_any A4 W lc4 h.tb)
  have CU4 : Hid (∀ W, Hw W → Calls Tryd.prog 32 #[.agg (bu B4).toArray] W fun e w' => e = .returned (.string U4) ∧ Below W.heap.size W w') := Lib.hid (fun W h => by rw [hU4]; exact text4_any B4 W lb4 h.tb)
  have CI4 : Hid (∀ W, Hw W → Calls Tryd.prog 38 #[.int .i64 (n : Int)] W fun e w' => e = .returned (.string D4) ∧ Below W.heap.size W w') := Lib.hid (fun W h => by rw [hD4]; exact itoa_any n (by omega) W h.tb)
  have CN4 : Hid (∀ W, Hw W → Calls Tryd.prog 15 #[.string (T4 ++ ⟨#[47]⟩ ++ D4)] W fun e w' => e = .returned (.tuple #[.agg ((Nn.mk A4 n).vals).toArray, .bool true]) ∧ Below W.heap.size W w') := Lib.hid (fun W h => by
    have hw := word_bl T4 D4 _ _ et4 ed4
    have h1 := net4_word (T4 ++ ⟨#[47]⟩ ++ D4) A4 n lc4 hn hw
    have h2 := parsenet4_any (T4 ++ ⟨#[47]⟩ ++ D4) W (by rw [word_size]; omega) h.ml
    rw [h1.2 mm4, h1.1, mm4] at h2
    exact h2)
  obtain ⟨E4, hE4⟩ : ∃ E, E = zeroN4 := ⟨_, rfl⟩
  have lE4 : E4.ad.length = 4 := by rw [hE4]; rfl
  have CL4 : Hid (∀ W, Hw W → Calls Tryd.prog 15 #[.string (T4 ++ ⟨#[47, 51, 51]⟩)] W fun e w' => e = .returned (.tuple #[.agg E4.vals.toArray, .bool false]) ∧ Below W.heap.size W w') := Lib.hid (fun W h => by
    have hw : bl (T4 ++ ⟨#[47, 51, 51]⟩) = txt4 A4 ++ 47 :: [51, 51] := by rw [← et4]; unfold bl; simp
    have h1 := net4_long _ A4 hw
    have h2 := parsenet4_any (T4 ++ ⟨#[47, 51, 51]⟩) W (by have := long_size T4 [47, 51, 51] (by decide); exact Nat.lt_of_le_of_lt this (by omega)) h.ml
    rw [(okN4_p _).2, h1] at h2
    rw [hE4]
    exact h2)
  have CM4 : Hid (n < 32 → ∀ W, Hw W → Calls Tryd.prog 15 #[.string (U4 ++ ⟨#[47]⟩ ++ D4)] W fun e w' => e = .returned (.tuple #[.agg E4.vals.toArray, .bool false]) ∧ Below W.heap.size W w') := Lib.hid (fun hlt W h => by
    have hw := word_bl U4 D4 _ _ eu4 ed4
    have h1 := (net4_word (U4 ++ ⟨#[47]⟩ ++ D4) B4 n lb4 hn hw).1
    have h2 := parsenet4_any (U4 ++ ⟨#[47]⟩ ++ D4) W (by rw [word_size]; omega) h.ml
    rw [mb4 hlt] at h1
    rw [(okN4_p _).2, h1] at h2
    rw [hE4]
    exact h2)
  have ZA4 : Hid (¬ 9223372036854775807 < T4.size + 1) := Lib.hid (by omega)
  have ZB4 : Hid (¬ 9223372036854775807 < T4.size + 1 + D4.size) := Lib.hid (by omega)
  have ZC4 : Hid (¬ 9223372036854775807 < T4.size + 3) := Lib.hid (by omega)
  have ZD4 : Hid (¬ 9223372036854775807 < U4.size + 1) := Lib.hid (by omega)
  have ZE4 : Hid (¬ 9223372036854775807 < U4.size + 1 + D4.size) := Lib.hid (by omega)
  have HR4 : Hid (∀ (g : Nat) W, Bk W g 32 ((Nn.mk A4 n).vals).toArray → W.rangeAt g 0 (bu A4) ∧ W.cell? ⟨g, 4, none⟩ = some (.int .i64 (n : Int))) := Lib.hid (fun g W hb => by
    have h := nn_row (Nn.mk A4 n) g 32 W hb
    dsimp only at h
    rwa [lc4] at h)
  have HQ4 : Hid (∀ (g : Nat) W, Bk W g 32 ((Nn.mk B4 n).vals).toArray → W.rangeAt g 0 (bu B4) ∧ W.cell? ⟨g, 4, none⟩ = some (.int .i64 (n : Int))) := Lib.hid (fun g W hb => by
    have h := nn_row (Nn.mk B4 n) g 32 W hb
    dsimp only at h
    rwa [lb4] at h)
  obtain ⟨e4, he4⟩ : ∃ e, e = A4.getD 3 0 := ⟨_, rfl⟩
  have HE4 : Hid (∀ (g : Nat) W, Bk W g 32 ((Nn.mk A4 n).vals).toArray → W.cell? ⟨g, 3, none⟩ = some (.int .u8 (e4.toNat : Int))) := Lib.hid (fun g W hb => by
    rw [he4]
    exact hb.at (nn_at (Nn.mk A4 n) 3 (by dsimp only; omega)))
  have HS4 : Hid (((Nn.mk A4 n).vals).set 3 (.int .u8 ((last1 e4).toNat : Int)) = (Nn.mk B4 n).vals) := Lib.hid (by
    rw [hB4, ← he4]
    unfold Nn.vals
    dsimp only
    rw [bu_set, List.set_append_left _ _ (by rw [bu_len]; omega)])
  have HL4 : Hid (bits BinOp.or IntKind.u8 (e4.toNat : Int) 1 = ((last1 e4).toNat : Int)) := Lib.hid (last1_is e4)
  have NQ4 : Hid (∀ W, (binOp .neq 32 (.agg ((Nn.mk A4 n).vals).toArray) (.agg ((Nn.mk A4 n).vals).toArray)).run Tryd.prog W = .ok (.bool false) W) := Lib.hid (fun W => by
    have h := neqN4 (Nn.mk A4 n) (Nn.mk A4 n) lc4 lc4 W
    rwa [show (!(decide ((Nn.mk A4 n).ad = (Nn.mk A4 n).ad) && (Nn.mk A4 n).ln == (Nn.mk A4 n).ln)) = false by simp] at h)
  have lc6 : (clr x m).length = 16 := by rw [← hx]; exact clr_len _ _
  have mm6 : (Nn.mk (clr x m) m).may = true := cut_may x m (by omega)
  have CC6 : Hid (∀ W, Calls Tryd.prog 36 #[.agg (bu x).toArray, .int .i64 (m : Int)] W fun e w' => e = .returned (.agg ((Nn.mk (clr x m) m).vals).toArray) ∧ Below W.heap.size W w') := Lib.hid (fun W => cut6_any x m W hx hm)
  obtain ⟨A6, hA6⟩ : ∃ A, A = clr x m := ⟨_, rfl⟩
  rw [← hA6] at CC6 lc6 mm6
  clear hA6
  obtain ⟨T6, hT6⟩ : ∃ T : ByteArray, T = ⟨(txt6 A6).toArray⟩ := ⟨_, rfl⟩
  obtain ⟨D6, hD6⟩ : ∃ D : ByteArray, D = ⟨(Lib.itoa (m : Int)).toArray⟩ := ⟨_, rfl⟩
  obtain ⟨B6, hB6⟩ : ∃ B, B = A6.set 15 (last1 (A6.getD 15 0)) := ⟨_, rfl⟩
  have lb6 : B6.length = 16 := by rw [hB6, List.length_set]; exact lc6
  have mb6 : m < 128 → (Nn.mk B6 m).may = false := fun h => by rw [hB6]; exact last_not A6 m 15 (by omega) (by omega)
  obtain ⟨U6, hU6⟩ : ∃ T : ByteArray, T = ⟨(txt6 B6).toArray⟩ := ⟨_, rfl⟩
  have et6 : bl T6 = txt6 A6 := by rw [hT6]; exact bl_mk _
  have ed6 : bl D6 = Lib.itoa (m : Int) := by rw [hD6]; exact bl_mk _
  have eu6 : bl U6 = txt6 B6 := by rw [hU6]; exact bl_mk _
  have st6 : T6.size ≤ 39 := by rw [← bl_len, et6]; exact txt6_len A6
  have su6 : U6.size ≤ 39 := by rw [← bl_len, eu6]; exact txt6_len B6
  have sd6 : D6.size ≤ 3 := by rw [← bl_len, ed6]; exact itoa_len m (by omega)
  have CT6 : Hid (∀ W, Hw W → Calls Tryd.prog 12 #[.agg (bu A6).toArray] W fun e w' => e = .returned (.string T6) ∧ Below W.heap.size W w') := Lib.hid (fun W h => by rw [hT6]; exact text6_any A6 W lc6 h.db)
  have CU6 : Hid (∀ W, Hw W → Calls Tryd.prog 12 #[.agg (bu B6).toArray] W fun e w' => e = .returned (.string U6) ∧ Below W.heap.size W w') := Lib.hid (fun W h => by rw [hU6]; exact text6_any B6 W lb6 h.db)
  have CI6 : Hid (∀ W, Hw W → Calls Tryd.prog 38 #[.int .i64 (m : Int)] W fun e w' => e = .returned (.string D6) ∧ Below W.heap.size W w') := Lib.hid (fun W h => by rw [hD6]; exact itoa_any m (by omega) W h.tb)
  have CN6 : Hid (∀ W, Hw W → Calls Tryd.prog 16 #[.string (T6 ++ ⟨#[47]⟩ ++ D6)] W fun e w' => e = .returned (.tuple #[.agg ((Nn.mk A6 m).vals).toArray, .bool true]) ∧ Below W.heap.size W w') := Lib.hid (fun W h => by
    have hw := word_bl T6 D6 _ _ et6 ed6
    have h1 := net6_word (T6 ++ ⟨#[47]⟩ ++ D6) A6 m lc6 hm hw
    have h2 := parsenet6_any (T6 ++ ⟨#[47]⟩ ++ D6) W (by rw [word_size]; omega) h.ml
    rw [h1.2 mm6, h1.1, mm6] at h2
    exact h2)
  obtain ⟨E6, hE6⟩ : ∃ E, E = zeroN6 := ⟨_, rfl⟩
  have lE6 : E6.ad.length = 16 := by rw [hE6]; rfl
  have CL6 : Hid (∀ W, Hw W → Calls Tryd.prog 16 #[.string (T6 ++ ⟨#[47, 49, 50, 57]⟩)] W fun e w' => e = .returned (.tuple #[.agg E6.vals.toArray, .bool false]) ∧ Below W.heap.size W w') := Lib.hid (fun W h => by
    have hw : bl (T6 ++ ⟨#[47, 49, 50, 57]⟩) = txt6 A6 ++ 47 :: [49, 50, 57] := by rw [← et6]; unfold bl; simp
    have h1 := net6_long _ A6 hw
    have h2 := parsenet6_any (T6 ++ ⟨#[47, 49, 50, 57]⟩) W (by have := long_size T6 [47, 49, 50, 57] (by decide); exact Nat.lt_of_le_of_lt this (by omega)) h.ml
    rw [(okN6_p _).2, h1] at h2
    rw [hE6]
    exact h2)
  have CM6 : Hid (m < 128 → ∀ W, Hw W → Calls Tryd.prog 16 #[.string (U6 ++ ⟨#[47]⟩ ++ D6)] W fun e w' => e = .returned (.tuple #[.agg E6.vals.toArray, .bool false]) ∧ Below W.heap.size W w') := Lib.hid (fun hlt W h => by
    have hw := word_bl U6 D6 _ _ eu6 ed6
    have h1 := (net6_word (U6 ++ ⟨#[47]⟩ ++ D6) B6 m lb6 hm hw).1
    have h2 := parsenet6_any (U6 ++ ⟨#[47]⟩ ++ D6) W (by rw [word_size]; omega) h.ml
    rw [mb6 hlt] at h1
    rw [(okN6_p _).2, h1] at h2
    rw [hE6]
    exact h2)
  have ZA6 : Hid (¬ 9223372036854775807 < T6.size + 1) := Lib.hid (by omega)
  have ZB6 : Hid (¬ 9223372036854775807 < T6.size + 1 + D6.size) := Lib.hid (by omega)
  have ZC6 : Hid (¬ 9223372036854775807 < T6.size + 4) := Lib.hid (by omega)
  have ZD6 : Hid (¬ 9223372036854775807 < U6.size + 1) := Lib.hid (by omega)
  have ZE6 : Hid (¬ 9223372036854775807 < U6.size + 1 + D6.size) := Lib.hid (by omega)
  have HR6 : Hid (∀ (g : Nat) W, Bk W g 36 ((Nn.mk A6 m).vals).toArray → W.rangeAt g 0 (bu A6) ∧ W.cell? ⟨g, 16, none⟩ = some (.int .i64 (m : Int))) := Lib.hid (fun g W hb => by
    have h := nn_row (Nn.mk A6 m) g 36 W hb
    dsimp only at h
    rwa [lc6] at h)
  have HQ6 : Hid (∀ (g : Nat) W, Bk W g 36 ((Nn.mk B6 m).vals).toArray → W.rangeAt g 0 (bu B6) ∧ W.cell? ⟨g, 16, none⟩ = some (.int .i64 (m : Int))) := Lib.hid (fun g W hb => by
    have h := nn_row (Nn.mk B6 m) g 36 W hb
    dsimp only at h
    rwa [lb6] at h)
  obtain ⟨e6, he6⟩ : ∃ e, e = A6.getD 15 0 := ⟨_, rfl⟩
  have HE6 : Hid (∀ (g : Nat) W, Bk W g 36 ((Nn.mk A6 m).vals).toArray → W.cell? ⟨g, 15, none⟩ = some (.int .u8 (e6.toNat : Int))) := Lib.hid (fun g W hb => by
    rw [he6]
    exact hb.at (nn_at (Nn.mk A6 m) 15 (by dsimp only; omega)))
  have HS6 : Hid (((Nn.mk A6 m).vals).set 15 (.int .u8 ((last1 e6).toNat : Int)) = (Nn.mk B6 m).vals) := Lib.hid (by
    rw [hB6, ← he6]
    unfold Nn.vals
    dsimp only
    rw [bu_set, List.set_append_left _ _ (by rw [bu_len]; omega)])
  have HL6 : Hid (bits BinOp.or IntKind.u8 (e6.toNat : Int) 1 = ((last1 e6).toNat : Int)) := Lib.hid (last1_is e6)
  have NQ6 : Hid (∀ W, (binOp .neq 36 (.agg ((Nn.mk A6 m).vals).toArray) (.agg ((Nn.mk A6 m).vals).toArray)).run Tryd.prog W = .ok (.bool false) W) := Lib.hid (fun W => by
    have h := neqN6 (Nn.mk A6 m) (Nn.mk A6 m) lc6 lc6 W
    rwa [show (!(decide ((Nn.mk A6 m).ad = (Nn.mk A6 m).ad) && (Nn.mk A6 m).ln == (Nn.mk A6 m).ln)) = false by simp] at h)
  have HI_P4 : Hid ((Tryd.prog.info? 32).map (·.size) = some ((Nn.mk A4 n).vals).length) := Lib.hid (Tryd.infoNn4 _ lc4)
  have HO_P4 : Hid (((Nn.mk A4 n).vals).toArray.all (·.oneCell') = true) := Lib.hid (nn_one _)
  have HL_P4 : Hid (((Nn.mk A4 n).vals).length = 5) := Lib.hid (by unfold Nn.vals; rw [List.length_append, bu_len, lc4]; rfl)
  have HI_R4 : Hid ((Tryd.prog.info? 28).map (·.size) = some (bu A4).length) := Lib.hid (Tryd.infoU4 _ lc4)
  have HO_R4 : Hid ((bu A4).toArray.all (·.oneCell') = true) := Lib.hid (bu_one _)
  have HL_R4 : Hid ((bu A4).length = 4) := Lib.hid (by rw [bu_len]; exact lc4)
  have HI_S4 : Hid ((Tryd.prog.info? 28).map (·.size) = some (bu B4).length) := Lib.hid (Tryd.infoU4 _ lb4)
  have HO_S4 : Hid ((bu B4).toArray.all (·.oneCell') = true) := Lib.hid (bu_one _)
  have HL_S4 : Hid ((bu B4).length = 4) := Lib.hid (by rw [bu_len]; exact lb4)
  have HI_Z4N : Hid ((Tryd.prog.info? 32).map (·.size) = some (E4.vals).length) := Lib.hid (Tryd.infoNn4 _ lE4)
  have HO_Z4N : Hid ((E4.vals).toArray.all (·.oneCell') = true) := Lib.hid (nn_one _)
  have HL_Z4N : Hid ((E4.vals).length = 5) := Lib.hid (by unfold Nn.vals; rw [List.length_append, bu_len, lE4]; rfl)
  have HI_P6 : Hid ((Tryd.prog.info? 36).map (·.size) = some ((Nn.mk A6 m).vals).length) := Lib.hid (Tryd.infoNn6 _ lc6)
  have HO_P6 : Hid (((Nn.mk A6 m).vals).toArray.all (·.oneCell') = true) := Lib.hid (nn_one _)
  have HL_P6 : Hid (((Nn.mk A6 m).vals).length = 17) := Lib.hid (by unfold Nn.vals; rw [List.length_append, bu_len, lc6]; rfl)
  have HI_R6 : Hid ((Tryd.prog.info? 24).map (·.size) = some (bu A6).length) := Lib.hid (Tryd.infoU6 _ lc6)
  have HO_R6 : Hid ((bu A6).toArray.all (·.oneCell') = true) := Lib.hid (bu_one _)
  have HL_R6 : Hid ((bu A6).length = 16) := Lib.hid (by rw [bu_len]; exact lc6)
  have HI_S6 : Hid ((Tryd.prog.info? 24).map (·.size) = some (bu B6).length) := Lib.hid (Tryd.infoU6 _ lb6)
  have HO_S6 : Hid ((bu B6).toArray.all (·.oneCell') = true) := Lib.hid (bu_one _)
  have HL_S6 : Hid ((bu B6).length = 16) := Lib.hid (by rw [bu_len]; exact lb6)
  have HI_Z6N : Hid ((Tryd.prog.info? 36).map (·.size) = some (E6.vals).length) := Lib.hid (Tryd.infoNn6 _ lE6)
  have HO_Z6N : Hid ((E6.vals).toArray.all (·.oneCell') = true) := Lib.hid (nn_one _)
  have HL_Z6N : Hid ((E6.vals).length = 17) := Lib.hid (by unfold Nn.vals; rw [List.length_append, bu_len, lE6]; rfl)
  generalize (Nn.mk A4 n).vals = P4 at *
  generalize (Nn.mk B4 n).vals = Q4 at *
  generalize bu A4 = R4 at *
  generalize bu B4 = S4 at *
  generalize E4.vals = Z4N at *
  clear hT4 hD4 hB4 hU4 et4 ed4 eu4 lc4 lb4 mm4 mb4 he4 hE4 lE4
  have HT4 : Hid (T4.size ≤ 39 ∧ U4.size ≤ 39 ∧ D4.size ≤ 3) := Lib.hid ⟨st4, su4, sd4⟩
  clear st4 su4 sd4
  generalize (Nn.mk A6 m).vals = P6 at *
  generalize (Nn.mk B6 m).vals = Q6 at *
  generalize bu A6 = R6 at *
  generalize bu B6 = S6 at *
  generalize E6.vals = Z6N at *
  clear hT6 hD6 hB6 hU6 et6 ed6 eu6 lc6 lb6 mm6 mb6 he6 hE6 lE6
  have HT6 : Hid (T6.size ≤ 39 ∧ U6.size ≤ 39 ∧ D6.size ≤ 3) := Lib.hid ⟨st6, su6, sd6⟩
  clear st6 su6 sd6
  have HK1 : Hid (Kp w w.heap.size [(w.heap.size + 1, 24, bu x), (w.heap.size, 28, bu a)] ((w.alloc (.cells (bu a).toArray 28)).alloc (.cells (bu x).toArray 24))) := Lib.hid (kp2 w 28 24 (bu a) (bu x))
  generalize bu a = VA at *
  generalize bu x = VX at *
  clear ha hx h0
  have HWn : Hid (wrap64 ((n : Nat) : Int) = ((n : Nat) : Int)) := Lib.hid (by unfold wrap64; omega)
  have HWm : Hid (wrap64 ((m : Nat) : Int) = ((m : Nat) : Int)) := Lib.hid (by unfold wrap64; omega)
  have Htc := Lib.hid tc
  have Htd := Lib.hid td
  clear tc td
  have Hn := Lib.hid hn
  have Hm := Lib.hid hm
  clear hn hm gc gd
  generalize hw1 : (w.alloc (.cells VA.toArray 28)).alloc (.cells VX.toArray 24) = w1 at *
  go_enter Tryd.func10, Tryd.ntmps10
  go_upto_region 1 with (fail)
  clear hw1
  go_wp2_with (fail)
  refine (CA.out _ (HW.out.below HK1.out.2.1)).mono ?_
  rintro e w2 ⟨rfl, bb⟩
  have HK2 := Lib.hid (HK1.out.below bb (Nat.le_refl _))
  clear bb HK1
  have tc := Htc.out
  have hwn := HWn.out
  have hr0 := HK2.out.tl.hd.range
  go_wp2_with (((with_reducible (change wpList _ _ _ _ _ _)); ((refine wpList_load_mid rfl 28 _ rfl (w.heap.size) 0 rfl VA _ hr0 Tryd.underlying28 rfl HI_VA.out ?_))))
  clear hr0
  refine (CC4.out _).mono ?_
  rintro e w3 ⟨rfl, bb⟩
  have HK3 := Lib.hid (HK2.out.below bb (Nat.le_refl _))
  clear bb HK2
  clear tc hwn
  have HBg1 : Hid (w.heap.size ≤ w3.heap.size) := Lib.hid HK3.out.2.2
  have ht := (bk_new w3 32 ([.int .u8 0, .int .u8 0, .int .u8 0, .int .u8 0, .int .i64 0] : List Value).toArray).there P4.toArray.size (by have := HL_P4.out; simp; omega)
  go_upto_region 4 with (((with_reducible (change wpList _ _ _ _ _ _)); ((refine wpList_store_mid rfl 32 _ _ rfl w3.heap.size 0 P4.toArray rfl rfl ht (by simpa using HI_P4.out) HO_P4.out ?_))))
  have HK4 := Lib.hid (HK3.out.put 32 ([.int .u8 0, .int .u8 0, .int .u8 0, .int .u8 0, .int .i64 0] : List Value).toArray P4 (by have := HL_P4.out; simp; omega))
  clear ht HK3
  generalize (w3.alloc (.cells ([.int .u8 0, .int .u8 0, .int .u8 0, .int .u8 0, .int .i64 0] : List Value).toArray 32)).setCells w3.heap.size 0 P4 = w4 at *
  generalize w3.heap.size = g1 at *
  have td := Htd.out
  have hwm := HWm.out
  have hr0 := HK4.out.tl.hd.range
  go_wp2_with (((with_reducible (change wpList _ _ _ _ _ _)); ((refine wpList_load_mid rfl 24 _ rfl (w.heap.size + 1) 0 rfl VX _ hr0 Tryd.underlying24 rfl HI_VX.out ?_))))
  clear hr0
  refine (CC6.out _).mono ?_
  rintro e w5 ⟨rfl, bb⟩
  have HK5 := Lib.hid (HK4.out.below bb (Nat.le_refl _))
  clear bb HK4
  clear td hwm
  have HGG : Hid (g1 < w5.heap.size) := Lib.hid (HK5.out.hd.lt)
  have HBg2 : Hid (w.heap.size ≤ w5.heap.size) := Lib.hid HK5.out.2.2
  have ht := (bk_new w5 36 ([.int .u8 0, .int .u8 0, .int .u8 0, .int .u8 0, .int .u8 0, .int .u8 0, .int .u8 0, .int .u8 0, .int .u8 0, .int .u8 0, .int .u8 0, .int .u8 0, .int .u8 0, .int .u8 0, .int .u8 0, .int .u8 0, .int .i64 0] : List Value).toArray).there P6.toArray.size (by have := HL_P6.out; simp; omega)
  go_upto_region 5 with (((with_reducible (change wpList _ _ _ _ _ _)); ((refine wpList_store_mid rfl 36 _ _ rfl w5.heap.size 0 P6.toArray rfl rfl ht (by simpa using HI_P6.out) HO_P6.out ?_))))
  have HK6 := Lib.hid (HK5.out.put 36 ([.int .u8 0, .int .u8 0, .int .u8 0, .int .u8 0, .int .u8 0, .int .u8 0, .int .u8 0, .int .u8 0, .int .u8 0, .int .u8 0, .int .u8 0, .int .u8 0, .int .u8 0, .int .u8 0, .int .u8 0, .int .u8 0, .int .i64 0] : List Value).toArray P6 (by have := HL_P6.out; simp; omega))
  clear ht HK5
  generalize (w5.alloc (.cells ([.int .u8 0, .int .u8 0, .int .u8 0, .int .u8 0, .int .u8 0, .int .u8 0, .int .u8 0, .int .u8 0, .int .u8 0, .int .u8 0, .int .u8 0, .int .u8 0, .int .u8 0, .int .u8 0, .int .u8 0, .int .u8 0, .int .i64 0] : List Value).toArray 36)).setCells w5.heap.size 0 P6 = w6 at *
  generalize w5.heap.size = g2 at *
  have HKs := Lib.hid (HK6.out.first2)
  clear HK6
  have HKR : Hid (∀ W : World, Kp w w.heap.size [(g2, 36, P6), (g1, 32, P4)] W → (fun w' => Kp w w.heap.size [(g2, 36, P6), (g1, 32, P4)] w' ∧ w'.rangeAt g1 0 R4 ∧ w'.cell? ⟨g1, 4, none⟩ = some (.int .i64 (n : Int))) W) := Lib.hid (fun W k => ⟨k, HR4.out g1 W k.tl.hd⟩)
  go_upto_region 5 with (fail)
  try simp only [Act.put]
  go_cut [11, 12] (fun p9 o9 w' => ∃ b9 : Nat, p9 = .pointer (some ⟨b9, 0, none⟩) ∧ o9 = .bool true ∧ Kp w w.heap.size ((b9, 32, P4) :: [(g2, 36, P6), (g1, 32, P4)]) w')
  case first =>
    generalize w6 = wK at *
    have za := ZA4.out
    have zb := ZB4.out
    refine wp_region_noPanic ?_
    refine wp_region_held_drew (S := fun w' => Kp w w.heap.size [(g2, 36, P6), (g1, 32, P4)] w' ∧ w'.rangeAt g1 0 R4 ∧ w'.cell? ⟨g1, 4, none⟩ = some (.int .i64 (n : Int))) (by kernel_rfl) (HKR.out _ HKs.out.drew) (fun hHeld => ?_)
    refine wpAnyH_take (i := 0) (oi := { dst := some 36, op := Op.fieldAddr 32 (Operand.tmp 9) 0, type := 0, pos := "more.go:17", after := #[], guard := none }) (v := ?_) rfl (by kernel_rfl) (by kernel_rfl) (by kernel_rfl) (fun _ _ _ h => h) (Or.inl ⟨by rfl, ?_⟩) (by assumption) ?_
    rotate_left
    · (intro ww hSw; (try dsimp only at hSw); go_simp; try with_reducible rfl)
    (try simp only [Act.put, List.setIfInBounds_toArray, List.set_cons_zero, List.set_cons_succ])
    refine wpAnyH_take (i := 1) (oi := { dst := some 37, op := Op.load 28 (Operand.tmp 36), type := 28, pos := "more.go:17", after := #[{ on := 0, ground := Ground.data }], guard := none }) (v := .agg (R4).toArray) rfl (by kernel_rfl) (by kernel_rfl) (by kernel_rfl) (fun _ _ _ h => h) (yieldsIf_load_mid (by rfl) _ _ rfl (g1) 0 rfl (R4) _ (fun ww hSw => hSw.2.1) Tryd.underlying28 rfl HI_R4.out) (by assumption) ?_
    (try simp only [Act.put, List.setIfInBounds_toArray, List.set_cons_zero, List.set_cons_succ])
    refine wpAnyH_take (i := 4) (oi := { dst := some 40, op := Op.fieldAddr 32 (Operand.tmp 9) 1, type := 0, pos := "more.go:17", after := #[], guard := none }) (v := ?_) rfl (by kernel_rfl) (by kernel_rfl) (by kernel_rfl) (fun _ _ _ h => h) (Or.inl ⟨by rfl, ?_⟩) (by assumption) ?_
    rotate_left
    · (intro ww hSw; (try dsimp only at hSw); go_simp; try with_reducible rfl)
    (try simp only [Act.put, List.setIfInBounds_toArray, List.set_cons_zero, List.set_cons_succ])
    refine wpAnyH_take (i := 5) (oi := { dst := some 41, op := Op.load 3 (Operand.tmp 40), type := 3, pos := "more.go:17", after := #[{ on := 4, ground := Ground.data }], guard := none }) (v := ?_) rfl (by kernel_rfl) (by kernel_rfl) (by kernel_rfl) (fun _ _ _ h => h) (Or.inl ⟨by rfl, ?_⟩) (by assumption) ?_
    rotate_left
    · (intro ww hSw; have cq := hSw.2.2; go_simp; try with_reducible rfl)
    (try simp only [Act.put, List.setIfInBounds_toArray, List.set_cons_zero, List.set_cons_succ])
    refine wpAnyH_ready (rs := [2, 12]) (by kernel_rfl) (by simp) ?_
    refine AllReadyH.cons (o := { dst := some 38, op := Op.call { callee := Callee.value (Operand.func 32), args := #[Operand.tmp 37], argTypes := #[28] }, type := 9, pos := "more.go:17", after := #[{ on := 1, ground := Ground.data }], guard := none }) rfl (fun K hK => ?_) (AllReadyH.cons (o := { dst := some 11, op := Op.alloc 32, type := 0, pos := "more.go:17", after := #[], guard := none }) rfl (fun K hK => ?_) AllReadyH.nil)
    · go_simp
      ((with_reducible refine (CT4.out _ (HW.out.below (kp_bel (And.left hHeld)))).mono ?_); rintro e wA ⟨rfl, hb9⟩)
      refine hK.out _ _ (HKR.out _ ((And.left hHeld).below hb9 (Nat.le_refl _))) (fun hHeld => ?_)
      clear hK K
      (try simp only [Act.put, List.setIfInBounds_toArray, List.set_cons_zero, List.set_cons_succ])
      refine wpAnyH_take (i := 3) (oi := { dst := some 39, op := Op.binOp BinOp.add 9 (Operand.tmp 38) (Operand.const (Value.string { data := #[47] })) 9, type := 9, pos := "more.go:17", after := #[{ on := 2, ground := Ground.data }], guard := none }) (v := ?_) rfl (by kernel_rfl) (by kernel_rfl) (by kernel_rfl) (fun _ _ _ h => h) (Or.inl ⟨by rfl, ?_⟩) (by assumption) ?_
      rotate_left
      · (intro ww hSw; (try dsimp only at hSw); go_simp; try with_reducible rfl)
      (try simp only [Act.put, List.setIfInBounds_toArray, List.set_cons_zero, List.set_cons_succ])
      refine wpAnyH_ready (rs := [6, 12]) (by kernel_rfl) (by simp) ?_
      refine AllReadyH.cons (o := { dst := some 42, op := Op.call { callee := Callee.value (Operand.func 38), args := #[Operand.tmp 41], argTypes := #[3] }, type := 9, pos := "more.go:17", after := #[{ on := 5, ground := Ground.data }, { on := 2, ground := Ground.chain }], guard := none }) rfl (fun K hK => ?_) (AllReadyH.cons (o := { dst := some 11, op := Op.alloc 32, type := 0, pos := "more.go:17", after := #[], guard := none }) rfl (fun K hK => ?_) AllReadyH.nil)
      · go_simp
        ((with_reducible refine (CI4.out _ (HW.out.below (kp_bel (And.left hHeld)))).mono ?_); rintro e wB ⟨rfl, hb9⟩)
        refine hK.out _ _ (HKR.out _ ((And.left hHeld).below hb9 (Nat.le_refl _))) (fun hHeld => ?_)
        clear hK K
        (try simp only [Act.put, List.setIfInBounds_toArray, List.set_cons_zero, List.set_cons_succ])
        refine wpAnyH_take (i := 7) (oi := { dst := some 43, op := Op.binOp BinOp.add 9 (Operand.tmp 39) (Operand.tmp 42) 9, type := 9, pos := "more.go:17", after := #[{ on := 3, ground := Ground.data }, { on := 6, ground := Ground.data }], guard := none }) (v := ?_) rfl (by kernel_rfl) (by kernel_rfl) (by kernel_rfl) (fun _ _ _ h => h) (Or.inl ⟨by rfl, ?_⟩) (by assumption) ?_
        rotate_left
        · (intro ww hSw; (try dsimp only at hSw); go_simp; try with_reducible rfl)
        (try simp only [Act.put, List.setIfInBounds_toArray, List.set_cons_zero, List.set_cons_succ])
        refine wpAnyH_ready (rs := [8, 12]) (by kernel_rfl) (by simp) ?_
        refine AllReadyH.cons (o := { dst := some 44, op := Op.call { callee := Callee.value (Operand.func 15), args := #[Operand.tmp 43], argTypes := #[9] }, type := 33, pos := "more.go:17", after := #[{ on := 7, ground := Ground.data }, { on := 6, ground := Ground.chain }], guard := none }) rfl (fun K hK => ?_) (AllReadyH.cons (o := { dst := some 11, op := Op.alloc 32, type := 0, pos := "more.go:17", after := #[], guard := none }) rfl (fun K hK => ?_) AllReadyH.nil)
        · go_simp
          ((with_reducible refine (CN4.out _ (HW.out.below (kp_bel (And.left hHeld)))).mono ?_); rintro e wC ⟨rfl, hb9⟩)
          refine hK.out _ _ (HKR.out _ ((And.left hHeld).below hb9 (Nat.le_refl _))) (fun hHeld => ?_)
          clear hK K
          (try simp only [Act.put, List.setIfInBounds_toArray, List.set_cons_zero, List.set_cons_succ])
          refine wpAnyH_take (i := 9) (oi := { dst := some 35, op := Op.move (Operand.tmp 44), type := 33, pos := "more.go:17", after := #[{ on := 8, ground := Ground.data }], guard := none }) (v := ?_) rfl (by kernel_rfl) (by kernel_rfl) (by kernel_rfl) (fun _ _ _ h => h) (Or.inl ⟨by rfl, ?_⟩) (by assumption) ?_
          rotate_left
          · (intro ww hSw; (try dsimp only at hSw); go_simp; try with_reducible rfl)
          (try simp only [Act.put, List.setIfInBounds_toArray, List.set_cons_zero, List.set_cons_succ])
          refine wpAnyH_take (i := 10) (oi := { dst := some 45, op := Op.extract (Operand.tmp 35) 0, type := 32, pos := "more.go:17", after := #[{ on := 9, ground := Ground.data }], guard := none }) (v := ?_) rfl (by kernel_rfl) (by kernel_rfl) (by kernel_rfl) (fun _ _ _ h => h) (Or.inl ⟨by rfl, ?_⟩) (by assumption) ?_
          rotate_left
          · (intro ww hSw; (try dsimp only at hSw); go_simp; try with_reducible rfl)
          (try simp only [Act.put, List.setIfInBounds_toArray, List.set_cons_zero, List.set_cons_succ])
          refine wpAnyH_take (i := 11) (oi := { dst := some 46, op := Op.extract (Operand.tmp 35) 1, type := 4, pos := "more.go:17", after := #[{ on := 9, ground := Ground.data }, { on := 13, ground := Ground.gcOnly Departure.lateStores }], guard := none }) (v := ?_) rfl (by kernel_rfl) (by kernel_rfl) (by kernel_rfl) (fun _ _ _ h => h) (Or.inl ⟨by rfl, ?_⟩) (by assumption) ?_
          rotate_left
          · (intro ww hSw; (try dsimp only at hSw); go_simp; try with_reducible rfl)
          (try simp only [Act.put, List.setIfInBounds_toArray, List.set_cons_zero, List.set_cons_succ])
          refine wpAnyH_ready (rs := [12]) (by kernel_rfl) (by simp) ?_
          refine AllReadyH.cons (o := { dst := some 11, op := Op.alloc 32, type := 0, pos := "more.go:17", after := #[], guard := none }) rfl (fun K hK => ?_) AllReadyH.nil
          have hnw := (And.left hHeld).2.2
          have hne := fun x hx => (And.left hHeld).ne x hx
          go_simp
          refine hK.out _ _ (HKR.out _ ((And.left hHeld).alloc _)) (fun hHeld => ?_)
          clear hK K
          (try simp only [Act.put, List.setIfInBounds_toArray, List.set_cons_zero, List.set_cons_succ])
          have hA := bk_new (wC) 32 ([.int .u8 0, .int .u8 0, .int .u8 0, .int .u8 0, .int .i64 0] : List Value).toArray
          refine wpAnyH_ready (rs := [13]) (by kernel_rfl) (by simp) ?_
          refine AllReadyH.cons (o := { dst := none, op := Op.store 32 (Operand.tmp 11) (Operand.tmp 45), type := 0, pos := "more.go:17", after := #[{ on := 12, ground := Ground.data }, { on := 10, ground := Ground.data }, { on := 8, ground := Ground.chain }, { on := 0, ground := Ground.phase }, { on := 1, ground := Ground.phase }, { on := 2, ground := Ground.phase }, { on := 3, ground := Ground.phase }, { on := 4, ground := Ground.phase }, { on := 5, ground := Ground.phase }, { on := 6, ground := Ground.phase }, { on := 7, ground := Ground.phase }, { on := 8, ground := Ground.phase }, { on := 9, ground := Ground.phase }, { on := 10, ground := Ground.phase }, { on := 11, ground := Ground.textOnly Departure.lateStores }, { on := 12, ground := Ground.phase }], guard := none }) rfl (fun K hK => ?_) AllReadyH.nil
          rw [if_pos (by rfl)]
          have hS := Bk.sets P4 0 _ _ hA
          rw [puts_whole ([.int .u8 0, .int .u8 0, .int .u8 0, .int .u8 0, .int .i64 0] : List Value).toArray P4 (by have := HL_P4.out; simp; omega)] at hS
          refine wp_store_mid 32 _ _ rfl (wC).heap.size 0 P4.toArray rfl rfl (hA.there _ (by have := HL_P4.out; simp; omega)) (by simpa using HI_P4.out) HO_P4.out ?_
          refine hK.out _ _ (HKR.out _ ((And.left hHeld).sets hne hnw 0 P4)) (fun hHeld => ?_)
          clear hK K
          (try simp only [Act.put])
          refine wpAnyH_take (i := 14) (oi := { dst := some 12, op := Op.assign (Operand.tmp 46), type := 4, pos := "more.go:17", after := #[{ on := 11, ground := Ground.data }, { on := 13, ground := Ground.chain }, { on := 0, ground := Ground.phase }, { on := 1, ground := Ground.phase }, { on := 2, ground := Ground.phase }, { on := 3, ground := Ground.phase }, { on := 4, ground := Ground.phase }, { on := 5, ground := Ground.phase }, { on := 6, ground := Ground.phase }, { on := 7, ground := Ground.phase }, { on := 8, ground := Ground.phase }, { on := 9, ground := Ground.phase }, { on := 10, ground := Ground.phase }, { on := 11, ground := Ground.phase }, { on := 12, ground := Ground.phase }, { on := 13, ground := Ground.phase }], guard := none }) (v := ?_) rfl (by kernel_rfl) (by kernel_rfl) (by kernel_rfl) (fun _ _ _ h => h) (Or.inl ⟨by rfl, ?_⟩) (by assumption) ?_
          rotate_left
          · (intro ww hSw; (try dsimp only at hSw); go_simp; try with_reducible rfl)
          (try simp only [Act.put, List.setIfInBounds_toArray, List.set_cons_zero, List.set_cons_succ])
          refine wpAnyH_done (by kernel_rfl) ?_ _
          refine NoPanic.normal ?_
          go_wp2_with fail
          go_meet
          case rel => exact ⟨_, rfl, rfl, kp_cons hS (And.left hHeld)⟩
        · have hnw := (And.left hHeld).2.2
          have hne := fun x hx => (And.left hHeld).ne x hx
          go_simp
          refine hK.out _ _ (HKR.out _ ((And.left hHeld).alloc _)) (fun hHeld => ?_)
          clear hK K
          (try simp only [Act.put, List.setIfInBounds_toArray, List.set_cons_zero, List.set_cons_succ])
          have hA := bk_new (wB) 32 ([.int .u8 0, .int .u8 0, .int .u8 0, .int .u8 0, .int .i64 0] : List Value).toArray
          refine wpAnyH_ready (rs := [8]) (by kernel_rfl) (by simp) ?_
          refine AllReadyH.cons (o := { dst := some 44, op := Op.call { callee := Callee.value (Operand.func 15), args := #[Operand.tmp 43], argTypes := #[9] }, type := 33, pos := "more.go:17", after := #[{ on := 7, ground := Ground.data }, { on := 6, ground := Ground.chain }], guard := none }) rfl (fun K hK => ?_) AllReadyH.nil
          go_simp
          ((with_reducible refine (CN4.out _ (HW.out.below (kp_bel (And.left hHeld)))).mono ?_); rintro e wC ⟨rfl, hb9⟩)
          refine hK.out _ _ (HKR.out _ ((And.left hHeld).below hb9 (Nat.le_refl _))) (fun hHeld => ?_)
          clear hK K
          (try simp only [Act.put, List.setIfInBounds_toArray, List.set_cons_zero, List.set_cons_succ])
          have hA := hA.below hb9 hA.lt
          refine wpAnyH_take (i := 9) (oi := { dst := some 35, op := Op.move (Operand.tmp 44), type := 33, pos := "more.go:17", after := #[{ on := 8, ground := Ground.data }], guard := none }) (v := ?_) rfl (by kernel_rfl) (by kernel_rfl) (by kernel_rfl) (fun _ _ _ h => h) (Or.inl ⟨by rfl, ?_⟩) (by assumption) ?_
          rotate_left
          · (intro ww hSw; (try dsimp only at hSw); go_simp; try with_reducible rfl)
          (try simp only [Act.put, List.setIfInBounds_toArray, List.set_cons_zero, List.set_cons_succ])
          refine wpAnyH_take (i := 10) (oi := { dst := some 45, op := Op.extract (Operand.tmp 35) 0, type := 32, pos := "more.go:17", after := #[{ on := 9, ground := Ground.data }], guard := none }) (v := ?_) rfl (by kernel_rfl) (by kernel_rfl) (by kernel_rfl) (fun _ _ _ h => h) (Or.inl ⟨by rfl, ?_⟩) (by assumption) ?_
          rotate_left
          · (intro ww hSw; (try dsimp only at hSw); go_simp; try with_reducible rfl)
          (try simp only [Act.put, List.setIfInBounds_toArray, List.set_cons_zero, List.set_cons_succ])
          refine wpAnyH_take (i := 11) (oi := { dst := some 46, op := Op.extract (Operand.tmp 35) 1, type := 4, pos := "more.go:17", after := #[{ on := 9, ground := Ground.data }, { on := 13, ground := Ground.gcOnly Departure.lateStores }], guard := none }) (v := ?_) rfl (by kernel_rfl) (by kernel_rfl) (by kernel_rfl) (fun _ _ _ h => h) (Or.inl ⟨by rfl, ?_⟩) (by assumption) ?_
          rotate_left
          · (intro ww hSw; (try dsimp only at hSw); go_simp; try with_reducible rfl)
          (try simp only [Act.put, List.setIfInBounds_toArray, List.set_cons_zero, List.set_cons_succ])
          refine wpAnyH_ready (rs := [13]) (by kernel_rfl) (by simp) ?_
          refine AllReadyH.cons (o := { dst := none, op := Op.store 32 (Operand.tmp 11) (Operand.tmp 45), type := 0, pos := "more.go:17", after := #[{ on := 12, ground := Ground.data }, { on := 10, ground := Ground.data }, { on := 8, ground := Ground.chain }, { on := 0, ground := Ground.phase }, { on := 1, ground := Ground.phase }, { on := 2, ground := Ground.phase }, { on := 3, ground := Ground.phase }, { on := 4, ground := Ground.phase }, { on := 5, ground := Ground.phase }, { on := 6, ground := Ground.phase }, { on := 7, ground := Ground.phase }, { on := 8, ground := Ground.phase }, { on := 9, ground := Ground.phase }, { on := 10, ground := Ground.phase }, { on := 11, ground := Ground.textOnly Departure.lateStores }, { on := 12, ground := Ground.phase }], guard := none }) rfl (fun K hK => ?_) AllReadyH.nil
          rw [if_pos (by rfl)]
          have hS := Bk.sets P4 0 _ _ hA
          rw [puts_whole ([.int .u8 0, .int .u8 0, .int .u8 0, .int .u8 0, .int .i64 0] : List Value).toArray P4 (by have := HL_P4.out; simp; omega)] at hS
          refine wp_store_mid 32 _ _ rfl (wB).heap.size 0 P4.toArray rfl rfl (hA.there _ (by have := HL_P4.out; simp; omega)) (by simpa using HI_P4.out) HO_P4.out ?_
          refine hK.out _ _ (HKR.out _ ((And.left hHeld).sets hne hnw 0 P4)) (fun hHeld => ?_)
          clear hK K
          (try simp only [Act.put])
          refine wpAnyH_take (i := 14) (oi := { dst := some 12, op := Op.assign (Operand.tmp 46), type := 4, pos := "more.go:17", after := #[{ on := 11, ground := Ground.data }, { on := 13, ground := Ground.chain }, { on := 0, ground := Ground.phase }, { on := 1, ground := Ground.phase }, { on := 2, ground := Ground.phase }, { on := 3, ground := Ground.phase }, { on := 4, ground := Ground.phase }, { on := 5, ground := Ground.phase }, { on := 6, ground := Ground.phase }, { on := 7, ground := Ground.phase }, { on := 8, ground := Ground.phase }, { on := 9, ground := Ground.phase }, { on := 10, ground := Ground.phase }, { on := 11, ground := Ground.phase }, { on := 12, ground := Ground.phase }, { on := 13, ground := Ground.phase }], guard := none }) (v := ?_) rfl (by kernel_rfl) (by kernel_rfl) (by kernel_rfl) (fun _ _ _ h => h) (Or.inl ⟨by rfl, ?_⟩) (by assumption) ?_
          rotate_left
          · (intro ww hSw; (try dsimp only at hSw); go_simp; try with_reducible rfl)
          (try simp only [Act.put, List.setIfInBounds_toArray, List.set_cons_zero, List.set_cons_succ])
          refine wpAnyH_done (by kernel_rfl) ?_ _
          refine NoPanic.normal ?_
          go_wp2_with fail
          go_meet
          case rel => exact ⟨_, rfl, rfl, kp_cons hS (And.left hHeld)⟩
      · have hnw := (And.left hHeld).2.2
        have hne := fun x hx => (And.left hHeld).ne x hx
        go_simp
        refine hK.out _ _ (HKR.out _ ((And.left hHeld).alloc _)) (fun hHeld => ?_)
        clear hK K
        (try simp only [Act.put, List.setIfInBounds_toArray, List.set_cons_zero, List.set_cons_succ])
        have hA := bk_new (wA) 32 ([.int .u8 0, .int .u8 0, .int .u8 0, .int .u8 0, .int .i64 0] : List Value).toArray
        refine wpAnyH_ready (rs := [6]) (by kernel_rfl) (by simp) ?_
        refine AllReadyH.cons (o := { dst := some 42, op := Op.call { callee := Callee.value (Operand.func 38), args := #[Operand.tmp 41], argTypes := #[3] }, type := 9, pos := "more.go:17", after := #[{ on := 5, ground := Ground.data }, { on := 2, ground := Ground.chain }], guard := none }) rfl (fun K hK => ?_) AllReadyH.nil
        go_simp
        ((with_reducible refine (CI4.out _ (HW.out.below (kp_bel (And.left hHeld)))).mono ?_); rintro e wB ⟨rfl, hb9⟩)
        refine hK.out _ _ (HKR.out _ ((And.left hHeld).below hb9 (Nat.le_refl _))) (fun hHeld => ?_)
        clear hK K
        (try simp only [Act.put, List.setIfInBounds_toArray, List.set_cons_zero, List.set_cons_succ])
        have hA := hA.below hb9 hA.lt
        refine wpAnyH_take (i := 7) (oi := { dst := some 43, op := Op.binOp BinOp.add 9 (Operand.tmp 39) (Operand.tmp 42) 9, type := 9, pos := "more.go:17", after := #[{ on := 3, ground := Ground.data }, { on := 6, ground := Ground.data }], guard := none }) (v := ?_) rfl (by kernel_rfl) (by kernel_rfl) (by kernel_rfl) (fun _ _ _ h => h) (Or.inl ⟨by rfl, ?_⟩) (by assumption) ?_
        rotate_left
        · (intro ww hSw; (try dsimp only at hSw); go_simp; try with_reducible rfl)
        (try simp only [Act.put, List.setIfInBounds_toArray, List.set_cons_zero, List.set_cons_succ])
        refine wpAnyH_ready (rs := [8]) (by kernel_rfl) (by simp) ?_
        refine AllReadyH.cons (o := { dst := some 44, op := Op.call { callee := Callee.value (Operand.func 15), args := #[Operand.tmp 43], argTypes := #[9] }, type := 33, pos := "more.go:17", after := #[{ on := 7, ground := Ground.data }, { on := 6, ground := Ground.chain }], guard := none }) rfl (fun K hK => ?_) AllReadyH.nil
        go_simp
        ((with_reducible refine (CN4.out _ (HW.out.below (kp_bel (And.left hHeld)))).mono ?_); rintro e wC ⟨rfl, hb9⟩)
        refine hK.out _ _ (HKR.out _ ((And.left hHeld).below hb9 (Nat.le_refl _))) (fun hHeld => ?_)
        clear hK K
        (try simp only [Act.put, List.setIfInBounds_toArray, List.set_cons_zero, List.set_cons_succ])
        have hA := hA.below hb9 hA.lt
        refine wpAnyH_take (i := 9) (oi := { dst := some 35, op := Op.move (Operand.tmp 44), type := 33, pos := "more.go:17", after := #[{ on := 8, ground := Ground.data }], guard := none }) (v := ?_) rfl (by kernel_rfl) (by kernel_rfl) (by kernel_rfl) (fun _ _ _ h => h) (Or.inl ⟨by rfl, ?_⟩) (by assumption) ?_
        rotate_left
        · (intro ww hSw; (try dsimp only at hSw); go_simp; try with_reducible rfl)
        (try simp only [Act.put, List.setIfInBounds_toArray, List.set_cons_zero, List.set_cons_succ])
        refine wpAnyH_take (i := 10) (oi := { dst := some 45, op := Op.extract (Operand.tmp 35) 0, type := 32, pos := "more.go:17", after := #[{ on := 9, ground := Ground.data }], guard := none }) (v := ?_) rfl (by kernel_rfl) (by kernel_rfl) (by kernel_rfl) (fun _ _ _ h => h) (Or.inl ⟨by rfl, ?_⟩) (by assumption) ?_
        rotate_left
        · (intro ww hSw; (try dsimp only at hSw); go_simp; try with_reducible rfl)
        (try simp only [Act.put, List.setIfInBounds_toArray, List.set_cons_zero, List.set_cons_succ])
        refine wpAnyH_take (i := 11) (oi := { dst := some 46, op := Op.extract (Operand.tmp 35) 1, type := 4, pos := "more.go:17", after := #[{ on := 9, ground := Ground.data }, { on := 13, ground := Ground.gcOnly Departure.lateStores }], guard := none }) (v := ?_) rfl (by kernel_rfl) (by kernel_rfl) (by kernel_rfl) (fun _ _ _ h => h) (Or.inl ⟨by rfl, ?_⟩) (by assumption) ?_
        rotate_left
        · (intro ww hSw; (try dsimp only at hSw); go_simp; try with_reducible rfl)
        (try simp only [Act.put, List.setIfInBounds_toArray, List.set_cons_zero, List.set_cons_succ])
        refine wpAnyH_ready (rs := [13]) (by kernel_rfl) (by simp) ?_
        refine AllReadyH.cons (o := { dst := none, op := Op.store 32 (Operand.tmp 11) (Operand.tmp 45), type := 0, pos := "more.go:17", after := #[{ on := 12, ground := Ground.data }, { on := 10, ground := Ground.data }, { on := 8, ground := Ground.chain }, { on := 0, ground := Ground.phase }, { on := 1, ground := Ground.phase }, { on := 2, ground := Ground.phase }, { on := 3, ground := Ground.phase }, { on := 4, ground := Ground.phase }, { on := 5, ground := Ground.phase }, { on := 6, ground := Ground.phase }, { on := 7, ground := Ground.phase }, { on := 8, ground := Ground.phase }, { on := 9, ground := Ground.phase }, { on := 10, ground := Ground.phase }, { on := 11, ground := Ground.textOnly Departure.lateStores }, { on := 12, ground := Ground.phase }], guard := none }) rfl (fun K hK => ?_) AllReadyH.nil
        rw [if_pos (by rfl)]
        have hS := Bk.sets P4 0 _ _ hA
        rw [puts_whole ([.int .u8 0, .int .u8 0, .int .u8 0, .int .u8 0, .int .i64 0] : List Value).toArray P4 (by have := HL_P4.out; simp; omega)] at hS
        refine wp_store_mid 32 _ _ rfl (wA).heap.size 0 P4.toArray rfl rfl (hA.there _ (by have := HL_P4.out; simp; omega)) (by simpa using HI_P4.out) HO_P4.out ?_
        refine hK.out _ _ (HKR.out _ ((And.left hHeld).sets hne hnw 0 P4)) (fun hHeld => ?_)
        clear hK K
        (try simp only [Act.put])
        refine wpAnyH_take (i := 14) (oi := { dst := some 12, op := Op.assign (Operand.tmp 46), type := 4, pos := "more.go:17", after := #[{ on := 11, ground := Ground.data }, { on := 13, ground := Ground.chain }, { on := 0, ground := Ground.phase }, { on := 1, ground := Ground.phase }, { on := 2, ground := Ground.phase }, { on := 3, ground := Ground.phase }, { on := 4, ground := Ground.phase }, { on := 5, ground := Ground.phase }, { on := 6, ground := Ground.phase }, { on := 7, ground := Ground.phase }, { on := 8, ground := Ground.phase }, { on := 9, ground := Ground.phase }, { on := 10, ground := Ground.phase }, { on := 11, ground := Ground.phase }, { on := 12, ground := Ground.phase }, { on := 13, ground := Ground.phase }], guard := none }) (v := ?_) rfl (by kernel_rfl) (by kernel_rfl) (by kernel_rfl) (fun _ _ _ h => h) (Or.inl ⟨by rfl, ?_⟩) (by assumption) ?_
        rotate_left
        · (intro ww hSw; (try dsimp only at hSw); go_simp; try with_reducible rfl)
        (try simp only [Act.put, List.setIfInBounds_toArray, List.set_cons_zero, List.set_cons_succ])
        refine wpAnyH_done (by kernel_rfl) ?_ _
        refine NoPanic.normal ?_
        go_wp2_with fail
        go_meet
        case rel => exact ⟨_, rfl, rfl, kp_cons hS (And.left hHeld)⟩
    · have hnw := (And.left hHeld).2.2
      have hne := fun x hx => (And.left hHeld).ne x hx
      go_simp
      refine hK.out _ _ (HKR.out _ ((And.left hHeld).alloc _)) (fun hHeld => ?_)
      clear hK K
      (try simp only [Act.put, List.setIfInBounds_toArray, List.set_cons_zero, List.set_cons_succ])
      have hA := bk_new (wK.drew) 32 ([.int .u8 0, .int .u8 0, .int .u8 0, .int .u8 0, .int .i64 0] : List Value).toArray
      refine wpAnyH_ready (rs := [2]) (by kernel_rfl) (by simp) ?_
      refine AllReadyH.cons (o := { dst := some 38, op := Op.call { callee := Callee.value (Operand.func 32), args := #[Operand.tmp 37], argTypes := #[28] }, type := 9, pos := "more.go:17", after := #[{ on := 1, ground := Ground.data }], guard := none }) rfl (fun K hK => ?_) AllReadyH.nil
      go_simp
      ((with_reducible refine (CT4.out _ (HW.out.below (kp_bel (And.left hHeld)))).mono ?_); rintro e wA ⟨rfl, hb9⟩)
      refine hK.out _ _ (HKR.out _ ((And.left hHeld).below hb9 (Nat.le_refl _))) (fun hHeld => ?_)
      clear hK K
      (try simp only [Act.put, List.setIfInBounds_toArray, List.set_cons_zero, List.set_cons_succ])
      have hA := hA.below hb9 hA.lt
      refine wpAnyH_take (i := 3) (oi := { dst := some 39, op := Op.binOp BinOp.add 9 (Operand.tmp 38) (Operand.const (Value.string { data := #[47] })) 9, type := 9, pos := "more.go:17", after := #[{ on := 2, ground := Ground.data }], guard := none }) (v := ?_) rfl (by kernel_rfl) (by kernel_rfl) (by kernel_rfl) (fun _ _ _ h => h) (Or.inl ⟨by rfl, ?_⟩) (by assumption) ?_
      rotate_left
      · (intro ww hSw; (try dsimp only at hSw); go_simp; try with_reducible rfl)
      (try simp only [Act.put, List.setIfInBounds_toArray, List.set_cons_zero, List.set_cons_succ])
      refine wpAnyH_ready (rs := [6]) (by kernel_rfl) (by simp) ?_
      refine AllReadyH.cons (o := { dst := some 42, op := Op.call { callee := Callee.value (Operand.func 38), args := #[Operand.tmp 41], argTypes := #[3] }, type := 9, pos := "more.go:17", after := #[{ on := 5, ground := Ground.data }, { on := 2, ground := Ground.chain }], guard := none }) rfl (fun K hK => ?_) AllReadyH.nil
      go_simp
      ((with_reducible refine (CI4.out _ (HW.out.below (kp_bel (And.left hHeld)))).mono ?_); rintro e wB ⟨rfl, hb9⟩)
      refine hK.out _ _ (HKR.out _ ((And.left hHeld).below hb9 (Nat.le_refl _))) (fun hHeld => ?_)
      clear hK K
      (try simp only [Act.put, List.setIfInBounds_toArray, List.set_cons_zero, List.set_cons_succ])
      have hA := hA.below hb9 hA.lt
      refine wpAnyH_take (i := 7) (oi := { dst := some 43, op := Op.binOp BinOp.add 9 (Operand.tmp 39) (Operand.tmp 42) 9, type := 9, pos := "more.go:17", after := #[{ on := 3, ground := Ground.data }, { on := 6, ground := Ground.data }], guard := none }) (v := ?_) rfl (by kernel_rfl) (by kernel_rfl) (by kernel_rfl) (fun _ _ _ h => h) (Or.inl ⟨by rfl, ?_⟩) (by assumption) ?_
      rotate_left
      · (intro ww hSw; (try dsimp only at hSw); go_simp; try with_reducible rfl)
      (try simp only [Act.put, List.setIfInBounds_toArray, List.set_cons_zero, List.set_cons_succ])
      refine wpAnyH_ready (rs := [8]) (by kernel_rfl) (by simp) ?_
      refine AllReadyH.cons (o := { dst := some 44, op := Op.call { callee := Callee.value (Operand.func 15), args := #[Operand.tmp 43], argTypes := #[9] }, type := 33, pos := "more.go:17", after := #[{ on := 7, ground := Ground.data }, { on := 6, ground := Ground.chain }], guard := none }) rfl (fun K hK => ?_) AllReadyH.nil
      go_simp
      ((with_reducible refine (CN4.out _ (HW.out.below (kp_bel (And.left hHeld)))).mono ?_); rintro e wC ⟨rfl, hb9⟩)
      refine hK.out _ _ (HKR.out _ ((And.left hHeld).below hb9 (Nat.le_refl _))) (fun hHeld => ?_)
      clear hK K
      (try simp only [Act.put, List.setIfInBounds_toArray, List.set_cons_zero, List.set_cons_succ])
      have hA := hA.below hb9 hA.lt
      refine wpAnyH_take (i := 9) (oi := { dst := some 35, op := Op.move (Operand.tmp 44), type := 33, pos := "more.go:17", after := #[{ on := 8, ground := Ground.data }], guard := none }) (v := ?_) rfl (by kernel_rfl) (by kernel_rfl) (by kernel_rfl) (fun _ _ _ h => h) (Or.inl ⟨by rfl, ?_⟩) (by assumption) ?_
      rotate_left
      · (intro ww hSw; (try dsimp only at hSw); go_simp; try with_reducible rfl)
      (try simp only [Act.put, List.setIfInBounds_toArray, List.set_cons_zero, List.set_cons_succ])
      refine wpAnyH_take (i := 10) (oi := { dst := some 45, op := Op.extract (Operand.tmp 35) 0, type := 32, pos := "more.go:17", after := #[{ on := 9, ground := Ground.data }], guard := none }) (v := ?_) rfl (by kernel_rfl) (by kernel_rfl) (by kernel_rfl) (fun _ _ _ h => h) (Or.inl ⟨by rfl, ?_⟩) (by assumption) ?_
      rotate_left
      · (intro ww hSw; (try dsimp only at hSw); go_simp; try with_reducible rfl)
      (try simp only [Act.put, List.setIfInBounds_toArray, List.set_cons_zero, List.set_cons_succ])
      refine wpAnyH_take (i := 11) (oi := { dst := some 46, op := Op.extract (Operand.tmp 35) 1, type := 4, pos := "more.go:17", after := #[{ on := 9, ground := Ground.data }, { on := 13, ground := Ground.gcOnly Departure.lateStores }], guard := none }) (v := ?_) rfl (by kernel_rfl) (by kernel_rfl) (by kernel_rfl) (fun _ _ _ h => h) (Or.inl ⟨by rfl, ?_⟩) (by assumption) ?_
      rotate_left
      · (intro ww hSw; (try dsimp only at hSw); go_simp; try with_reducible rfl)
      (try simp only [Act.put, List.setIfInBounds_toArray, List.set_cons_zero, List.set_cons_succ])
      refine wpAnyH_ready (rs := [13]) (by kernel_rfl) (by simp) ?_
      refine AllReadyH.cons (o := { dst := none, op := Op.store 32 (Operand.tmp 11) (Operand.tmp 45), type := 0, pos := "more.go:17", after := #[{ on := 12, ground := Ground.data }, { on := 10, ground := Ground.data }, { on := 8, ground := Ground.chain }, { on := 0, ground := Ground.phase }, { on := 1, ground := Ground.phase }, { on := 2, ground := Ground.phase }, { on := 3, ground := Ground.phase }, { on := 4, ground := Ground.phase }, { on := 5, ground := Ground.phase }, { on := 6, ground := Ground.phase }, { on := 7, ground := Ground.phase }, { on := 8, ground := Ground.phase }, { on := 9, ground := Ground.phase }, { on := 10, ground := Ground.phase }, { on := 11, ground := Ground.textOnly Departure.lateStores }, { on := 12, ground := Ground.phase }], guard := none }) rfl (fun K hK => ?_) AllReadyH.nil
      rw [if_pos (by rfl)]
      have hS := Bk.sets P4 0 _ _ hA
      rw [puts_whole ([.int .u8 0, .int .u8 0, .int .u8 0, .int .u8 0, .int .i64 0] : List Value).toArray P4 (by have := HL_P4.out; simp; omega)] at hS
      refine wp_store_mid 32 _ _ rfl (wK.drew).heap.size 0 P4.toArray rfl rfl (hA.there _ (by have := HL_P4.out; simp; omega)) (by simpa using HI_P4.out) HO_P4.out ?_
      refine hK.out _ _ (HKR.out _ ((And.left hHeld).sets hne hnw 0 P4)) (fun hHeld => ?_)
      clear hK K
      (try simp only [Act.put])
      refine wpAnyH_take (i := 14) (oi := { dst := some 12, op := Op.assign (Operand.tmp 46), type := 4, pos := "more.go:17", after := #[{ on := 11, ground := Ground.data }, { on := 13, ground := Ground.chain }, { on := 0, ground := Ground.phase }, { on := 1, ground := Ground.phase }, { on := 2, ground := Ground.phase }, { on := 3, ground := Ground.phase }, { on := 4, ground := Ground.phase }, { on := 5, ground := Ground.phase }, { on := 6, ground := Ground.phase }, { on := 7, ground := Ground.phase }, { on := 8, ground := Ground.phase }, { on := 9, ground := Ground.phase }, { on := 10, ground := Ground.phase }, { on := 11, ground := Ground.phase }, { on := 12, ground := Ground.phase }, { on := 13, ground := Ground.phase }], guard := none }) (v := ?_) rfl (by kernel_rfl) (by kernel_rfl) (by kernel_rfl) (fun _ _ _ h => h) (Or.inl ⟨by rfl, ?_⟩) (by assumption) ?_
      rotate_left
      · (intro ww hSw; (try dsimp only at hSw); go_simp; try with_reducible rfl)
      (try simp only [Act.put, List.setIfInBounds_toArray, List.set_cons_zero, List.set_cons_succ])
      refine wpAnyH_done (by kernel_rfl) ?_ _
      refine NoPanic.normal ?_
      go_wp2_with fail
      go_meet
      case rel => exact ⟨_, rfl, rfl, kp_cons hS (And.left hHeld)⟩
  case rest =>
    obtain ⟨b3, rfl, rfl, hK9⟩ := hcut
    have HKt := Lib.hid hK9
    clear hK9 HKs HKR
    have HKs := HKt
    clear HKt
    have HKR : Hid (∀ W : World, Kp w w.heap.size [(b3, 32, P4), (g2, 36, P6), (g1, 32, P4)] W → (fun w' => Kp w w.heap.size [(b3, 32, P4), (g2, 36, P6), (g1, 32, P4)] w' ∧ w'.rangeAt g2 0 R6 ∧ w'.cell? ⟨g2, 16, none⟩ = some (.int .i64 (m : Int))) W) := Lib.hid (fun W k => ⟨k, HR6.out g2 W k.tl.hd⟩)
    go_upto_region 6 with (fail)
    try simp only [Act.put]
    go_cut [13, 14] (fun p9 o9 w' => ∃ b9 : Nat, p9 = .pointer (some ⟨b9, 0, none⟩) ∧ o9 = .bool true ∧ Kp w w.heap.size ((b9, 36, P6) :: [(b3, 32, P4), (g2, 36, P6), (g1, 32, P4)]) w')
    case first =>
      generalize wc = wK at *
      have za := ZA6.out
      have zb := ZB6.out
      refine wp_region_noPanic ?_
      refine wp_region_held_drew (S := fun w' => Kp w w.heap.size [(b3, 32, P4), (g2, 36, P6), (g1, 32, P4)] w' ∧ w'.rangeAt g2 0 R6 ∧ w'.cell? ⟨g2, 16, none⟩ = some (.int .i64 (m : Int))) (by kernel_rfl) (HKR.out _ HKs.out.drew) (fun hHeld => ?_)
      refine wpAnyH_take (i := 0) (oi := { dst := some 48, op := Op.fieldAddr 36 (Operand.tmp 10) 0, type := 0, pos := "more.go:18", after := #[], guard := none }) (v := ?_) rfl (by kernel_rfl) (by kernel_rfl) (by kernel_rfl) (fun _ _ _ h => h) (Or.inl ⟨by rfl, ?_⟩) (by assumption) ?_
      rotate_left
      · (intro ww hSw; (try dsimp only at hSw); go_simp; try with_reducible rfl)
      (try simp only [Act.put, List.setIfInBounds_toArray, List.set_cons_zero, List.set_cons_succ])
      refine wpAnyH_take (i := 1) (oi := { dst := some 49, op := Op.load 24 (Operand.tmp 48), type := 24, pos := "more.go:18", after := #[{ on := 0, ground := Ground.data }], guard := none }) (v := .agg (R6).toArray) rfl (by kernel_rfl) (by kernel_rfl) (by kernel_rfl) (fun _ _ _ h => h) (yieldsIf_load_mid (by rfl) _ _ rfl (g2) 0 rfl (R6) _ (fun ww hSw => hSw.2.1) Tryd.underlying24 rfl HI_R6.out) (by assumption) ?_
      (try simp only [Act.put, List.setIfInBounds_toArray, List.set_cons_zero, List.set_cons_succ])
      refine wpAnyH_take (i := 4) (oi := { dst := some 52, op := Op.fieldAddr 36 (Operand.tmp 10) 1, type := 0, pos := "more.go:18", after := #[], guard := none }) (v := ?_) rfl (by kernel_rfl) (by kernel_rfl) (by kernel_rfl) (fun _ _ _ h => h) (Or.inl ⟨by rfl, ?_⟩) (by assumption) ?_
      rotate_left
      · (intro ww hSw; (try dsimp only at hSw); go_simp; try with_reducible rfl)
      (try simp only [Act.put, List.setIfInBounds_toArray, List.set_cons_zero, List.set_cons_succ])
      refine wpAnyH_take (i := 5) (oi := { dst := some 53, op := Op.load 3 (Operand.tmp 52), type := 3, pos := "more.go:18", after := #[{ on := 4, ground := Ground.data }], guard := none }) (v := ?_) rfl (by kernel_rfl) (by kernel_rfl) (by kernel_rfl) (fun _ _ _ h => h) (Or.inl ⟨by rfl, ?_⟩) (by assumption) ?_
      rotate_left
      · (intro ww hSw; have cq := hSw.2.2; go_simp; try with_reducible rfl)
      (try simp only [Act.put, List.setIfInBounds_toArray, List.set_cons_zero, List.set_cons_succ])
      refine wpAnyH_ready (rs := [2, 12]) (by kernel_rfl) (by simp) ?_
      refine AllReadyH.cons (o := { dst := some 50, op := Op.call { callee := Callee.value (Operand.func 12), args := #[Operand.tmp 49], argTypes := #[24] }, type := 9, pos := "more.go:18", after := #[{ on := 1, ground := Ground.data }], guard := none }) rfl (fun K hK => ?_) (AllReadyH.cons (o := { dst := some 13, op := Op.alloc 36, type := 0, pos := "more.go:18", after := #[], guard := none }) rfl (fun K hK => ?_) AllReadyH.nil)
      · go_simp
        ((with_reducible refine (CT6.out _ (HW.out.below (kp_bel (And.left hHeld)))).mono ?_); rintro e wA ⟨rfl, hb9⟩)
        refine hK.out _ _ (HKR.out _ ((And.left hHeld).below hb9 (Nat.le_refl _))) (fun hHeld => ?_)
        clear hK K
        (try simp only [Act.put, List.setIfInBounds_toArray, List.set_cons_zero, List.set_cons_succ])
        refine wpAnyH_take (i := 3) (oi := { dst := some 51, op := Op.binOp BinOp.add 9 (Operand.tmp 50) (Operand.const (Value.string { data := #[47] })) 9, type := 9, pos := "more.go:18", after := #[{ on := 2, ground := Ground.data }], guard := none }) (v := ?_) rfl (by kernel_rfl) (by kernel_rfl) (by kernel_rfl) (fun _ _ _ h => h) (Or.inl ⟨by rfl, ?_⟩) (by assumption) ?_
        rotate_left
        · (intro ww hSw; (try dsimp only at hSw); go_simp; try with_reducible rfl)
        (try simp only [Act.put, List.setIfInBounds_toArray, List.set_cons_zero, List.set_cons_succ])
        refine wpAnyH_ready (rs := [6, 12]) (by kernel_rfl) (by simp) ?_
        refine AllReadyH.cons (o := { dst := some 54, op := Op.call { callee := Callee.value (Operand.func 38), args := #[Operand.tmp 53], argTypes := #[3] }, type := 9, pos := "more.go:18", after := #[{ on := 5, ground := Ground.data }, { on := 2, ground := Ground.chain }], guard := none }) rfl (fun K hK => ?_) (AllReadyH.cons (o := { dst := some 13, op := Op.alloc 36, type := 0, pos := "more.go:18", after := #[], guard := none }) rfl (fun K hK => ?_) AllReadyH.nil)
        · go_simp
          ((with_reducible refine (CI6.out _ (HW.out.below (kp_bel (And.left hHeld)))).mono ?_); rintro e wB ⟨rfl, hb9⟩)
          refine hK.out _ _ (HKR.out _ ((And.left hHeld).below hb9 (Nat.le_refl _))) (fun hHeld => ?_)
          clear hK K
          (try simp only [Act.put, List.setIfInBounds_toArray, List.set_cons_zero, List.set_cons_succ])
          refine wpAnyH_take (i := 7) (oi := { dst := some 55, op := Op.binOp BinOp.add 9 (Operand.tmp 51) (Operand.tmp 54) 9, type := 9, pos := "more.go:18", after := #[{ on := 3, ground := Ground.data }, { on := 6, ground := Ground.data }], guard := none }) (v := ?_) rfl (by kernel_rfl) (by kernel_rfl) (by kernel_rfl) (fun _ _ _ h => h) (Or.inl ⟨by rfl, ?_⟩) (by assumption) ?_
          rotate_left
          · (intro ww hSw; (try dsimp only at hSw); go_simp; try with_reducible rfl)
          (try simp only [Act.put, List.setIfInBounds_toArray, List.set_cons_zero, List.set_cons_succ])
          refine wpAnyH_ready (rs := [8, 12]) (by kernel_rfl) (by simp) ?_
          refine AllReadyH.cons (o := { dst := some 56, op := Op.call { callee := Callee.value (Operand.func 16), args := #[Operand.tmp 55], argTypes := #[9] }, type := 37, pos := "more.go:18", after := #[{ on := 7, ground := Ground.data }, { on := 6, ground := Ground.chain }], guard := none }) rfl (fun K hK => ?_) (AllReadyH.cons (o := { dst := some 13, op := Op.alloc 36, type := 0, pos := "more.go:18", after := #[], guard := none }) rfl (fun K hK => ?_) AllReadyH.nil)
          · go_simp
            ((with_reducible refine (CN6.out _ (HW.out.below (kp_bel (And.left hHeld)))).mono ?_); rintro e wC ⟨rfl, hb9⟩)
            refine hK.out _ _ (HKR.out _ ((And.left hHeld).below hb9 (Nat.le_refl _))) (fun hHeld => ?_)
            clear hK K
            (try simp only [Act.put, List.setIfInBounds_toArray, List.set_cons_zero, List.set_cons_succ])
            refine wpAnyH_take (i := 9) (oi := { dst := some 47, op := Op.move (Operand.tmp 56), type := 37, pos := "more.go:18", after := #[{ on := 8, ground := Ground.data }], guard := none }) (v := ?_) rfl (by kernel_rfl) (by kernel_rfl) (by kernel_rfl) (fun _ _ _ h => h) (Or.inl ⟨by rfl, ?_⟩) (by assumption) ?_
            rotate_left
            · (intro ww hSw; (try dsimp only at hSw); go_simp; try with_reducible rfl)
            (try simp only [Act.put, List.setIfInBounds_toArray, List.set_cons_zero, List.set_cons_succ])
            refine wpAnyH_take (i := 10) (oi := { dst := some 57, op := Op.extract (Operand.tmp 47) 0, type := 36, pos := "more.go:18", after := #[{ on := 9, ground := Ground.data }], guard := none }) (v := ?_) rfl (by kernel_rfl) (by kernel_rfl) (by kernel_rfl) (fun _ _ _ h => h) (Or.inl ⟨by rfl, ?_⟩) (by assumption) ?_
            rotate_left
            · (intro ww hSw; (try dsimp only at hSw); go_simp; try with_reducible rfl)
            (try simp only [Act.put, List.setIfInBounds_toArray, List.set_cons_zero, List.set_cons_succ])
            refine wpAnyH_take (i := 11) (oi := { dst := some 58, op := Op.extract (Operand.tmp 47) 1, type := 4, pos := "more.go:18", after := #[{ on := 9, ground := Ground.data }, { on := 13, ground := Ground.gcOnly Departure.lateStores }], guard := none }) (v := ?_) rfl (by kernel_rfl) (by kernel_rfl) (by kernel_rfl) (fun _ _ _ h => h) (Or.inl ⟨by rfl, ?_⟩) (by assumption) ?_
            rotate_left
            · (intro ww hSw; (try dsimp only at hSw); go_simp; try with_reducible rfl)
            (try simp only [Act.put, List.setIfInBounds_toArray, List.set_cons_zero, List.set_cons_succ])
            refine wpAnyH_ready (rs := [12]) (by kernel_rfl) (by simp) ?_
            refine AllReadyH.cons (o := { dst := some 13, op := Op.alloc 36, type := 0, pos := "more.go:18", after := #[], guard := none }) rfl (fun K hK => ?_) AllReadyH.nil
            have hnw := (And.left hHeld).2.2
            have hne := fun x hx => (And.left hHeld).ne x hx
            go_simp
            refine hK.out _ _ (HKR.out _ ((And.left hHeld).alloc _)) (fun hHeld => ?_)
            clear hK K
            (try simp only [Act.put, List.setIfInBounds_toArray, List.set_cons_zero, List.set_cons_succ])
            have hA := bk_new (wC) 36 ([.int .u8 0, .int .u8 0, .int .u8 0, .int .u8 0, .int .u8 0, .int .u8 0, .int .u8 0, .int .u8 0, .int .u8 0, .int .u8 0, .int .u8 0, .int .u8 0, .int .u8 0, .int .u8 0, .int .u8 0, .int .u8 0, .int .i64 0] : List Value).toArray
            refine wpAnyH_ready (rs := [13]) (by kernel_rfl) (by simp) ?_
            refine AllReadyH.cons (o := { dst := none, op := Op.store 36 (Operand.tmp 13) (Operand.tmp 57), type := 0, pos := "more.go:18", after := #[{ on := 12, ground := Ground.data }, { on := 10, ground := Ground.data }, { on := 8, ground := Ground.chain }, { on := 0, ground := Ground.phase }, { on := 1, ground := Ground.phase }, { on := 2, ground := Ground.phase }, { on := 3, ground := Ground.phase }, { on := 4, ground := Ground.phase }, { on := 5, ground := Ground.phase }, { on := 6, ground := Ground.phase }, { on := 7, ground := Ground.phase }, { on := 8, ground := Ground.phase }, { on := 9, ground := Ground.phase }, { on := 10, ground := Ground.phase }, { on := 11, ground := Ground.textOnly Departure.lateStores }, { on := 12, ground := Ground.phase }], guard := none }) rfl (fun K hK => ?_) AllReadyH.nil
            rw [if_pos (by rfl)]
            have hS := Bk.sets P6 0 _ _ hA
            rw [puts_whole ([.int .u8 0, .int .u8 0, .int .u8 0, .int .u8 0, .int .u8 0, .int .u8 0, .int .u8 0, .int .u8 0, .int .u8 0, .int .u8 0, .int .u8 0, .int .u8 0, .int .u8 0, .int .u8 0, .int .u8 0, .int .u8 0, .int .i64 0] : List Value).toArray P6 (by have := HL_P6.out; simp; omega)] at hS
            refine wp_store_mid 36 _ _ rfl (wC).heap.size 0 P6.toArray rfl rfl (hA.there _ (by have := HL_P6.out; simp; omega)) (by simpa using HI_P6.out) HO_P6.out ?_
            refine hK.out _ _ (HKR.out _ ((And.left hHeld).sets hne hnw 0 P6)) (fun hHeld => ?_)
            clear hK K
            (try simp only [Act.put])
            refine wpAnyH_take (i := 14) (oi := { dst := some 14, op := Op.assign (Operand.tmp 58), type := 4, pos := "more.go:18", after := #[{ on := 11, ground := Ground.data }, { on := 13, ground := Ground.chain }, { on := 0, ground := Ground.phase }, { on := 1, ground := Ground.phase }, { on := 2, ground := Ground.phase }, { on := 3, ground := Ground.phase }, { on := 4, ground := Ground.phase }, { on := 5, ground := Ground.phase }, { on := 6, ground := Ground.phase }, { on := 7, ground := Ground.phase }, { on := 8, ground := Ground.phase }, { on := 9, ground := Ground.phase }, { on := 10, ground := Ground.phase }, { on := 11, ground := Ground.phase }, { on := 12, ground := Ground.phase }, { on := 13, ground := Ground.phase }], guard := none }) (v := ?_) rfl (by kernel_rfl) (by kernel_rfl) (by kernel_rfl) (fun _ _ _ h => h) (Or.inl ⟨by rfl, ?_⟩) (by assumption) ?_
            rotate_left
            · (intro ww hSw; (try dsimp only at hSw); go_simp; try with_reducible rfl)
            (try simp only [Act.put, List.setIfInBounds_toArray, List.set_cons_zero, List.set_cons_succ])
            refine wpAnyH_done (by kernel_rfl) ?_ _
            refine NoPanic.normal ?_
            go_wp2_with fail
            go_meet
            case rel => exact ⟨_, rfl, rfl, kp_cons hS (And.left hHeld)⟩
          · have hnw := (And.left hHeld).2.2
            have hne := fun x hx => (And.left hHeld).ne x hx
            go_simp
            refine hK.out _ _ (HKR.out _ ((And.left hHeld).alloc _)) (fun hHeld => ?_)
            clear hK K
            (try simp only [Act.put, List.setIfInBounds_toArray, List.set_cons_zero, List.set_cons_succ])
            have hA := bk_new (wB) 36 ([.int .u8 0, .int .u8 0, .int .u8 0, .int .u8 0, .int .u8 0, .int .u8 0, .int .u8 0, .int .u8 0, .int .u8 0, .int .u8 0, .int .u8 0, .int .u8 0, .int .u8 0, .int .u8 0, .int .u8 0, .int .u8 0, .int .i64 0] : List Value).toArray
            refine wpAnyH_ready (rs := [8]) (by kernel_rfl) (by simp) ?_
            refine AllReadyH.cons (o := { dst := some 56, op := Op.call { callee := Callee.value (Operand.func 16), args := #[Operand.tmp 55], argTypes := #[9] }, type := 37, pos := "more.go:18", after := #[{ on := 7, ground := Ground.data }, { on := 6, ground := Ground.chain }], guard := none }) rfl (fun K hK => ?_) AllReadyH.nil
            go_simp
            ((with_reducible refine (CN6.out _ (HW.out.below (kp_bel (And.left hHeld)))).mono ?_); rintro e wC ⟨rfl, hb9⟩)
            refine hK.out _ _ (HKR.out _ ((And.left hHeld).below hb9 (Nat.le_refl _))) (fun hHeld => ?_)
            clear hK K
            (try simp only [Act.put, List.setIfInBounds_toArray, List.set_cons_zero, List.set_cons_succ])
            have hA := hA.below hb9 hA.lt
            refine wpAnyH_take (i := 9) (oi := { dst := some 47, op := Op.move (Operand.tmp 56), type := 37, pos := "more.go:18", after := #[{ on := 8, ground := Ground.data }], guard := none }) (v := ?_) rfl (by kernel_rfl) (by kernel_rfl) (by kernel_rfl) (fun _ _ _ h => h) (Or.inl ⟨by rfl, ?_⟩) (by assumption) ?_
            rotate_left
            · (intro ww hSw; (try dsimp only at hSw); go_simp; try with_reducible rfl)
            (try simp only [Act.put, List.setIfInBounds_toArray, List.set_cons_zero, List.set_cons_succ])
            refine wpAnyH_take (i := 10) (oi := { dst := some 57, op := Op.extract (Operand.tmp 47) 0, type := 36, pos := "more.go:18", after := #[{ on := 9, ground := Ground.data }], guard := none }) (v := ?_) rfl (by kernel_rfl) (by kernel_rfl) (by kernel_rfl) (fun _ _ _ h => h) (Or.inl ⟨by rfl, ?_⟩) (by assumption) ?_
            rotate_left
            · (intro ww hSw; (try dsimp only at hSw); go_simp; try with_reducible rfl)
            (try simp only [Act.put, List.setIfInBounds_toArray, List.set_cons_zero, List.set_cons_succ])
            refine wpAnyH_take (i := 11) (oi := { dst := some 58, op := Op.extract (Operand.tmp 47) 1, type := 4, pos := "more.go:18", after := #[{ on := 9, ground := Ground.data }, { on := 13, ground := Ground.gcOnly Departure.lateStores }], guard := none }) (v := ?_) rfl (by kernel_rfl) (by kernel_rfl) (by kernel_rfl) (fun _ _ _ h => h) (Or.inl ⟨by rfl, ?_⟩) (by assumption) ?_
            rotate_left
            · (intro ww hSw; (try dsimp only at hSw); go_simp; try with_reducible rfl)
            (try simp only [Act.put, List.setIfInBounds_toArray, List.set_cons_zero, List.set_cons_succ])
            refine wpAnyH_ready (rs := [13]) (by kernel_rfl) (by simp) ?_
            refine AllReadyH.cons (o := { dst := none, op := Op.store 36 (Operand.tmp 13) (Operand.tmp 57), type := 0, pos := "more.go:18", after := #[{ on := 12, ground := Ground.data }, { on := 10, ground := Ground.data }, { on := 8, ground := Ground.chain }, { on := 0, ground := Ground.phase }, { on := 1, ground := Ground.phase }, { on := 2, ground := Ground.phase }, { on := 3, ground := Ground.phase }, { on := 4, ground := Ground.phase }, { on := 5, ground := Ground.phase }, { on := 6, ground := Ground.phase }, { on := 7, ground := Ground.phase }, { on := 8, ground := Ground.phase }, { on := 9, ground := Ground.phase }, { on := 10, ground := Ground.phase }, { on := 11, ground := Ground.textOnly Departure.lateStores }, { on := 12, ground := Ground.phase }], guard := none }) rfl (fun K hK => ?_) AllReadyH.nil
            rw [if_pos (by rfl)]
            have hS := Bk.sets P6 0 _ _ hA
            rw [puts_whole ([.int .u8 0, .int .u8 0, .int .u8 0, .int .u8 0, .int .u8 0, .int .u8 0, .int .u8 0, .int .u8 0, .int .u8 0, .int .u8 0, .int .u8 0, .int .u8 0, .int .u8 0, .int .u8 0, .int .u8 0, .int .u8 0, .int .i64 0] : List Value).toArray P6 (by have := HL_P6.out; simp; omega)] at hS
            refine wp_store_mid 36 _ _ rfl (wB).heap.size 0 P6.toArray rfl rfl (hA.there _ (by have := HL_P6.out; simp; omega)) (by simpa using HI_P6.out) HO_P6.out ?_
            refine hK.out _ _ (HKR.out _ ((And.left hHeld).sets hne hnw 0 P6)) (fun hHeld => ?_)
            clear hK K
            (try simp only [Act.put])
            refine wpAnyH_take (i := 14) (oi := { dst := some 14, op := Op.assign (Operand.tmp 58), type := 4, pos := "more.go:18", after := #[{ on := 11, ground := Ground.data }, { on := 13, ground := Ground.chain }, { on := 0, ground := Ground.phase }, { on := 1, ground := Ground.phase }, { on := 2, ground := Ground.phase }, { on := 3, ground := Ground.phase }, { on := 4, ground := Ground.phase }, { on := 5, ground := Ground.phase }, { on := 6, ground := Ground.phase }, { on := 7, ground := Ground.phase }, { on := 8, ground := Ground.phase }, { on := 9, ground := Ground.phase }, { on := 10, ground := Ground.phase }, { on := 11, ground := Ground.phase }, { on := 12, ground := Ground.phase }, { on := 13, ground := Ground.phase }], guard := none }) (v := ?_) rfl (by kernel_rfl) (by kernel_rfl) (by kernel_rfl) (fun _ _ _ h => h) (Or.inl ⟨by rfl, ?_⟩) (by assumption) ?_
            rotate_left
            · (intro ww hSw; (try dsimp only at hSw); go_simp; try with_reducible rfl)
            (try simp only [Act.put, List.setIfInBounds_toArray, List.set_cons_zero, List.set_cons_succ])
            refine wpAnyH_done (by kernel_rfl) ?_ _
            refine NoPanic.normal ?_
            go_wp2_with fail
            go_meet
            case rel => exact ⟨_, rfl, rfl, kp_cons hS (And.left hHeld)⟩
        · have hnw := (And.left hHeld).2.2
          have hne := fun x hx => (And.left hHeld).ne x hx
          go_simp
          refine hK.out _ _ (HKR.out _ ((And.left hHeld).alloc _)) (fun hHeld => ?_)
          clear hK K
          (try simp only [Act.put, List.setIfInBounds_toArray, List.set_cons_zero, List.set_cons_succ])
          have hA := bk_new (wA) 36 ([.int .u8 0, .int .u8 0, .int .u8 0, .int .u8 0, .int .u8 0, .int .u8 0, .int .u8 0, .int .u8 0, .int .u8 0, .int .u8 0, .int .u8 0, .int .u8 0, .int .u8 0, .int .u8 0, .int .u8 0, .int .u8 0, .int .i64 0] : List Value).toArray
          refine wpAnyH_ready (rs := [6]) (by kernel_rfl) (by simp) ?_
          refine AllReadyH.cons (o := { dst := some 54, op := Op.call { callee := Callee.value (Operand.func 38), args := #[Operand.tmp 53], argTypes := #[3] }, type := 9, pos := "more.go:18", after := #[{ on := 5, ground := Ground.data }, { on := 2, ground := Ground.chain }], guard := none }) rfl (fun K hK => ?_) AllReadyH.nil
          go_simp
          ((with_reducible refine (CI6.out _ (HW.out.below (kp_bel (And.left hHeld)))).mono ?_); rintro e wB ⟨rfl, hb9⟩)
          refine hK.out _ _ (HKR.out _ ((And.left hHeld).below hb9 (Nat.le_refl _))) (fun hHeld => ?_)
          clear hK K
          (try simp only [Act.put, List.setIfInBounds_toArray, List.set_cons_zero, List.set_cons_succ])
          have hA := hA.below hb9 hA.lt
          refine wpAnyH_take (i := 7) (oi := { dst := some 55, op := Op.binOp BinOp.add 9 (Operand.tmp 51) (Operand.tmp 54) 9, type := 9, pos := "more.go:18", after := #[{ on := 3, ground := Ground.data }, { on := 6, ground := Ground.data }], guard := none }) (v := ?_) rfl (by kernel_rfl) (by kernel_rfl) (by kernel_rfl) (fun _ _ _ h => h) (Or.inl ⟨by rfl, ?_⟩) (by assumption) ?_
          rotate_left
          · (intro ww hSw; (try dsimp only at hSw); go_simp; try with_reducible rfl)
          (try simp only [Act.put, List.setIfInBounds_toArray, List.set_cons_zero, List.set_cons_succ])
          refine wpAnyH_ready (rs := [8]) (by kernel_rfl) (by simp) ?_
          refine AllReadyH.cons (o := { dst := some 56, op := Op.call { callee := Callee.value (Operand.func 16), args := #[Operand.tmp 55], argTypes := #[9] }, type := 37, pos := "more.go:18", after := #[{ on := 7, ground := Ground.data }, { on := 6, ground := Ground.chain }], guard := none }) rfl (fun K hK => ?_) AllReadyH.nil
          go_simp
          ((with_reducible refine (CN6.out _ (HW.out.below (kp_bel (And.left hHeld)))).mono ?_); rintro e wC ⟨rfl, hb9⟩)
          refine hK.out _ _ (HKR.out _ ((And.left hHeld).below hb9 (Nat.le_refl _))) (fun hHeld => ?_)
          clear hK K
          (try simp only [Act.put, List.setIfInBounds_toArray, List.set_cons_zero, List.set_cons_succ])
          have hA := hA.below hb9 hA.lt
          refine wpAnyH_take (i := 9) (oi := { dst := some 47, op := Op.move (Operand.tmp 56), type := 37, pos := "more.go:18", after := #[{ on := 8, ground := Ground.data }], guard := none }) (v := ?_) rfl (by kernel_rfl) (by kernel_rfl) (by kernel_rfl) (fun _ _ _ h => h) (Or.inl ⟨by rfl, ?_⟩) (by assumption) ?_
          rotate_left
          · (intro ww hSw; (try dsimp only at hSw); go_simp; try with_reducible rfl)
          (try simp only [Act.put, List.setIfInBounds_toArray, List.set_cons_zero, List.set_cons_succ])
          refine wpAnyH_take (i := 10) (oi := { dst := some 57, op := Op.extract (Operand.tmp 47) 0, type := 36, pos := "more.go:18", after := #[{ on := 9, ground := Ground.data }], guard := none }) (v := ?_) rfl (by kernel_rfl) (by kernel_rfl) (by kernel_rfl) (fun _ _ _ h => h) (Or.inl ⟨by rfl, ?_⟩) (by assumption) ?_
          rotate_left
          · (intro ww hSw; (try dsimp only at hSw); go_simp; try with_reducible rfl)
          (try simp only [Act.put, List.setIfInBounds_toArray, List.set_cons_zero, List.set_cons_succ])
          refine wpAnyH_take (i := 11) (oi := { dst := some 58, op := Op.extract (Operand.tmp 47) 1, type := 4, pos := "more.go:18", after := #[{ on := 9, ground := Ground.data }, { on := 13, ground := Ground.gcOnly Departure.lateStores }], guard := none }) (v := ?_) rfl (by kernel_rfl) (by kernel_rfl) (by kernel_rfl) (fun _ _ _ h => h) (Or.inl ⟨by rfl, ?_⟩) (by assumption) ?_
          rotate_left
          · (intro ww hSw; (try dsimp only at hSw); go_simp; try with_reducible rfl)
          (try simp only [Act.put, List.setIfInBounds_toArray, List.set_cons_zero, List.set_cons_succ])
          refine wpAnyH_ready (rs := [13]) (by kernel_rfl) (by simp) ?_
          refine AllReadyH.cons (o := { dst := none, op := Op.store 36 (Operand.tmp 13) (Operand.tmp 57), type := 0, pos := "more.go:18", after := #[{ on := 12, ground := Ground.data }, { on := 10, ground := Ground.data }, { on := 8, ground := Ground.chain }, { on := 0, ground := Ground.phase }, { on := 1, ground := Ground.phase }, { on := 2, ground := Ground.phase }, { on := 3, ground := Ground.phase }, { on := 4, ground := Ground.phase }, { on := 5, ground := Ground.phase }, { on := 6, ground := Ground.phase }, { on := 7, ground := Ground.phase }, { on := 8, ground := Ground.phase }, { on := 9, ground := Ground.phase }, { on := 10, ground := Ground.phase }, { on := 11, ground := Ground.textOnly Departure.lateStores }, { on := 12, ground := Ground.phase }], guard := none }) rfl (fun K hK => ?_) AllReadyH.nil
          rw [if_pos (by rfl)]
          have hS := Bk.sets P6 0 _ _ hA
          rw [puts_whole ([.int .u8 0, .int .u8 0, .int .u8 0, .int .u8 0, .int .u8 0, .int .u8 0, .int .u8 0, .int .u8 0, .int .u8 0, .int .u8 0, .int .u8 0, .int .u8 0, .int .u8 0, .int .u8 0, .int .u8 0, .int .u8 0, .int .i64 0] : List Value).toArray P6 (by have := HL_P6.out; simp; omega)] at hS
          refine wp_store_mid 36 _ _ rfl (wA).heap.size 0 P6.toArray rfl rfl (hA.there _ (by have := HL_P6.out; simp; omega)) (by simpa using HI_P6.out) HO_P6.out ?_
          refine hK.out _ _ (HKR.out _ ((And.left hHeld).sets hne hnw 0 P6)) (fun hHeld => ?_)
          clear hK K
          (try simp only [Act.put])
          refine wpAnyH_take (i := 14) (oi := { dst := some 14, op := Op.assign (Operand.tmp 58), type := 4, pos := "more.go:18", after := #[{ on := 11, ground := Ground.data }, { on := 13, ground := Ground.chain }, { on := 0, ground := Ground.phase }, { on := 1, ground := Ground.phase }, { on := 2, ground := Ground.phase }, { on := 3, ground := Ground.phase }, { on := 4, ground := Ground.phase }, { on := 5, ground := Ground.phase }, { on := 6, ground := Ground.phase }, { on := 7, ground := Ground.phase }, { on := 8, ground := Ground.phase }, { on := 9, ground := Ground.phase }, { on := 10, ground := Ground.phase }, { on := 11, ground := Ground.phase }, { on := 12, ground := Ground.phase }, { on := 13, ground := Ground.phase }], guard := none }) (v := ?_) rfl (by kernel_rfl) (by kernel_rfl) (by kernel_rfl) (fun _ _ _ h => h) (Or.inl ⟨by rfl, ?_⟩) (by assumption) ?_
          rotate_left
          · (intro ww hSw; (try dsimp only at hSw); go_simp; try with_reducible rfl)
          (try simp only [Act.put, List.setIfInBounds_toArray, List.set_cons_zero, List.set_cons_succ])
          refine wpAnyH_done (by kernel_rfl) ?_ _
          refine NoPanic.normal ?_
          go_wp2_with fail
          go_meet
          case rel => exact ⟨_, rfl, rfl, kp_cons hS (And.left hHeld)⟩
      · have hnw := (And.left hHeld).2.2
        have hne := fun x hx => (And.left hHeld).ne x hx
        go_simp
        refine hK.out _ _ (HKR.out _ ((And.left hHeld).alloc _)) (fun hHeld => ?_)
        clear hK K
        (try simp only [Act.put, List.setIfInBounds_toArray, List.set_cons_zero, List.set_cons_succ])
        have hA := bk_new (wK.drew) 36 ([.int .u8 0, .int .u8 0, .int .u8 0, .int .u8 0, .int .u8 0, .int .u8 0, .int .u8 0, .int .u8 0, .int .u8 0, .int .u8 0, .int .u8 0, .int .u8 0, .int .u8 0, .int .u8 0, .int .u8 0, .int .u8 0, .int .i64 0] : List Value).toArray
        refine wpAnyH_ready (rs := [2]) (by kernel_rfl) (by simp) ?_
        refine AllReadyH.cons (o := { dst := some 50, op := Op.call { callee := Callee.value (Operand.func 12), args := #[Operand.tmp 49], argTypes := #[24] }, type := 9, pos := "more.go:18", after := #[{ on := 1, ground := Ground.data }], guard := none }) rfl (fun K hK => ?_) AllReadyH.nil
        go_simp
        ((with_reducible refine (CT6.out _ (HW.out.below (kp_bel (And.left hHeld)))).mono ?_); rintro e wA ⟨rfl, hb9⟩)
        refine hK.out _ _ (HKR.out _ ((And.left hHeld).below hb9 (Nat.le_refl _))) (fun hHeld => ?_)
        clear hK K
        (try simp only [Act.put, List.setIfInBounds_toArray, List.set_cons_zero, List.set_cons_succ])
        have hA := hA.below hb9 hA.lt
        refine wpAnyH_take (i := 3) (oi := { dst := some 51, op := Op.binOp BinOp.add 9 (Operand.tmp 50) (Operand.const (Value.string { data := #[47] })) 9, type := 9, pos := "more.go:18", after := #[{ on := 2, ground := Ground.data }], guard := none }) (v := ?_) rfl (by kernel_rfl) (by kernel_rfl) (by kernel_rfl) (fun _ _ _ h => h) (Or.inl ⟨by rfl, ?_⟩) (by assumption) ?_
        rotate_left
        · (intro ww hSw; (try dsimp only at hSw); go_simp; try with_reducible rfl)
        (try simp only [Act.put, List.setIfInBounds_toArray, List.set_cons_zero, List.set_cons_succ])
        refine wpAnyH_ready (rs := [6]) (by kernel_rfl) (by simp) ?_
        refine AllReadyH.cons (o := { dst := some 54, op := Op.call { callee := Callee.value (Operand.func 38), args := #[Operand.tmp 53], argTypes := #[3] }, type := 9, pos := "more.go:18", after := #[{ on := 5, ground := Ground.data }, { on := 2, ground := Ground.chain }], guard := none }) rfl (fun K hK => ?_) AllReadyH.nil
        go_simp
        ((with_reducible refine (CI6.out _ (HW.out.below (kp_bel (And.left hHeld)))).mono ?_); rintro e wB ⟨rfl, hb9⟩)
        refine hK.out _ _ (HKR.out _ ((And.left hHeld).below hb9 (Nat.le_refl _))) (fun hHeld => ?_)
        clear hK K
        (try simp only [Act.put, List.setIfInBounds_toArray, List.set_cons_zero, List.set_cons_succ])
        have hA := hA.below hb9 hA.lt
        refine wpAnyH_take (i := 7) (oi := { dst := some 55, op := Op.binOp BinOp.add 9 (Operand.tmp 51) (Operand.tmp 54) 9, type := 9, pos := "more.go:18", after := #[{ on := 3, ground := Ground.data }, { on := 6, ground := Ground.data }], guard := none }) (v := ?_) rfl (by kernel_rfl) (by kernel_rfl) (by kernel_rfl) (fun _ _ _ h => h) (Or.inl ⟨by rfl, ?_⟩) (by assumption) ?_
        rotate_left
        · (intro ww hSw; (try dsimp only at hSw); go_simp; try with_reducible rfl)
        (try simp only [Act.put, List.setIfInBounds_toArray, List.set_cons_zero, List.set_cons_succ])
        refine wpAnyH_ready (rs := [8]) (by kernel_rfl) (by simp) ?_
        refine AllReadyH.cons (o := { dst := some 56, op := Op.call { callee := Callee.value (Operand.func 16), args := #[Operand.tmp 55], argTypes := #[9] }, type := 37, pos := "more.go:18", after := #[{ on := 7, ground := Ground.data }, { on := 6, ground := Ground.chain }], guard := none }) rfl (fun K hK => ?_) AllReadyH.nil
        go_simp
        ((with_reducible refine (CN6.out _ (HW.out.below (kp_bel (And.left hHeld)))).mono ?_); rintro e wC ⟨rfl, hb9⟩)
        refine hK.out _ _ (HKR.out _ ((And.left hHeld).below hb9 (Nat.le_refl _))) (fun hHeld => ?_)
        clear hK K
        (try simp only [Act.put, List.setIfInBounds_toArray, List.set_cons_zero, List.set_cons_succ])
        have hA := hA.below hb9 hA.lt
        refine wpAnyH_take (i := 9) (oi := { dst := some 47, op := Op.move (Operand.tmp 56), type := 37, pos := "more.go:18", after := #[{ on := 8, ground := Ground.data }], guard := none }) (v := ?_) rfl (by kernel_rfl) (by kernel_rfl) (by kernel_rfl) (fun _ _ _ h => h) (Or.inl ⟨by rfl, ?_⟩) (by assumption) ?_
        rotate_left
        · (intro ww hSw; (try dsimp only at hSw); go_simp; try with_reducible rfl)
        (try simp only [Act.put, List.setIfInBounds_toArray, List.set_cons_zero, List.set_cons_succ])
        refine wpAnyH_take (i := 10) (oi := { dst := some 57, op := Op.extract (Operand.tmp 47) 0, type := 36, pos := "more.go:18", after := #[{ on := 9, ground := Ground.data }], guard := none }) (v := ?_) rfl (by kernel_rfl) (by kernel_rfl) (by kernel_rfl) (fun _ _ _ h => h) (Or.inl ⟨by rfl, ?_⟩) (by assumption) ?_
        rotate_left
        · (intro ww hSw; (try dsimp only at hSw); go_simp; try with_reducible rfl)
        (try simp only [Act.put, List.setIfInBounds_toArray, List.set_cons_zero, List.set_cons_succ])
        refine wpAnyH_take (i := 11) (oi := { dst := some 58, op := Op.extract (Operand.tmp 47) 1, type := 4, pos := "more.go:18", after := #[{ on := 9, ground := Ground.data }, { on := 13, ground := Ground.gcOnly Departure.lateStores }], guard := none }) (v := ?_) rfl (by kernel_rfl) (by kernel_rfl) (by kernel_rfl) (fun _ _ _ h => h) (Or.inl ⟨by rfl, ?_⟩) (by assumption) ?_
        rotate_left
        · (intro ww hSw; (try dsimp only at hSw); go_simp; try with_reducible rfl)
        (try simp only [Act.put, List.setIfInBounds_toArray, List.set_cons_zero, List.set_cons_succ])
        refine wpAnyH_ready (rs := [13]) (by kernel_rfl) (by simp) ?_
        refine AllReadyH.cons (o := { dst := none, op := Op.store 36 (Operand.tmp 13) (Operand.tmp 57), type := 0, pos := "more.go:18", after := #[{ on := 12, ground := Ground.data }, { on := 10, ground := Ground.data }, { on := 8, ground := Ground.chain }, { on := 0, ground := Ground.phase }, { on := 1, ground := Ground.phase }, { on := 2, ground := Ground.phase }, { on := 3, ground := Ground.phase }, { on := 4, ground := Ground.phase }, { on := 5, ground := Ground.phase }, { on := 6, ground := Ground.phase }, { on := 7, ground := Ground.phase }, { on := 8, ground := Ground.phase }, { on := 9, ground := Ground.phase }, { on := 10, ground := Ground.phase }, { on := 11, ground := Ground.textOnly Departure.lateStores }, { on := 12, ground := Ground.phase }], guard := none }) rfl (fun K hK => ?_) AllReadyH.nil
        rw [if_pos (by rfl)]
        have hS := Bk.sets P6 0 _ _ hA
        rw [puts_whole ([.int .u8 0, .int .u8 0, .int .u8 0, .int .u8 0, .int .u8 0, .int .u8 0, .int .u8 0, .int .u8 0, .int .u8 0, .int .u8 0, .int .u8 0, .int .u8 0, .int .u8 0, .int .u8 0, .int .u8 0, .int .u8 0, .int .i64 0] : List Value).toArray P6 (by have := HL_P6.out; simp; omega)] at hS
        refine wp_store_mid 36 _ _ rfl (wK.drew).heap.size 0 P6.toArray rfl rfl (hA.there _ (by have := HL_P6.out; simp; omega)) (by simpa using HI_P6.out) HO_P6.out ?_
        refine hK.out _ _ (HKR.out _ ((And.left hHeld).sets hne hnw 0 P6)) (fun hHeld => ?_)
        clear hK K
        (try simp only [Act.put])
        refine wpAnyH_take (i := 14) (oi := { dst := some 14, op := Op.assign (Operand.tmp 58), type := 4, pos := "more.go:18", after := #[{ on := 11, ground := Ground.data }, { on := 13, ground := Ground.chain }, { on := 0, ground := Ground.phase }, { on := 1, ground := Ground.phase }, { on := 2, ground := Ground.phase }, { on := 3, ground := Ground.phase }, { on := 4, ground := Ground.phase }, { on := 5, ground := Ground.phase }, { on := 6, ground := Ground.phase }, { on := 7, ground := Ground.phase }, { on := 8, ground := Ground.phase }, { on := 9, ground := Ground.phase }, { on := 10, ground := Ground.phase }, { on := 11, ground := Ground.phase }, { on := 12, ground := Ground.phase }, { on := 13, ground := Ground.phase }], guard := none }) (v := ?_) rfl (by kernel_rfl) (by kernel_rfl) (by kernel_rfl) (fun _ _ _ h => h) (Or.inl ⟨by rfl, ?_⟩) (by assumption) ?_
        rotate_left
        · (intro ww hSw; (try dsimp only at hSw); go_simp; try with_reducible rfl)
        (try simp only [Act.put, List.setIfInBounds_toArray, List.set_cons_zero, List.set_cons_succ])
        refine wpAnyH_done (by kernel_rfl) ?_ _
        refine NoPanic.normal ?_
        go_wp2_with fail
        go_meet
        case rel => exact ⟨_, rfl, rfl, kp_cons hS (And.left hHeld)⟩
    case rest =>
      obtain ⟨b4, rfl, rfl, hK9⟩ := hcut
      have HKt := Lib.hid hK9
      clear hK9 HKs HKR
      have HKs := HKt
      clear HKt
      have nq4 := NQ4.out
      have nq6 := NQ6.out
      have hr0 := HKs.out.tl.hd.range
      have hr1 := HKs.out.tl.tl.tl.hd.range
      have hr2 := HKs.out.hd.range
      have hr3 := HKs.out.tl.tl.hd.range
      go_upto_region 9 with (((with_reducible (change wpList _ _ _ _ _ _)); (first | (refine wpList_load_if (by rfl) 32 _ rfl (b3) 0 rfl P4 _ hr0 Tryd.underlying32 rfl HI_P4.out ?_) | (refine wpList_load_if (by rfl) 32 _ rfl (g1) 0 rfl P4 _ hr1 Tryd.underlying32 rfl HI_P4.out ?_) | (refine wpList_load_if (by rfl) 36 _ rfl (b4) 0 rfl P6 _ hr2 Tryd.underlying36 rfl HI_P6.out ?_) | (refine wpList_load_if (by rfl) 36 _ rfl (g2) 0 rfl P6 _ hr3 Tryd.underlying36 rfl HI_P6.out ?_))))
      clear nq4 nq6
      clear hr0 hr1 hr2 hr3
      have HK1 := Lib.hid (Kp.first2 HKs.out.tl.tl)
      clear HKs
      have hr0 := (HR4.out g1 _ HK1.out.tl.hd).1
      go_wp2_with (((with_reducible (change wpList _ _ _ _ _ _)); ((refine wpList_load_mid rfl 28 _ rfl (g1) 0 rfl R4 _ hr0 Tryd.underlying28 rfl HI_R4.out ?_))))
      clear hr0
      refine (CT4.out _ (HW.out.below HK1.out.2.1)).mono ?_
      rintro e w2 ⟨rfl, bb⟩
      have HK2 := Lib.hid (HK1.out.below bb (Nat.le_refl _))
      clear bb HK1
      have zc := ZC4.out
      go_wp2_with (fail)
      clear zc
      refine (CL4.out _ (HW.out.below HK2.out.2.1)).mono ?_
      rintro e w3 ⟨rfl, bb⟩
      have HK3 := Lib.hid (HK2.out.below bb (Nat.le_refl _))
      clear bb HK2
      have HBb5 : Hid (w.heap.size ≤ w3.heap.size) := Lib.hid HK3.out.2.2
      have ht := (bk_new w3 32 ([.int .u8 0, .int .u8 0, .int .u8 0, .int .u8 0, .int .i64 0] : List Value).toArray).there Z4N.toArray.size (by have := HL_Z4N.out; simp; omega)
      go_upto_region 10 with (((with_reducible (change wpList _ _ _ _ _ _)); ((refine wpList_store_mid rfl 32 _ _ rfl w3.heap.size 0 Z4N.toArray rfl rfl ht (by simpa using HI_Z4N.out) HO_Z4N.out ?_))))
      have HK4 := Lib.hid (HK3.out.put 32 ([.int .u8 0, .int .u8 0, .int .u8 0, .int .u8 0, .int .i64 0] : List Value).toArray Z4N (by have := HL_Z4N.out; simp; omega))
      clear ht HK3
      generalize (w3.alloc (.cells ([.int .u8 0, .int .u8 0, .int .u8 0, .int .u8 0, .int .i64 0] : List Value).toArray 32)).setCells w3.heap.size 0 Z4N = w4 at *
      generalize w3.heap.size = b5 at *
      have hr0 := (HR6.out g2 _ HK4.out.tl.hd).1
      go_wp2_with (((with_reducible (change wpList _ _ _ _ _ _)); ((refine wpList_load_mid rfl 24 _ rfl (g2) 0 rfl R6 _ hr0 Tryd.underlying24 rfl HI_R6.out ?_))))
      clear hr0
      refine (CT6.out _ (HW.out.below HK4.out.2.1)).mono ?_
      rintro e w5 ⟨rfl, bb⟩
      have HK5 := Lib.hid (HK4.out.below bb (Nat.le_refl _))
      clear bb HK4
      have zc := ZC6.out
      go_wp2_with (fail)
      clear zc
      refine (CL6.out _ (HW.out.below HK5.out.2.1)).mono ?_
      rintro e w6 ⟨rfl, bb⟩
      have HK6 := Lib.hid (HK5.out.below bb (Nat.le_refl _))
      clear bb HK5
      have HBb6 : Hid (w.heap.size ≤ w6.heap.size) := Lib.hid HK6.out.2.2
      have ht := (bk_new w6 36 ([.int .u8 0, .int .u8 0, .int .u8 0, .int .u8 0, .int .u8 0, .int .u8 0, .int .u8 0, .int .u8 0, .int .u8 0, .int .u8 0, .int .u8 0, .int .u8 0, .int .u8 0, .int .u8 0, .int .u8 0, .int .u8 0, .int .i64 0] : List Value).toArray).there Z6N.toArray.size (by have := HL_Z6N.out; simp; omega)
      go_upto_region 11 with (((with_reducible (change wpList _ _ _ _ _ _)); ((refine wpList_store_mid rfl 36 _ _ rfl w6.heap.size 0 Z6N.toArray rfl rfl ht (by simpa using HI_Z6N.out) HO_Z6N.out ?_))))
      have HK7 := Lib.hid (HK6.out.put 36 ([.int .u8 0, .int .u8 0, .int .u8 0, .int .u8 0, .int .u8 0, .int .u8 0, .int .u8 0, .int .u8 0, .int .u8 0, .int .u8 0, .int .u8 0, .int .u8 0, .int .u8 0, .int .u8 0, .int .u8 0, .int .u8 0, .int .i64 0] : List Value).toArray Z6N (by have := HL_Z6N.out; simp; omega))
      clear ht HK6
      generalize (w6.alloc (.cells ([.int .u8 0, .int .u8 0, .int .u8 0, .int .u8 0, .int .u8 0, .int .u8 0, .int .u8 0, .int .u8 0, .int .u8 0, .int .u8 0, .int .u8 0, .int .u8 0, .int .u8 0, .int .u8 0, .int .u8 0, .int .u8 0, .int .i64 0] : List Value).toArray 36)).setCells w6.heap.size 0 Z6N = w7 at *
      generalize w6.heap.size = b6 at *
      have HKs := Lib.hid (Kp.first2 HK7.out.tl.tl)
      clear HK7
      go_upto_region 13 with (fail)
      have cl := (HR4.out g1 _ HKs.out.tl.hd).2
      go_upto_if 97 with (fail)
      clear cl
      have HKs2 := Lib.hid (HKs.out.swap)
      clear HKs
      have HKs := HKs2
      clear HKs2
      go_cut [20] (fun v9 w' => Kp w w.heap.size [(g2, 36, P6)] w')
      case first =>
        by_cases hlt : n < 32
        · skip
          have cl := (HR4.out g1 _ HKs.out.hd).2
          have il : ((n : Nat) : Int) < 32 := by omega
          have ce := HE4.out g1 _ HKs.out.hd
          have cz := HKs.out.hd.z 3
          have hl := HL4.out
          have hk2 := HKs.out.set1 (by intro z hz; simp at hz; try (subst hz; have := HGG.out; show _ ≠ g1; omega)) HBg1.out 3 (.int .u8 ((last1 e4).toNat : Int))
          rw [HS4.out] at hk2
          have HKm := Lib.hid hk2
          have CMx := Lib.hid (CM4.out hlt)
          clear hk2 hlt
          go_upto_region 15 with (fail)
          clear cl il ce cz hl HKs
          try simp only [Act.put]
          generalize hw9 : World.setCell _ ⟨g1, 3, none⟩ (.int .u8 ((last1 e4).toNat : Int)) = w9 at *
          clear hw9
          have HKs := HKm
          clear HKm
          have HKR : Hid (∀ W : World, Kp w w.heap.size [(g1, 32, Q4), (g2, 36, P6)] W → (fun w' => Kp w w.heap.size [(g1, 32, Q4), (g2, 36, P6)] w' ∧ w'.rangeAt g1 0 S4 ∧ w'.cell? ⟨g1, 4, none⟩ = some (.int .i64 (n : Int))) W) := Lib.hid (fun W k => ⟨k, HQ4.out g1 W k.hd⟩)
          go_upto_region 15 with (fail)
          try simp only [Act.put]
          go_cut [19, 20] (fun p9 o9 w' => ∃ b9 : Nat, p9 = .pointer (some ⟨b9, 0, none⟩) ∧ o9 = .bool false ∧ Kp w w.heap.size ((b9, 32, Z4N) :: [(g1, 32, Q4), (g2, 36, P6)]) w')
          case first =>
            generalize w9 = wK at *
            have zd := ZD4.out
            have ze := ZE4.out
            refine wp_region_noPanic ?_
            refine wp_region_held_drew (S := fun w' => Kp w w.heap.size [(g1, 32, Q4), (g2, 36, P6)] w' ∧ w'.rangeAt g1 0 S4 ∧ w'.cell? ⟨g1, 4, none⟩ = some (.int .i64 (n : Int))) (by kernel_rfl) (HKR.out _ HKs.out.drew) (fun hHeld => ?_)
            refine wpAnyH_take (i := 0) (oi := { dst := some 105, op := Op.fieldAddr 32 (Operand.tmp 9) 0, type := 0, pos := "more.go:29", after := #[], guard := none }) (v := ?_) rfl (by kernel_rfl) (by kernel_rfl) (by kernel_rfl) (fun _ _ _ h => h) (Or.inl ⟨by rfl, ?_⟩) (by assumption) ?_
            rotate_left
            · (intro ww hSw; (try dsimp only at hSw); go_simp; try with_reducible rfl)
            (try simp only [Act.put, List.setIfInBounds_toArray, List.set_cons_zero, List.set_cons_succ])
            refine wpAnyH_take (i := 1) (oi := { dst := some 106, op := Op.load 28 (Operand.tmp 105), type := 28, pos := "more.go:29", after := #[{ on := 0, ground := Ground.data }], guard := none }) (v := .agg (S4).toArray) rfl (by kernel_rfl) (by kernel_rfl) (by kernel_rfl) (fun _ _ _ h => h) (yieldsIf_load_mid (by rfl) _ _ rfl (g1) 0 rfl (S4) _ (fun ww hSw => hSw.2.1) Tryd.underlying28 rfl HI_S4.out) (by assumption) ?_
            (try simp only [Act.put, List.setIfInBounds_toArray, List.set_cons_zero, List.set_cons_succ])
            refine wpAnyH_take (i := 4) (oi := { dst := some 109, op := Op.fieldAddr 32 (Operand.tmp 9) 1, type := 0, pos := "more.go:29", after := #[], guard := none }) (v := ?_) rfl (by kernel_rfl) (by kernel_rfl) (by kernel_rfl) (fun _ _ _ h => h) (Or.inl ⟨by rfl, ?_⟩) (by assumption) ?_
            rotate_left
            · (intro ww hSw; (try dsimp only at hSw); go_simp; try with_reducible rfl)
            (try simp only [Act.put, List.setIfInBounds_toArray, List.set_cons_zero, List.set_cons_succ])
            refine wpAnyH_take (i := 5) (oi := { dst := some 110, op := Op.load 3 (Operand.tmp 109), type := 3, pos := "more.go:29", after := #[{ on := 4, ground := Ground.data }], guard := none }) (v := ?_) rfl (by kernel_rfl) (by kernel_rfl) (by kernel_rfl) (fun _ _ _ h => h) (Or.inl ⟨by rfl, ?_⟩) (by assumption) ?_
            rotate_left
            · (intro ww hSw; have cq := hSw.2.2; go_simp; try with_reducible rfl)
            (try simp only [Act.put, List.setIfInBounds_toArray, List.set_cons_zero, List.set_cons_succ])
            refine wpAnyH_ready (rs := [2, 12]) (by kernel_rfl) (by simp) ?_
            refine AllReadyH.cons (o := { dst := some 107, op := Op.call { callee := Callee.value (Operand.func 32), args := #[Operand.tmp 106], argTypes := #[28] }, type := 9, pos := "more.go:29", after := #[{ on := 1, ground := Ground.data }], guard := none }) rfl (fun K hK => ?_) (AllReadyH.cons (o := { dst := some 19, op := Op.alloc 32, type := 0, pos := "more.go:29", after := #[], guard := none }) rfl (fun K hK => ?_) AllReadyH.nil)
            · go_simp
              ((with_reducible refine (CU4.out _ (HW.out.below (kp_bel (And.left hHeld)))).mono ?_); rintro e wA ⟨rfl, hb9⟩)
              refine hK.out _ _ (HKR.out _ ((And.left hHeld).below hb9 (Nat.le_refl _))) (fun hHeld => ?_)
              clear hK K
              (try simp only [Act.put, List.setIfInBounds_toArray, List.set_cons_zero, List.set_cons_succ])
              refine wpAnyH_take (i := 3) (oi := { dst := some 108, op := Op.binOp BinOp.add 9 (Operand.tmp 107) (Operand.const (Value.string { data := #[47] })) 9, type := 9, pos := "more.go:29", after := #[{ on := 2, ground := Ground.data }], guard := none }) (v := ?_) rfl (by kernel_rfl) (by kernel_rfl) (by kernel_rfl) (fun _ _ _ h => h) (Or.inl ⟨by rfl, ?_⟩) (by assumption) ?_
              rotate_left
              · (intro ww hSw; (try dsimp only at hSw); go_simp; try with_reducible rfl)
              (try simp only [Act.put, List.setIfInBounds_toArray, List.set_cons_zero, List.set_cons_succ])
              refine wpAnyH_ready (rs := [6, 12]) (by kernel_rfl) (by simp) ?_
              refine AllReadyH.cons (o := { dst := some 111, op := Op.call { callee := Callee.value (Operand.func 38), args := #[Operand.tmp 110], argTypes := #[3] }, type := 9, pos := "more.go:29", after := #[{ on := 5, ground := Ground.data }, { on := 2, ground := Ground.chain }], guard := none }) rfl (fun K hK => ?_) (AllReadyH.cons (o := { dst := some 19, op := Op.alloc 32, type := 0, pos := "more.go:29", after := #[], guard := none }) rfl (fun K hK => ?_) AllReadyH.nil)
              · go_simp
                ((with_reducible refine (CI4.out _ (HW.out.below (kp_bel (And.left hHeld)))).mono ?_); rintro e wB ⟨rfl, hb9⟩)
                refine hK.out _ _ (HKR.out _ ((And.left hHeld).below hb9 (Nat.le_refl _))) (fun hHeld => ?_)
                clear hK K
                (try simp only [Act.put, List.setIfInBounds_toArray, List.set_cons_zero, List.set_cons_succ])
                refine wpAnyH_take (i := 7) (oi := { dst := some 112, op := Op.binOp BinOp.add 9 (Operand.tmp 108) (Operand.tmp 111) 9, type := 9, pos := "more.go:29", after := #[{ on := 3, ground := Ground.data }, { on := 6, ground := Ground.data }], guard := none }) (v := ?_) rfl (by kernel_rfl) (by kernel_rfl) (by kernel_rfl) (fun _ _ _ h => h) (Or.inl ⟨by rfl, ?_⟩) (by assumption) ?_
                rotate_left
                · (intro ww hSw; (try dsimp only at hSw); go_simp; try with_reducible rfl)
                (try simp only [Act.put, List.setIfInBounds_toArray, List.set_cons_zero, List.set_cons_succ])
                refine wpAnyH_ready (rs := [8, 12]) (by kernel_rfl) (by simp) ?_
                refine AllReadyH.cons (o := { dst := some 113, op := Op.call { callee := Callee.value (Operand.func 15), args := #[Operand.tmp 112], argTypes := #[9] }, type := 33, pos := "more.go:29", after := #[{ on := 7, ground := Ground.data }, { on := 6, ground := Ground.chain }], guard := none }) rfl (fun K hK => ?_) (AllReadyH.cons (o := { dst := some 19, op := Op.alloc 32, type := 0, pos := "more.go:29", after := #[], guard := none }) rfl (fun K hK => ?_) AllReadyH.nil)
                · go_simp
                  ((with_reducible refine (CMx.out _ (HW.out.below (kp_bel (And.left hHeld)))).mono ?_); rintro e wC ⟨rfl, hb9⟩)
                  refine hK.out _ _ (HKR.out _ ((And.left hHeld).below hb9 (Nat.le_refl _))) (fun hHeld => ?_)
                  clear hK K
                  (try simp only [Act.put, List.setIfInBounds_toArray, List.set_cons_zero, List.set_cons_succ])
                  refine wpAnyH_take (i := 9) (oi := { dst := some 104, op := Op.move (Operand.tmp 113), type := 33, pos := "more.go:29", after := #[{ on := 8, ground := Ground.data }], guard := none }) (v := ?_) rfl (by kernel_rfl) (by kernel_rfl) (by kernel_rfl) (fun _ _ _ h => h) (Or.inl ⟨by rfl, ?_⟩) (by assumption) ?_
                  rotate_left
                  · (intro ww hSw; (try dsimp only at hSw); go_simp; try with_reducible rfl)
                  (try simp only [Act.put, List.setIfInBounds_toArray, List.set_cons_zero, List.set_cons_succ])
                  refine wpAnyH_take (i := 10) (oi := { dst := some 114, op := Op.extract (Operand.tmp 104) 0, type := 32, pos := "more.go:29", after := #[{ on := 9, ground := Ground.data }], guard := none }) (v := ?_) rfl (by kernel_rfl) (by kernel_rfl) (by kernel_rfl) (fun _ _ _ h => h) (Or.inl ⟨by rfl, ?_⟩) (by assumption) ?_
                  rotate_left
                  · (intro ww hSw; (try dsimp only at hSw); go_simp; try with_reducible rfl)
                  (try simp only [Act.put, List.setIfInBounds_toArray, List.set_cons_zero, List.set_cons_succ])
                  refine wpAnyH_take (i := 11) (oi := { dst := some 115, op := Op.extract (Operand.tmp 104) 1, type := 4, pos := "more.go:29", after := #[{ on := 9, ground := Ground.data }, { on := 13, ground := Ground.gcOnly Departure.lateStores }], guard := none }) (v := ?_) rfl (by kernel_rfl) (by kernel_rfl) (by kernel_rfl) (fun _ _ _ h => h) (Or.inl ⟨by rfl, ?_⟩) (by assumption) ?_
                  rotate_left
                  · (intro ww hSw; (try dsimp only at hSw); go_simp; try with_reducible rfl)
                  (try simp only [Act.put, List.setIfInBounds_toArray, List.set_cons_zero, List.set_cons_succ])
                  refine wpAnyH_ready (rs := [12]) (by kernel_rfl) (by simp) ?_
                  refine AllReadyH.cons (o := { dst := some 19, op := Op.alloc 32, type := 0, pos := "more.go:29", after := #[], guard := none }) rfl (fun K hK => ?_) AllReadyH.nil
                  have hnw := (And.left hHeld).2.2
                  have hne := fun x hx => (And.left hHeld).ne x hx
                  go_simp
                  refine hK.out _ _ (HKR.out _ ((And.left hHeld).alloc _)) (fun hHeld => ?_)
                  clear hK K
                  (try simp only [Act.put, List.setIfInBounds_toArray, List.set_cons_zero, List.set_cons_succ])
                  have hA := bk_new (wC) 32 ([.int .u8 0, .int .u8 0, .int .u8 0, .int .u8 0, .int .i64 0] : List Value).toArray
                  refine wpAnyH_ready (rs := [13]) (by kernel_rfl) (by simp) ?_
                  refine AllReadyH.cons (o := { dst := none, op := Op.store 32 (Operand.tmp 19) (Operand.tmp 114), type := 0, pos := "more.go:29", after := #[{ on := 12, ground := Ground.data }, { on := 10, ground := Ground.data }, { on := 8, ground := Ground.chain }, { on := 0, ground := Ground.phase }, { on := 1, ground := Ground.phase }, { on := 2, ground := Ground.phase }, { on := 3, ground := Ground.phase }, { on := 4, ground := Ground.phase }, { on := 5, ground := Ground.phase }, { on := 6, ground := Ground.phase }, { on := 7, ground := Ground.phase }, { on := 8, ground := Ground.phase }, { on := 9, ground := Ground.phase }, { on := 10, ground := Ground.phase }, { on := 11, ground := Ground.textOnly Departure.lateStores }, { on := 12, ground := Ground.phase }], guard := none }) rfl (fun K hK => ?_) AllReadyH.nil
                  rw [if_pos (by rfl)]
                  have hS := Bk.sets Z4N 0 _ _ hA
                  rw [puts_whole ([.int .u8 0, .int .u8 0, .int .u8 0, .int .u8 0, .int .i64 0] : List Value).toArray Z4N (by have := HL_Z4N.out; simp; omega)] at hS
                  refine wp_store_mid 32 _ _ rfl (wC).heap.size 0 Z4N.toArray rfl rfl (hA.there _ (by have := HL_Z4N.out; simp; omega)) (by simpa using HI_Z4N.out) HO_Z4N.out ?_
                  refine hK.out _ _ (HKR.out _ ((And.left hHeld).sets hne hnw 0 Z4N)) (fun hHeld => ?_)
                  clear hK K
                  (try simp only [Act.put])
                  refine wpAnyH_take (i := 14) (oi := { dst := some 20, op := Op.assign (Operand.tmp 115), type := 4, pos := "more.go:29", after := #[{ on := 11, ground := Ground.data }, { on := 13, ground := Ground.chain }, { on := 0, ground := Ground.phase }, { on := 1, ground := Ground.phase }, { on := 2, ground := Ground.phase }, { on := 3, ground := Ground.phase }, { on := 4, ground := Ground.phase }, { on := 5, ground := Ground.phase }, { on := 6, ground := Ground.phase }, { on := 7, ground := Ground.phase }, { on := 8, ground := Ground.phase }, { on := 9, ground := Ground.phase }, { on := 10, ground := Ground.phase }, { on := 11, ground := Ground.phase }, { on := 12, ground := Ground.phase }, { on := 13, ground := Ground.phase }], guard := none }) (v := ?_) rfl (by kernel_rfl) (by kernel_rfl) (by kernel_rfl) (fun _ _ _ h => h) (Or.inl ⟨by rfl, ?_⟩) (by assumption) ?_
                  rotate_left
                  · (intro ww hSw; (try dsimp only at hSw); go_simp; try with_reducible rfl)
                  (try simp only [Act.put, List.setIfInBounds_toArray, List.set_cons_zero, List.set_cons_succ])
                  refine wpAnyH_done (by kernel_rfl) ?_ _
                  refine NoPanic.normal ?_
                  go_wp2_with fail
                  go_meet
                  case rel => exact ⟨_, rfl, rfl, kp_cons hS (And.left hHeld)⟩
                · have hnw := (And.left hHeld).2.2
                  have hne := fun x hx => (And.left hHeld).ne x hx
                  go_simp
                  refine hK.out _ _ (HKR.out _ ((And.left hHeld).alloc _)) (fun hHeld => ?_)
                  clear hK K
                  (try simp only [Act.put, List.setIfInBounds_toArray, List.set_cons_zero, List.set_cons_succ])
                  have hA := bk_new (wB) 32 ([.int .u8 0, .int .u8 0, .int .u8 0, .int .u8 0, .int .i64 0] : List Value).toArray
                  refine wpAnyH_ready (rs := [8]) (by kernel_rfl) (by simp) ?_
                  refine AllReadyH.cons (o := { dst := some 113, op := Op.call { callee := Callee.value (Operand.func 15), args := #[Operand.tmp 112], argTypes := #[9] }, type := 33, pos := "more.go:29", after := #[{ on := 7, ground := Ground.data }, { on := 6, ground := Ground.chain }], guard := none }) rfl (fun K hK => ?_) AllReadyH.nil
                  go_simp
                  ((with_reducible refine (CMx.out _ (HW.out.below (kp_bel (And.left hHeld)))).mono ?_); rintro e wC ⟨rfl, hb9⟩)
                  refine hK.out _ _ (HKR.out _ ((And.left hHeld).below hb9 (Nat.le_refl _))) (fun hHeld => ?_)
                  clear hK K
                  (try simp only [Act.put, List.setIfInBounds_toArray, List.set_cons_zero, List.set_cons_succ])
                  have hA := hA.below hb9 hA.lt
                  refine wpAnyH_take (i := 9) (oi := { dst := some 104, op := Op.move (Operand.tmp 113), type := 33, pos := "more.go:29", after := #[{ on := 8, ground := Ground.data }], guard := none }) (v := ?_) rfl (by kernel_rfl) (by kernel_rfl) (by kernel_rfl) (fun _ _ _ h => h) (Or.inl ⟨by rfl, ?_⟩) (by assumption) ?_
                  rotate_left
                  · (intro ww hSw; (try dsimp only at hSw); go_simp; try with_reducible rfl)
                  (try simp only [Act.put, List.setIfInBounds_toArray, List.set_cons_zero, List.set_cons_succ])
                  refine wpAnyH_take (i := 10) (oi := { dst := some 114, op := Op.extract (Operand.tmp 104) 0, type := 32, pos := "more.go:29", after := #[{ on := 9, ground := Ground.data }], guard := none }) (v := ?_) rfl (by kernel_rfl) (by kernel_rfl) (by kernel_rfl) (fun _ _ _ h => h) (Or.inl ⟨by rfl, ?_⟩) (by assumption) ?_
                  rotate_left
                  · (intro ww hSw; (try dsimp only at hSw); go_simp; try with_reducible rfl)
                  (try simp only [Act.put, List.setIfInBounds_toArray, List.set_cons_zero, List.set_cons_succ])
                  refine wpAnyH_take (i := 11) (oi := { dst := some 115, op := Op.extract (Operand.tmp 104) 1, type := 4, pos := "more.go:29", after := #[{ on := 9, ground := Ground.data }, { on := 13, ground := Ground.gcOnly Departure.lateStores }], guard := none }) (v := ?_) rfl (by kernel_rfl) (by kernel_rfl) (by kernel_rfl) (fun _ _ _ h => h) (Or.inl ⟨by rfl, ?_⟩) (by assumption) ?_
                  rotate_left
                  · (intro ww hSw; (try dsimp only at hSw); go_simp; try with_reducible rfl)
                  (try simp only [Act.put, List.setIfInBounds_toArray, List.set_cons_zero, List.set_cons_succ])
                  refine wpAnyH_ready (rs := [13]) (by kernel_rfl) (by simp) ?_
                  refine AllReadyH.cons (o := { dst := none, op := Op.store 32 (Operand.tmp 19) (Operand.tmp 114), type := 0, pos := "more.go:29", after := #[{ on := 12, ground := Ground.data }, { on := 10, ground := Ground.data }, { on := 8, ground := Ground.chain }, { on := 0, ground := Ground.phase }, { on := 1, ground := Ground.phase }, { on := 2, ground := Ground.phase }, { on := 3, ground := Ground.phase }, { on := 4, ground := Ground.phase }, { on := 5, ground := Ground.phase }, { on := 6, ground := Ground.phase }, { on := 7, ground := Ground.phase }, { on := 8, ground := Ground.phase }, { on := 9, ground := Ground.phase }, { on := 10, ground := Ground.phase }, { on := 11, ground := Ground.textOnly Departure.lateStores }, { on := 12, ground := Ground.phase }], guard := none }) rfl (fun K hK => ?_) AllReadyH.nil
                  rw [if_pos (by rfl)]
                  have hS := Bk.sets Z4N 0 _ _ hA
                  rw [puts_whole ([.int .u8 0, .int .u8 0, .int .u8 0, .int .u8 0, .int .i64 0] : List Value).toArray Z4N (by have := HL_Z4N.out; simp; omega)] at hS
                  refine wp_store_mid 32 _ _ rfl (wB).heap.size 0 Z4N.toArray rfl rfl (hA.there _ (by have := HL_Z4N.out; simp; omega)) (by simpa using HI_Z4N.out) HO_Z4N.out ?_
                  refine hK.out _ _ (HKR.out _ ((And.left hHeld).sets hne hnw 0 Z4N)) (fun hHeld => ?_)
                  clear hK K
                  (try simp only [Act.put])
                  refine wpAnyH_take (i := 14) (oi := { dst := some 20, op := Op.assign (Operand.tmp 115), type := 4, pos := "more.go:29", after := #[{ on := 11, ground := Ground.data }, { on := 13, ground := Ground.chain }, { on := 0, ground := Ground.phase }, { on := 1, ground := Ground.phase }, { on := 2, ground := Ground.phase }, { on := 3, ground := Ground.phase }, { on := 4, ground := Ground.phase }, { on := 5, ground := Ground.phase }, { on := 6, ground := Ground.phase }, { on := 7, ground := Ground.phase }, { on := 8, ground := Ground.phase }, { on := 9, ground := Ground.phase }, { on := 10, ground := Ground.phase }, { on := 11, ground := Ground.phase }, { on := 12, ground := Ground.phase }, { on := 13, ground := Ground.phase }], guard := none }) (v := ?_) rfl (by kernel_rfl) (by kernel_rfl) (by kernel_rfl) (fun _ _ _ h => h) (Or.inl ⟨by rfl, ?_⟩) (by assumption) ?_
                  rotate_left
                  · (intro ww hSw; (try dsimp only at hSw); go_simp; try with_reducible rfl)
                  (try simp only [Act.put, List.setIfInBounds_toArray, List.set_cons_zero, List.set_cons_succ])
                  refine wpAnyH_done (by kernel_rfl) ?_ _
                  refine NoPanic.normal ?_
                  go_wp2_with fail
                  go_meet
                  case rel => exact ⟨_, rfl, rfl, kp_cons hS (And.left hHeld)⟩
              · have hnw := (And.left hHeld).2.2
                have hne := fun x hx => (And.left hHeld).ne x hx
                go_simp
                refine hK.out _ _ (HKR.out _ ((And.left hHeld).alloc _)) (fun hHeld => ?_)
                clear hK K
                (try simp only [Act.put, List.setIfInBounds_toArray, List.set_cons_zero, List.set_cons_succ])
                have hA := bk_new (wA) 32 ([.int .u8 0, .int .u8 0, .int .u8 0, .int .u8 0, .int .i64 0] : List Value).toArray
                refine wpAnyH_ready (rs := [6]) (by kernel_rfl) (by simp) ?_
                refine AllReadyH.cons (o := { dst := some 111, op := Op.call { callee := Callee.value (Operand.func 38), args := #[Operand.tmp 110], argTypes := #[3] }, type := 9, pos := "more.go:29", after := #[{ on := 5, ground := Ground.data }, { on := 2, ground := Ground.chain }], guard := none }) rfl (fun K hK => ?_) AllReadyH.nil
                go_simp
                ((with_reducible refine (CI4.out _ (HW.out.below (kp_bel (And.left hHeld)))).mono ?_); rintro e wB ⟨rfl, hb9⟩)
                refine hK.out _ _ (HKR.out _ ((And.left hHeld).below hb9 (Nat.le_refl _))) (fun hHeld => ?_)
                clear hK K
                (try simp only [Act.put, List.setIfInBounds_toArray, List.set_cons_zero, List.set_cons_succ])
                have hA := hA.below hb9 hA.lt
                refine wpAnyH_take (i := 7) (oi := { dst := some 112, op := Op.binOp BinOp.add 9 (Operand.tmp 108) (Operand.tmp 111) 9, type := 9, pos := "more.go:29", after := #[{ on := 3, ground := Ground.data }, { on := 6, ground := Ground.data }], guard := none }) (v := ?_) rfl (by kernel_rfl) (by kernel_rfl) (by kernel_rfl) (fun _ _ _ h => h) (Or.inl ⟨by rfl, ?_⟩) (by assumption) ?_
                rotate_left
                · (intro ww hSw; (try dsimp only at hSw); go_simp; try with_reducible rfl)
                (try simp only [Act.put, List.setIfInBounds_toArray, List.set_cons_zero, List.set_cons_succ])
                refine wpAnyH_ready (rs := [8]) (by kernel_rfl) (by simp) ?_
                refine AllReadyH.cons (o := { dst := some 113, op := Op.call { callee := Callee.value (Operand.func 15), args := #[Operand.tmp 112], argTypes := #[9] }, type := 33, pos := "more.go:29", after := #[{ on := 7, ground := Ground.data }, { on := 6, ground := Ground.chain }], guard := none }) rfl (fun K hK => ?_) AllReadyH.nil
                go_simp
                ((with_reducible refine (CMx.out _ (HW.out.below (kp_bel (And.left hHeld)))).mono ?_); rintro e wC ⟨rfl, hb9⟩)
                refine hK.out _ _ (HKR.out _ ((And.left hHeld).below hb9 (Nat.le_refl _))) (fun hHeld => ?_)
                clear hK K
                (try simp only [Act.put, List.setIfInBounds_toArray, List.set_cons_zero, List.set_cons_succ])
                have hA := hA.below hb9 hA.lt
                refine wpAnyH_take (i := 9) (oi := { dst := some 104, op := Op.move (Operand.tmp 113), type := 33, pos := "more.go:29", after := #[{ on := 8, ground := Ground.data }], guard := none }) (v := ?_) rfl (by kernel_rfl) (by kernel_rfl) (by kernel_rfl) (fun _ _ _ h => h) (Or.inl ⟨by rfl, ?_⟩) (by assumption) ?_
                rotate_left
                · (intro ww hSw; (try dsimp only at hSw); go_simp; try with_reducible rfl)
                (try simp only [Act.put, List.setIfInBounds_toArray, List.set_cons_zero, List.set_cons_succ])
                refine wpAnyH_take (i := 10) (oi := { dst := some 114, op := Op.extract (Operand.tmp 104) 0, type := 32, pos := "more.go:29", after := #[{ on := 9, ground := Ground.data }], guard := none }) (v := ?_) rfl (by kernel_rfl) (by kernel_rfl) (by kernel_rfl) (fun _ _ _ h => h) (Or.inl ⟨by rfl, ?_⟩) (by assumption) ?_
                rotate_left
                · (intro ww hSw; (try dsimp only at hSw); go_simp; try with_reducible rfl)
                (try simp only [Act.put, List.setIfInBounds_toArray, List.set_cons_zero, List.set_cons_succ])
                refine wpAnyH_take (i := 11) (oi := { dst := some 115, op := Op.extract (Operand.tmp 104) 1, type := 4, pos := "more.go:29", after := #[{ on := 9, ground := Ground.data }, { on := 13, ground := Ground.gcOnly Departure.lateStores }], guard := none }) (v := ?_) rfl (by kernel_rfl) (by kernel_rfl) (by kernel_rfl) (fun _ _ _ h => h) (Or.inl ⟨by rfl, ?_⟩) (by assumption) ?_
                rotate_left
                · (intro ww hSw; (try dsimp only at hSw); go_simp; try with_reducible rfl)
                (try simp only [Act.put, List.setIfInBounds_toArray, List.set_cons_zero, List.set_cons_succ])
                refine wpAnyH_ready (rs := [13]) (by kernel_rfl) (by simp) ?_
                refine AllReadyH.cons (o := { dst := none, op := Op.store 32 (Operand.tmp 19) (Operand.tmp 114), type := 0, pos := "more.go:29", after := #[{ on := 12, ground := Ground.data }, { on := 10, ground := Ground.data }, { on := 8, ground := Ground.chain }, { on := 0, ground := Ground.phase }, { on := 1, ground := Ground.phase }, { on := 2, ground := Ground.phase }, { on := 3, ground := Ground.phase }, { on := 4, ground := Ground.phase }, { on := 5, ground := Ground.phase }, { on := 6, ground := Ground.phase }, { on := 7, ground := Ground.phase }, { on := 8, ground := Ground.phase }, { on := 9, ground := Ground.phase }, { on := 10, ground := Ground.phase }, { on := 11, ground := Ground.textOnly Departure.lateStores }, { on := 12, ground := Ground.phase }], guard := none }) rfl (fun K hK => ?_) AllReadyH.nil
                rw [if_pos (by rfl)]
                have hS := Bk.sets Z4N 0 _ _ hA
                rw [puts_whole ([.int .u8 0, .int .u8 0, .int .u8 0, .int .u8 0, .int .i64 0] : List Value).toArray Z4N (by have := HL_Z4N.out; simp; omega)] at hS
                refine wp_store_mid 32 _ _ rfl (wA).heap.size 0 Z4N.toArray rfl rfl (hA.there _ (by have := HL_Z4N.out; simp; omega)) (by simpa using HI_Z4N.out) HO_Z4N.out ?_
                refine hK.out _ _ (HKR.out _ ((And.left hHeld).sets hne hnw 0 Z4N)) (fun hHeld => ?_)
                clear hK K
                (try simp only [Act.put])
                refine wpAnyH_take (i := 14) (oi := { dst := some 20, op := Op.assign (Operand.tmp 115), type := 4, pos := "more.go:29", after := #[{ on := 11, ground := Ground.data }, { on := 13, ground := Ground.chain }, { on := 0, ground := Ground.phase }, { on := 1, ground := Ground.phase }, { on := 2, ground := Ground.phase }, { on := 3, ground := Ground.phase }, { on := 4, ground := Ground.phase }, { on := 5, ground := Ground.phase }, { on := 6, ground := Ground.phase }, { on := 7, ground := Ground.phase }, { on := 8, ground := Ground.phase }, { on := 9, ground := Ground.phase }, { on := 10, ground := Ground.phase }, { on := 11, ground := Ground.phase }, { on := 12, ground := Ground.phase }, { on := 13, ground := Ground.phase }], guard := none }) (v := ?_) rfl (by kernel_rfl) (by kernel_rfl) (by kernel_rfl) (fun _ _ _ h => h) (Or.inl ⟨by rfl, ?_⟩) (by assumption) ?_
                rotate_left
                · (intro ww hSw; (try dsimp only at hSw); go_simp; try with_reducible rfl)
                (try simp only [Act.put, List.setIfInBounds_toArray, List.set_cons_zero, List.set_cons_succ])
                refine wpAnyH_done (by kernel_rfl) ?_ _
                refine NoPanic.normal ?_
                go_wp2_with fail
                go_meet
                case rel => exact ⟨_, rfl, rfl, kp_cons hS (And.left hHeld)⟩
            · have hnw := (And.left hHeld).2.2
              have hne := fun x hx => (And.left hHeld).ne x hx
              go_simp
              refine hK.out _ _ (HKR.out _ ((And.left hHeld).alloc _)) (fun hHeld => ?_)
              clear hK K
              (try simp only [Act.put, List.setIfInBounds_toArray, List.set_cons_zero, List.set_cons_succ])
              have hA := bk_new (wK.drew) 32 ([.int .u8 0, .int .u8 0, .int .u8 0, .int .u8 0, .int .i64 0] : List Value).toArray
              refine wpAnyH_ready (rs := [2]) (by kernel_rfl) (by simp) ?_
              refine AllReadyH.cons (o := { dst := some 107, op := Op.call { callee := Callee.value (Operand.func 32), args := #[Operand.tmp 106], argTypes := #[28] }, type := 9, pos := "more.go:29", after := #[{ on := 1, ground := Ground.data }], guard := none }) rfl (fun K hK => ?_) AllReadyH.nil
              go_simp
              ((with_reducible refine (CU4.out _ (HW.out.below (kp_bel (And.left hHeld)))).mono ?_); rintro e wA ⟨rfl, hb9⟩)
              refine hK.out _ _ (HKR.out _ ((And.left hHeld).below hb9 (Nat.le_refl _))) (fun hHeld => ?_)
              clear hK K
              (try simp only [Act.put, List.setIfInBounds_toArray, List.set_cons_zero, List.set_cons_succ])
              have hA := hA.below hb9 hA.lt
              refine wpAnyH_take (i := 3) (oi := { dst := some 108, op := Op.binOp BinOp.add 9 (Operand.tmp 107) (Operand.const (Value.string { data := #[47] })) 9, type := 9, pos := "more.go:29", after := #[{ on := 2, ground := Ground.data }], guard := none }) (v := ?_) rfl (by kernel_rfl) (by kernel_rfl) (by kernel_rfl) (fun _ _ _ h => h) (Or.inl ⟨by rfl, ?_⟩) (by assumption) ?_
              rotate_left
              · (intro ww hSw; (try dsimp only at hSw); go_simp; try with_reducible rfl)
              (try simp only [Act.put, List.setIfInBounds_toArray, List.set_cons_zero, List.set_cons_succ])
              refine wpAnyH_ready (rs := [6]) (by kernel_rfl) (by simp) ?_
              refine AllReadyH.cons (o := { dst := some 111, op := Op.call { callee := Callee.value (Operand.func 38), args := #[Operand.tmp 110], argTypes := #[3] }, type := 9, pos := "more.go:29", after := #[{ on := 5, ground := Ground.data }, { on := 2, ground := Ground.chain }], guard := none }) rfl (fun K hK => ?_) AllReadyH.nil
              go_simp
              ((with_reducible refine (CI4.out _ (HW.out.below (kp_bel (And.left hHeld)))).mono ?_); rintro e wB ⟨rfl, hb9⟩)
              refine hK.out _ _ (HKR.out _ ((And.left hHeld).below hb9 (Nat.le_refl _))) (fun hHeld => ?_)
              clear hK K
              (try simp only [Act.put, List.setIfInBounds_toArray, List.set_cons_zero, List.set_cons_succ])
              have hA := hA.below hb9 hA.lt
              refine wpAnyH_take (i := 7) (oi := { dst := some 112, op := Op.binOp BinOp.add 9 (Operand.tmp 108) (Operand.tmp 111) 9, type := 9, pos := "more.go:29", after := #[{ on := 3, ground := Ground.data }, { on := 6, ground := Ground.data }], guard := none }) (v := ?_) rfl (by kernel_rfl) (by kernel_rfl) (by kernel_rfl) (fun _ _ _ h => h) (Or.inl ⟨by rfl, ?_⟩) (by assumption) ?_
              rotate_left
              · (intro ww hSw; (try dsimp only at hSw); go_simp; try with_reducible rfl)
              (try simp only [Act.put, List.setIfInBounds_toArray, List.set_cons_zero, List.set_cons_succ])
              refine wpAnyH_ready (rs := [8]) (by kernel_rfl) (by simp) ?_
              refine AllReadyH.cons (o := { dst := some 113, op := Op.call { callee := Callee.value (Operand.func 15), args := #[Operand.tmp 112], argTypes := #[9] }, type := 33, pos := "more.go:29", after := #[{ on := 7, ground := Ground.data }, { on := 6, ground := Ground.chain }], guard := none }) rfl (fun K hK => ?_) AllReadyH.nil
              go_simp
              ((with_reducible refine (CMx.out _ (HW.out.below (kp_bel (And.left hHeld)))).mono ?_); rintro e wC ⟨rfl, hb9⟩)
              refine hK.out _ _ (HKR.out _ ((And.left hHeld).below hb9 (Nat.le_refl _))) (fun hHeld => ?_)
              clear hK K
              (try simp only [Act.put, List.setIfInBounds_toArray, List.set_cons_zero, List.set_cons_succ])
              have hA := hA.below hb9 hA.lt
              refine wpAnyH_take (i := 9) (oi := { dst := some 104, op := Op.move (Operand.tmp 113), type := 33, pos := "more.go:29", after := #[{ on := 8, ground := Ground.data }], guard := none }) (v := ?_) rfl (by kernel_rfl) (by kernel_rfl) (by kernel_rfl) (fun _ _ _ h => h) (Or.inl ⟨by rfl, ?_⟩) (by assumption) ?_
              rotate_left
              · (intro ww hSw; (try dsimp only at hSw); go_simp; try with_reducible rfl)
              (try simp only [Act.put, List.setIfInBounds_toArray, List.set_cons_zero, List.set_cons_succ])
              refine wpAnyH_take (i := 10) (oi := { dst := some 114, op := Op.extract (Operand.tmp 104) 0, type := 32, pos := "more.go:29", after := #[{ on := 9, ground := Ground.data }], guard := none }) (v := ?_) rfl (by kernel_rfl) (by kernel_rfl) (by kernel_rfl) (fun _ _ _ h => h) (Or.inl ⟨by rfl, ?_⟩) (by assumption) ?_
              rotate_left
              · (intro ww hSw; (try dsimp only at hSw); go_simp; try with_reducible rfl)
              (try simp only [Act.put, List.setIfInBounds_toArray, List.set_cons_zero, List.set_cons_succ])
              refine wpAnyH_take (i := 11) (oi := { dst := some 115, op := Op.extract (Operand.tmp 104) 1, type := 4, pos := "more.go:29", after := #[{ on := 9, ground := Ground.data }, { on := 13, ground := Ground.gcOnly Departure.lateStores }], guard := none }) (v := ?_) rfl (by kernel_rfl) (by kernel_rfl) (by kernel_rfl) (fun _ _ _ h => h) (Or.inl ⟨by rfl, ?_⟩) (by assumption) ?_
              rotate_left
              · (intro ww hSw; (try dsimp only at hSw); go_simp; try with_reducible rfl)
              (try simp only [Act.put, List.setIfInBounds_toArray, List.set_cons_zero, List.set_cons_succ])
              refine wpAnyH_ready (rs := [13]) (by kernel_rfl) (by simp) ?_
              refine AllReadyH.cons (o := { dst := none, op := Op.store 32 (Operand.tmp 19) (Operand.tmp 114), type := 0, pos := "more.go:29", after := #[{ on := 12, ground := Ground.data }, { on := 10, ground := Ground.data }, { on := 8, ground := Ground.chain }, { on := 0, ground := Ground.phase }, { on := 1, ground := Ground.phase }, { on := 2, ground := Ground.phase }, { on := 3, ground := Ground.phase }, { on := 4, ground := Ground.phase }, { on := 5, ground := Ground.phase }, { on := 6, ground := Ground.phase }, { on := 7, ground := Ground.phase }, { on := 8, ground := Ground.phase }, { on := 9, ground := Ground.phase }, { on := 10, ground := Ground.phase }, { on := 11, ground := Ground.textOnly Departure.lateStores }, { on := 12, ground := Ground.phase }], guard := none }) rfl (fun K hK => ?_) AllReadyH.nil
              rw [if_pos (by rfl)]
              have hS := Bk.sets Z4N 0 _ _ hA
              rw [puts_whole ([.int .u8 0, .int .u8 0, .int .u8 0, .int .u8 0, .int .i64 0] : List Value).toArray Z4N (by have := HL_Z4N.out; simp; omega)] at hS
              refine wp_store_mid 32 _ _ rfl (wK.drew).heap.size 0 Z4N.toArray rfl rfl (hA.there _ (by have := HL_Z4N.out; simp; omega)) (by simpa using HI_Z4N.out) HO_Z4N.out ?_
              refine hK.out _ _ (HKR.out _ ((And.left hHeld).sets hne hnw 0 Z4N)) (fun hHeld => ?_)
              clear hK K
              (try simp only [Act.put])
              refine wpAnyH_take (i := 14) (oi := { dst := some 20, op := Op.assign (Operand.tmp 115), type := 4, pos := "more.go:29", after := #[{ on := 11, ground := Ground.data }, { on := 13, ground := Ground.chain }, { on := 0, ground := Ground.phase }, { on := 1, ground := Ground.phase }, { on := 2, ground := Ground.phase }, { on := 3, ground := Ground.phase }, { on := 4, ground := Ground.phase }, { on := 5, ground := Ground.phase }, { on := 6, ground := Ground.phase }, { on := 7, ground := Ground.phase }, { on := 8, ground := Ground.phase }, { on := 9, ground := Ground.phase }, { on := 10, ground := Ground.phase }, { on := 11, ground := Ground.phase }, { on := 12, ground := Ground.phase }, { on := 13, ground := Ground.phase }], guard := none }) (v := ?_) rfl (by kernel_rfl) (by kernel_rfl) (by kernel_rfl) (fun _ _ _ h => h) (Or.inl ⟨by rfl, ?_⟩) (by assumption) ?_
              rotate_left
              · (intro ww hSw; (try dsimp only at hSw); go_simp; try with_reducible rfl)
              (try simp only [Act.put, List.setIfInBounds_toArray, List.set_cons_zero, List.set_cons_succ])
              refine wpAnyH_done (by kernel_rfl) ?_ _
              refine NoPanic.normal ?_
              go_wp2_with fail
              go_meet
              case rel => exact ⟨_, rfl, rfl, kp_cons hS (And.left hHeld)⟩
          case rest =>
            obtain ⟨b7, rfl, rfl, hK9⟩ := hcut
            have HKt := Lib.hid hK9
            clear hK9 HKs HKR
            have HKs := HKt
            clear HKt
            go_wp2_with fail
            go_meet
            case rel => exact kp_pick HKs.out (by simp)
        · have cl := (HR4.out g1 _ HKs.out.hd).2
          have il : ¬ ((n : Nat) : Int) < 32 := by omega
          clear hlt
          go_wp2_with fail
          go_meet
          case rel => exact kp_pick HKs.out (by simp)
      case rest =>
        clear HKs
        have HKs := Lib.hid hcut
        clear hcut
        by_cases hlt : m < 128
        · skip
          have cl := (HR6.out g2 _ HKs.out.hd).2
          have il : ((m : Nat) : Int) < 128 := by omega
          have ce := HE6.out g2 _ HKs.out.hd
          have cz := HKs.out.hd.z 15
          have hl := HL6.out
          have hk2 := HKs.out.set1 (by intro z hz; simp at hz; try (subst hz; have := HGG.out; show _ ≠ g2; omega)) HBg2.out 15 (.int .u8 ((last1 e6).toNat : Int))
          rw [HS6.out] at hk2
          have HKm := Lib.hid hk2
          have CMx := Lib.hid (CM6.out hlt)
          clear hk2 hlt
          go_upto_region 20 with (fail)
          clear cl il ce cz hl HKs
          try simp only [Act.put]
          generalize hw9 : World.setCell _ ⟨g2, 15, none⟩ (.int .u8 ((last1 e6).toNat : Int)) = w9 at *
          clear hw9
          have HKs := HKm
          clear HKm
          have HKR : Hid (∀ W : World, Kp w w.heap.size [(g2, 36, Q6)] W → (fun w' => Kp w w.heap.size [(g2, 36, Q6)] w' ∧ w'.rangeAt g2 0 S6 ∧ w'.cell? ⟨g2, 16, none⟩ = some (.int .i64 (m : Int))) W) := Lib.hid (fun W k => ⟨k, HQ6.out g2 W k.hd⟩)
          go_upto_region 20 with (fail)
          try simp only [Act.put]
          go_cut [21, 22] (fun p9 o9 w' => ∃ b9 : Nat, p9 = .pointer (some ⟨b9, 0, none⟩) ∧ o9 = .bool false ∧ Kp w w.heap.size ((b9, 36, Z6N) :: [(g2, 36, Q6)]) w')
          case first =>
            generalize w9 = wK at *
            have zd := ZD6.out
            have ze := ZE6.out
            refine wp_region_noPanic ?_
            refine wp_region_held_drew (S := fun w' => Kp w w.heap.size [(g2, 36, Q6)] w' ∧ w'.rangeAt g2 0 S6 ∧ w'.cell? ⟨g2, 16, none⟩ = some (.int .i64 (m : Int))) (by kernel_rfl) (HKR.out _ HKs.out.drew) (fun hHeld => ?_)
            refine wpAnyH_take (i := 0) (oi := { dst := some 127, op := Op.fieldAddr 36 (Operand.tmp 10) 0, type := 0, pos := "more.go:36", after := #[], guard := none }) (v := ?_) rfl (by kernel_rfl) (by kernel_rfl) (by kernel_rfl) (fun _ _ _ h => h) (Or.inl ⟨by rfl, ?_⟩) (by assumption) ?_
            rotate_left
            · (intro ww hSw; (try dsimp only at hSw); go_simp; try with_reducible rfl)
            (try simp only [Act.put, List.setIfInBounds_toArray, List.set_cons_zero, List.set_cons_succ])
            refine wpAnyH_take (i := 1) (oi := { dst := some 128, op := Op.load 24 (Operand.tmp 127), type := 24, pos := "more.go:36", after := #[{ on := 0, ground := Ground.data }], guard := none }) (v := .agg (S6).toArray) rfl (by kernel_rfl) (by kernel_rfl) (by kernel_rfl) (fun _ _ _ h => h) (yieldsIf_load_mid (by rfl) _ _ rfl (g2) 0 rfl (S6) _ (fun ww hSw => hSw.2.1) Tryd.underlying24 rfl HI_S6.out) (by assumption) ?_
            (try simp only [Act.put, List.setIfInBounds_toArray, List.set_cons_zero, List.set_cons_succ])
            refine wpAnyH_take (i := 4) (oi := { dst := some 131, op := Op.fieldAddr 36 (Operand.tmp 10) 1, type := 0, pos := "more.go:36", after := #[], guard := none }) (v := ?_) rfl (by kernel_rfl) (by kernel_rfl) (by kernel_rfl) (fun _ _ _ h => h) (Or.inl ⟨by rfl, ?_⟩) (by assumption) ?_
            rotate_left
            · (intro ww hSw; (try dsimp only at hSw); go_simp; try with_reducible rfl)
            (try simp only [Act.put, List.setIfInBounds_toArray, List.set_cons_zero, List.set_cons_succ])
            refine wpAnyH_take (i := 5) (oi := { dst := some 132, op := Op.load 3 (Operand.tmp 131), type := 3, pos := "more.go:36", after := #[{ on := 4, ground := Ground.data }], guard := none }) (v := ?_) rfl (by kernel_rfl) (by kernel_rfl) (by kernel_rfl) (fun _ _ _ h => h) (Or.inl ⟨by rfl, ?_⟩) (by assumption) ?_
            rotate_left
            · (intro ww hSw; have cq := hSw.2.2; go_simp; try with_reducible rfl)
            (try simp only [Act.put, List.setIfInBounds_toArray, List.set_cons_zero, List.set_cons_succ])
            refine wpAnyH_ready (rs := [2, 12]) (by kernel_rfl) (by simp) ?_
            refine AllReadyH.cons (o := { dst := some 129, op := Op.call { callee := Callee.value (Operand.func 12), args := #[Operand.tmp 128], argTypes := #[24] }, type := 9, pos := "more.go:36", after := #[{ on := 1, ground := Ground.data }], guard := none }) rfl (fun K hK => ?_) (AllReadyH.cons (o := { dst := some 21, op := Op.alloc 36, type := 0, pos := "more.go:36", after := #[], guard := none }) rfl (fun K hK => ?_) AllReadyH.nil)
            · go_simp
              ((with_reducible refine (CU6.out _ (HW.out.below (kp_bel (And.left hHeld)))).mono ?_); rintro e wA ⟨rfl, hb9⟩)
              refine hK.out _ _ (HKR.out _ ((And.left hHeld).below hb9 (Nat.le_refl _))) (fun hHeld => ?_)
              clear hK K
              (try simp only [Act.put, List.setIfInBounds_toArray, List.set_cons_zero, List.set_cons_succ])
              refine wpAnyH_take (i := 3) (oi := { dst := some 130, op := Op.binOp BinOp.add 9 (Operand.tmp 129) (Operand.const (Value.string { data := #[47] })) 9, type := 9, pos := "more.go:36", after := #[{ on := 2, ground := Ground.data }], guard := none }) (v := ?_) rfl (by kernel_rfl) (by kernel_rfl) (by kernel_rfl) (fun _ _ _ h => h) (Or.inl ⟨by rfl, ?_⟩) (by assumption) ?_
              rotate_left
              · (intro ww hSw; (try dsimp only at hSw); go_simp; try with_reducible rfl)
              (try simp only [Act.put, List.setIfInBounds_toArray, List.set_cons_zero, List.set_cons_succ])
              refine wpAnyH_ready (rs := [6, 12]) (by kernel_rfl) (by simp) ?_
              refine AllReadyH.cons (o := { dst := some 133, op := Op.call { callee := Callee.value (Operand.func 38), args := #[Operand.tmp 132], argTypes := #[3] }, type := 9, pos := "more.go:36", after := #[{ on := 5, ground := Ground.data }, { on := 2, ground := Ground.chain }], guard := none }) rfl (fun K hK => ?_) (AllReadyH.cons (o := { dst := some 21, op := Op.alloc 36, type := 0, pos := "more.go:36", after := #[], guard := none }) rfl (fun K hK => ?_) AllReadyH.nil)
              · go_simp
                ((with_reducible refine (CI6.out _ (HW.out.below (kp_bel (And.left hHeld)))).mono ?_); rintro e wB ⟨rfl, hb9⟩)
                refine hK.out _ _ (HKR.out _ ((And.left hHeld).below hb9 (Nat.le_refl _))) (fun hHeld => ?_)
                clear hK K
                (try simp only [Act.put, List.setIfInBounds_toArray, List.set_cons_zero, List.set_cons_succ])
                refine wpAnyH_take (i := 7) (oi := { dst := some 134, op := Op.binOp BinOp.add 9 (Operand.tmp 130) (Operand.tmp 133) 9, type := 9, pos := "more.go:36", after := #[{ on := 3, ground := Ground.data }, { on := 6, ground := Ground.data }], guard := none }) (v := ?_) rfl (by kernel_rfl) (by kernel_rfl) (by kernel_rfl) (fun _ _ _ h => h) (Or.inl ⟨by rfl, ?_⟩) (by assumption) ?_
                rotate_left
                · (intro ww hSw; (try dsimp only at hSw); go_simp; try with_reducible rfl)
                (try simp only [Act.put, List.setIfInBounds_toArray, List.set_cons_zero, List.set_cons_succ])
                refine wpAnyH_ready (rs := [8, 12]) (by kernel_rfl) (by simp) ?_
                refine AllReadyH.cons (o := { dst := some 135, op := Op.call { callee := Callee.value (Operand.func 16), args := #[Operand.tmp 134], argTypes := #[9] }, type := 37, pos := "more.go:36", after := #[{ on := 7, ground := Ground.data }, { on := 6, ground := Ground.chain }], guard := none }) rfl (fun K hK => ?_) (AllReadyH.cons (o := { dst := some 21, op := Op.alloc 36, type := 0, pos := "more.go:36", after := #[], guard := none }) rfl (fun K hK => ?_) AllReadyH.nil)
                · go_simp
                  ((with_reducible refine (CMx.out _ (HW.out.below (kp_bel (And.left hHeld)))).mono ?_); rintro e wC ⟨rfl, hb9⟩)
                  refine hK.out _ _ (HKR.out _ ((And.left hHeld).below hb9 (Nat.le_refl _))) (fun hHeld => ?_)
                  clear hK K
                  (try simp only [Act.put, List.setIfInBounds_toArray, List.set_cons_zero, List.set_cons_succ])
                  refine wpAnyH_take (i := 9) (oi := { dst := some 126, op := Op.move (Operand.tmp 135), type := 37, pos := "more.go:36", after := #[{ on := 8, ground := Ground.data }], guard := none }) (v := ?_) rfl (by kernel_rfl) (by kernel_rfl) (by kernel_rfl) (fun _ _ _ h => h) (Or.inl ⟨by rfl, ?_⟩) (by assumption) ?_
                  rotate_left
                  · (intro ww hSw; (try dsimp only at hSw); go_simp; try with_reducible rfl)
                  (try simp only [Act.put, List.setIfInBounds_toArray, List.set_cons_zero, List.set_cons_succ])
                  refine wpAnyH_take (i := 10) (oi := { dst := some 136, op := Op.extract (Operand.tmp 126) 0, type := 36, pos := "more.go:36", after := #[{ on := 9, ground := Ground.data }], guard := none }) (v := ?_) rfl (by kernel_rfl) (by kernel_rfl) (by kernel_rfl) (fun _ _ _ h => h) (Or.inl ⟨by rfl, ?_⟩) (by assumption) ?_
                  rotate_left
                  · (intro ww hSw; (try dsimp only at hSw); go_simp; try with_reducible rfl)
                  (try simp only [Act.put, List.setIfInBounds_toArray, List.set_cons_zero, List.set_cons_succ])
                  refine wpAnyH_take (i := 11) (oi := { dst := some 137, op := Op.extract (Operand.tmp 126) 1, type := 4, pos := "more.go:36", after := #[{ on := 9, ground := Ground.data }, { on := 13, ground := Ground.gcOnly Departure.lateStores }], guard := none }) (v := ?_) rfl (by kernel_rfl) (by kernel_rfl) (by kernel_rfl) (fun _ _ _ h => h) (Or.inl ⟨by rfl, ?_⟩) (by assumption) ?_
                  rotate_left
                  · (intro ww hSw; (try dsimp only at hSw); go_simp; try with_reducible rfl)
                  (try simp only [Act.put, List.setIfInBounds_toArray, List.set_cons_zero, List.set_cons_succ])
                  refine wpAnyH_ready (rs := [12]) (by kernel_rfl) (by simp) ?_
                  refine AllReadyH.cons (o := { dst := some 21, op := Op.alloc 36, type := 0, pos := "more.go:36", after := #[], guard := none }) rfl (fun K hK => ?_) AllReadyH.nil
                  have hnw := (And.left hHeld).2.2
                  have hne := fun x hx => (And.left hHeld).ne x hx
                  go_simp
                  refine hK.out _ _ (HKR.out _ ((And.left hHeld).alloc _)) (fun hHeld => ?_)
                  clear hK K
                  (try simp only [Act.put, List.setIfInBounds_toArray, List.set_cons_zero, List.set_cons_succ])
                  have hA := bk_new (wC) 36 ([.int .u8 0, .int .u8 0, .int .u8 0, .int .u8 0, .int .u8 0, .int .u8 0, .int .u8 0, .int .u8 0, .int .u8 0, .int .u8 0, .int .u8 0, .int .u8 0, .int .u8 0, .int .u8 0, .int .u8 0, .int .u8 0, .int .i64 0] : List Value).toArray
                  refine wpAnyH_ready (rs := [13]) (by kernel_rfl) (by simp) ?_
                  refine AllReadyH.cons (o := { dst := none, op := Op.store 36 (Operand.tmp 21) (Operand.tmp 136), type := 0, pos := "more.go:36", after := #[{ on := 12, ground := Ground.data }, { on := 10, ground := Ground.data }, { on := 8, ground := Ground.chain }, { on := 0, ground := Ground.phase }, { on := 1, ground := Ground.phase }, { on := 2, ground := Ground.phase }, { on := 3, ground := Ground.phase }, { on := 4, ground := Ground.phase }, { on := 5, ground := Ground.phase }, { on := 6, ground := Ground.phase }, { on := 7, ground := Ground.phase }, { on := 8, ground := Ground.phase }, { on := 9, ground := Ground.phase }, { on := 10, ground := Ground.phase }, { on := 11, ground := Ground.textOnly Departure.lateStores }, { on := 12, ground := Ground.phase }], guard := none }) rfl (fun K hK => ?_) AllReadyH.nil
                  rw [if_pos (by rfl)]
                  have hS := Bk.sets Z6N 0 _ _ hA
                  rw [puts_whole ([.int .u8 0, .int .u8 0, .int .u8 0, .int .u8 0, .int .u8 0, .int .u8 0, .int .u8 0, .int .u8 0, .int .u8 0, .int .u8 0, .int .u8 0, .int .u8 0, .int .u8 0, .int .u8 0, .int .u8 0, .int .u8 0, .int .i64 0] : List Value).toArray Z6N (by have := HL_Z6N.out; simp; omega)] at hS
                  refine wp_store_mid 36 _ _ rfl (wC).heap.size 0 Z6N.toArray rfl rfl (hA.there _ (by have := HL_Z6N.out; simp; omega)) (by simpa using HI_Z6N.out) HO_Z6N.out ?_
                  refine hK.out _ _ (HKR.out _ ((And.left hHeld).sets hne hnw 0 Z6N)) (fun hHeld => ?_)
                  clear hK K
                  (try simp only [Act.put])
                  refine wpAnyH_take (i := 14) (oi := { dst := some 22, op := Op.assign (Operand.tmp 137), type := 4, pos := "more.go:36", after := #[{ on := 11, ground := Ground.data }, { on := 13, ground := Ground.chain }, { on := 0, ground := Ground.phase }, { on := 1, ground := Ground.phase }, { on := 2, ground := Ground.phase }, { on := 3, ground := Ground.phase }, { on := 4, ground := Ground.phase }, { on := 5, ground := Ground.phase }, { on := 6, ground := Ground.phase }, { on := 7, ground := Ground.phase }, { on := 8, ground := Ground.phase }, { on := 9, ground := Ground.phase }, { on := 10, ground := Ground.phase }, { on := 11, ground := Ground.phase }, { on := 12, ground := Ground.phase }, { on := 13, ground := Ground.phase }], guard := none }) (v := ?_) rfl (by kernel_rfl) (by kernel_rfl) (by kernel_rfl) (fun _ _ _ h => h) (Or.inl ⟨by rfl, ?_⟩) (by assumption) ?_
                  rotate_left
                  · (intro ww hSw; (try dsimp only at hSw); go_simp; try with_reducible rfl)
                  (try simp only [Act.put, List.setIfInBounds_toArray, List.set_cons_zero, List.set_cons_succ])
                  refine wpAnyH_done (by kernel_rfl) ?_ _
                  refine NoPanic.normal ?_
                  go_wp2_with fail
                  go_meet
                  case rel => exact ⟨_, rfl, rfl, kp_cons hS (And.left hHeld)⟩
                · have hnw := (And.left hHeld).2.2
                  have hne := fun x hx => (And.left hHeld).ne x hx
                  go_simp
                  refine hK.out _ _ (HKR.out _ ((And.left hHeld).alloc _)) (fun hHeld => ?_)
                  clear hK K
                  (try simp only [Act.put, List.setIfInBounds_toArray, List.set_cons_zero, List.set_cons_succ])
                  have hA := bk_new (wB) 36 ([.int .u8 0, .int .u8 0, .int .u8 0, .int .u8 0, .int .u8 0, .int .u8 0, .int .u8 0, .int .u8 0, .int .u8 0, .int .u8 0, .int .u8 0, .int .u8 0, .int .u8 0, .int .u8 0, .int .u8 0, .int .u8 0, .int .i64 0] : List Value).toArray
                  refine wpAnyH_ready (rs := [8]) (by kernel_rfl) (by simp) ?_
                  refine AllReadyH.cons (o := { dst := some 135, op := Op.call { callee := Callee.value (Operand.func 16), args := #[Operand.tmp 134], argTypes := #[9] }, type := 37, pos := "more.go:36", after := #[{ on := 7, ground := Ground.data }, { on := 6, ground := Ground.chain }], guard := none }) rfl (fun K hK => ?_) AllReadyH.nil
                  go_simp
                  ((with_reducible refine (CMx.out _ (HW.out.below (kp_bel (And.left hHeld)))).mono ?_); rintro e wC ⟨rfl, hb9⟩)
                  refine hK.out _ _ (HKR.out _ ((And.left hHeld).below hb9 (Nat.le_refl _))) (fun hHeld => ?_)
                  clear hK K
                  (try simp only [Act.put, List.setIfInBounds_toArray, List.set_cons_zero, List.set_cons_succ])
                  have hA := hA.below hb9 hA.lt
                  refine wpAnyH_take (i := 9) (oi := { dst := some 126, op := Op.move (Operand.tmp 135), type := 37, pos := "more.go:36", after := #[{ on := 8, ground := Ground.data }], guard := none }) (v := ?_) rfl (by kernel_rfl) (by kernel_rfl) (by kernel_rfl) (fun _ _ _ h => h) (Or.inl ⟨by rfl, ?_⟩) (by assumption) ?_
                  rotate_left
                  · (intro ww hSw; (try dsimp only at hSw); go_simp; try with_reducible rfl)
                  (try simp only [Act.put, List.setIfInBounds_toArray, List.set_cons_zero, List.set_cons_succ])
                  refine wpAnyH_take (i := 10) (oi := { dst := some 136, op := Op.extract (Operand.tmp 126) 0, type := 36, pos := "more.go:36", after := #[{ on := 9, ground := Ground.data }], guard := none }) (v := ?_) rfl (by kernel_rfl) (by kernel_rfl) (by kernel_rfl) (fun _ _ _ h => h) (Or.inl ⟨by rfl, ?_⟩) (by assumption) ?_
                  rotate_left
                  · (intro ww hSw; (try dsimp only at hSw); go_simp; try with_reducible rfl)
                  (try simp only [Act.put, List.setIfInBounds_toArray, List.set_cons_zero, List.set_cons_succ])
                  refine wpAnyH_take (i := 11) (oi := { dst := some 137, op := Op.extract (Operand.tmp 126) 1, type := 4, pos := "more.go:36", after := #[{ on := 9, ground := Ground.data }, { on := 13, ground := Ground.gcOnly Departure.lateStores }], guard := none }) (v := ?_) rfl (by kernel_rfl) (by kernel_rfl) (by kernel_rfl) (fun _ _ _ h => h) (Or.inl ⟨by rfl, ?_⟩) (by assumption) ?_
                  rotate_left
                  · (intro ww hSw; (try dsimp only at hSw); go_simp; try with_reducible rfl)
                  (try simp only [Act.put, List.setIfInBounds_toArray, List.set_cons_zero, List.set_cons_succ])
                  refine wpAnyH_ready (rs := [13]) (by kernel_rfl) (by simp) ?_
                  refine AllReadyH.cons (o := { dst := none, op := Op.store 36 (Operand.tmp 21) (Operand.tmp 136), type := 0, pos := "more.go:36", after := #[{ on := 12, ground := Ground.data }, { on := 10, ground := Ground.data }, { on := 8, ground := Ground.chain }, { on := 0, ground := Ground.phase }, { on := 1, ground := Ground.phase }, { on := 2, ground := Ground.phase }, { on := 3, ground := Ground.phase }, { on := 4, ground := Ground.phase }, { on := 5, ground := Ground.phase }, { on := 6, ground := Ground.phase }, { on := 7, ground := Ground.phase }, { on := 8, ground := Ground.phase }, { on := 9, ground := Ground.phase }, { on := 10, ground := Ground.phase }, { on := 11, ground := Ground.textOnly Departure.lateStores }, { on := 12, ground := Ground.phase }], guard := none }) rfl (fun K hK => ?_) AllReadyH.nil
                  rw [if_pos (by rfl)]
                  have hS := Bk.sets Z6N 0 _ _ hA
                  rw [puts_whole ([.int .u8 0, .int .u8 0, .int .u8 0, .int .u8 0, .int .u8 0, .int .u8 0, .int .u8 0, .int .u8 0, .int .u8 0, .int .u8 0, .int .u8 0, .int .u8 0, .int .u8 0, .int .u8 0, .int .u8 0, .int .u8 0, .int .i64 0] : List Value).toArray Z6N (by have := HL_Z6N.out; simp; omega)] at hS
                  refine wp_store_mid 36 _ _ rfl (wB).heap.size 0 Z6N.toArray rfl rfl (hA.there _ (by have := HL_Z6N.out; simp; omega)) (by simpa using HI_Z6N.out) HO_Z6N.out ?_
                  refine hK.out _ _ (HKR.out _ ((And.left hHeld).sets hne hnw 0 Z6N)) (fun hHeld => ?_)
                  clear hK K
                  (try simp only [Act.put])
                  refine wpAnyH_take (i := 14) (oi := { dst := some 22, op := Op.assign (Operand.tmp 137), type := 4, pos := "more.go:36", after := #[{ on := 11, ground := Ground.data }, { on := 13, ground := Ground.chain }, { on := 0, ground := Ground.phase }, { on := 1, ground := Ground.phase }, { on := 2, ground := Ground.phase }, { on := 3, ground := Ground.phase }, { on := 4, ground := Ground.phase }, { on := 5, ground := Ground.phase }, { on := 6, ground := Ground.phase }, { on := 7, ground := Ground.phase }, { on := 8, ground := Ground.phase }, { on := 9, ground := Ground.phase }, { on := 10, ground := Ground.phase }, { on := 11, ground := Ground.phase }, { on := 12, ground := Ground.phase }, { on := 13, ground := Ground.phase }], guard := none }) (v := ?_) rfl (by kernel_rfl) (by kernel_rfl) (by kernel_rfl) (fun _ _ _ h => h) (Or.inl ⟨by rfl, ?_⟩) (by assumption) ?_
                  rotate_left
                  · (intro ww hSw; (try dsimp only at hSw); go_simp; try with_reducible rfl)
                  (try simp only [Act.put, List.setIfInBounds_toArray, List.set_cons_zero, List.set_cons_succ])
                  refine wpAnyH_done (by kernel_rfl) ?_ _
                  refine NoPanic.normal ?_
                  go_wp2_with fail
                  go_meet
                  case rel => exact ⟨_, rfl, rfl, kp_cons hS (And.left hHeld)⟩
              · have hnw := (And.left hHeld).2.2
                have hne := fun x hx => (And.left hHeld).ne x hx
                go_simp
                refine hK.out _ _ (HKR.out _ ((And.left hHeld).alloc _)) (fun hHeld => ?_)
                clear hK K
                (try simp only [Act.put, List.setIfInBounds_toArray, List.set_cons_zero, List.set_cons_succ])
                have hA := bk_new (wA) 36 ([.int .u8 0, .int .u8 0, .int .u8 0, .int .u8 0, .int .u8 0, .int .u8 0, .int .u8 0, .int .u8 0, .int .u8 0, .int .u8 0, .int .u8 0, .int .u8 0, .int .u8 0, .int .u8 0, .int .u8 0, .int .u8 0, .int .i64 0] : List Value).toArray
                refine wpAnyH_ready (rs := [6]) (by kernel_rfl) (by simp) ?_
                refine AllReadyH.cons (o := { dst := some 133, op := Op.call { callee := Callee.value (Operand.func 38), args := #[Operand.tmp 132], argTypes := #[3] }, type := 9, pos := "more.go:36", after := #[{ on := 5, ground := Ground.data }, { on := 2, ground := Ground.chain }], guard := none }) rfl (fun K hK => ?_) AllReadyH.nil
                go_simp
                ((with_reducible refine (CI6.out _ (HW.out.below (kp_bel (And.left hHeld)))).mono ?_); rintro e wB ⟨rfl, hb9⟩)
                refine hK.out _ _ (HKR.out _ ((And.left hHeld).below hb9 (Nat.le_refl _))) (fun hHeld => ?_)
                clear hK K
                (try simp only [Act.put, List.setIfInBounds_toArray, List.set_cons_zero, List.set_cons_succ])
                have hA := hA.below hb9 hA.lt
                refine wpAnyH_take (i := 7) (oi := { dst := some 134, op := Op.binOp BinOp.add 9 (Operand.tmp 130) (Operand.tmp 133) 9, type := 9, pos := "more.go:36", after := #[{ on := 3, ground := Ground.data }, { on := 6, ground := Ground.data }], guard := none }) (v := ?_) rfl (by kernel_rfl) (by kernel_rfl) (by kernel_rfl) (fun _ _ _ h => h) (Or.inl ⟨by rfl, ?_⟩) (by assumption) ?_
                rotate_left
                · (intro ww hSw; (try dsimp only at hSw); go_simp; try with_reducible rfl)
                (try simp only [Act.put, List.setIfInBounds_toArray, List.set_cons_zero, List.set_cons_succ])
                refine wpAnyH_ready (rs := [8]) (by kernel_rfl) (by simp) ?_
                refine AllReadyH.cons (o := { dst := some 135, op := Op.call { callee := Callee.value (Operand.func 16), args := #[Operand.tmp 134], argTypes := #[9] }, type := 37, pos := "more.go:36", after := #[{ on := 7, ground := Ground.data }, { on := 6, ground := Ground.chain }], guard := none }) rfl (fun K hK => ?_) AllReadyH.nil
                go_simp
                ((with_reducible refine (CMx.out _ (HW.out.below (kp_bel (And.left hHeld)))).mono ?_); rintro e wC ⟨rfl, hb9⟩)
                refine hK.out _ _ (HKR.out _ ((And.left hHeld).below hb9 (Nat.le_refl _))) (fun hHeld => ?_)
                clear hK K
                (try simp only [Act.put, List.setIfInBounds_toArray, List.set_cons_zero, List.set_cons_succ])
                have hA := hA.below hb9 hA.lt
                refine wpAnyH_take (i := 9) (oi := { dst := some 126, op := Op.move (Operand.tmp 135), type := 37, pos := "more.go:36", after := #[{ on := 8, ground := Ground.data }], guard := none }) (v := ?_) rfl (by kernel_rfl) (by kernel_rfl) (by kernel_rfl) (fun _ _ _ h => h) (Or.inl ⟨by rfl, ?_⟩) (by assumption) ?_
                rotate_left
                · (intro ww hSw; (try dsimp only at hSw); go_simp; try with_reducible rfl)
                (try simp only [Act.put, List.setIfInBounds_toArray, List.set_cons_zero, List.set_cons_succ])
                refine wpAnyH_take (i := 10) (oi := { dst := some 136, op := Op.extract (Operand.tmp 126) 0, type := 36, pos := "more.go:36", after := #[{ on := 9, ground := Ground.data }], guard := none }) (v := ?_) rfl (by kernel_rfl) (by kernel_rfl) (by kernel_rfl) (fun _ _ _ h => h) (Or.inl ⟨by rfl, ?_⟩) (by assumption) ?_
                rotate_left
                · (intro ww hSw; (try dsimp only at hSw); go_simp; try with_reducible rfl)
                (try simp only [Act.put, List.setIfInBounds_toArray, List.set_cons_zero, List.set_cons_succ])
                refine wpAnyH_take (i := 11) (oi := { dst := some 137, op := Op.extract (Operand.tmp 126) 1, type := 4, pos := "more.go:36", after := #[{ on := 9, ground := Ground.data }, { on := 13, ground := Ground.gcOnly Departure.lateStores }], guard := none }) (v := ?_) rfl (by kernel_rfl) (by kernel_rfl) (by kernel_rfl) (fun _ _ _ h => h) (Or.inl ⟨by rfl, ?_⟩) (by assumption) ?_
                rotate_left
                · (intro ww hSw; (try dsimp only at hSw); go_simp; try with_reducible rfl)
                (try simp only [Act.put, List.setIfInBounds_toArray, List.set_cons_zero, List.set_cons_succ])
                refine wpAnyH_ready (rs := [13]) (by kernel_rfl) (by simp) ?_
                refine AllReadyH.cons (o := { dst := none, op := Op.store 36 (Operand.tmp 21) (Operand.tmp 136), type := 0, pos := "more.go:36", after := #[{ on := 12, ground := Ground.data }, { on := 10, ground := Ground.data }, { on := 8, ground := Ground.chain }, { on := 0, ground := Ground.phase }, { on := 1, ground := Ground.phase }, { on := 2, ground := Ground.phase }, { on := 3, ground := Ground.phase }, { on := 4, ground := Ground.phase }, { on := 5, ground := Ground.phase }, { on := 6, ground := Ground.phase }, { on := 7, ground := Ground.phase }, { on := 8, ground := Ground.phase }, { on := 9, ground := Ground.phase }, { on := 10, ground := Ground.phase }, { on := 11, ground := Ground.textOnly Departure.lateStores }, { on := 12, ground := Ground.phase }], guard := none }) rfl (fun K hK => ?_) AllReadyH.nil
                rw [if_pos (by rfl)]
                have hS := Bk.sets Z6N 0 _ _ hA
                rw [puts_whole ([.int .u8 0, .int .u8 0, .int .u8 0, .int .u8 0, .int .u8 0, .int .u8 0, .int .u8 0, .int .u8 0, .int .u8 0, .int .u8 0, .int .u8 0, .int .u8 0, .int .u8 0, .int .u8 0, .int .u8 0, .int .u8 0, .int .i64 0] : List Value).toArray Z6N (by have := HL_Z6N.out; simp; omega)] at hS
                refine wp_store_mid 36 _ _ rfl (wA).heap.size 0 Z6N.toArray rfl rfl (hA.there _ (by have := HL_Z6N.out; simp; omega)) (by simpa using HI_Z6N.out) HO_Z6N.out ?_
                refine hK.out _ _ (HKR.out _ ((And.left hHeld).sets hne hnw 0 Z6N)) (fun hHeld => ?_)
                clear hK K
                (try simp only [Act.put])
                refine wpAnyH_take (i := 14) (oi := { dst := some 22, op := Op.assign (Operand.tmp 137), type := 4, pos := "more.go:36", after := #[{ on := 11, ground := Ground.data }, { on := 13, ground := Ground.chain }, { on := 0, ground := Ground.phase }, { on := 1, ground := Ground.phase }, { on := 2, ground := Ground.phase }, { on := 3, ground := Ground.phase }, { on := 4, ground := Ground.phase }, { on := 5, ground := Ground.phase }, { on := 6, ground := Ground.phase }, { on := 7, ground := Ground.phase }, { on := 8, ground := Ground.phase }, { on := 9, ground := Ground.phase }, { on := 10, ground := Ground.phase }, { on := 11, ground := Ground.phase }, { on := 12, ground := Ground.phase }, { on := 13, ground := Ground.phase }], guard := none }) (v := ?_) rfl (by kernel_rfl) (by kernel_rfl) (by kernel_rfl) (fun _ _ _ h => h) (Or.inl ⟨by rfl, ?_⟩) (by assumption) ?_
                rotate_left
                · (intro ww hSw; (try dsimp only at hSw); go_simp; try with_reducible rfl)
                (try simp only [Act.put, List.setIfInBounds_toArray, List.set_cons_zero, List.set_cons_succ])
                refine wpAnyH_done (by kernel_rfl) ?_ _
                refine NoPanic.normal ?_
                go_wp2_with fail
                go_meet
                case rel => exact ⟨_, rfl, rfl, kp_cons hS (And.left hHeld)⟩
            · have hnw := (And.left hHeld).2.2
              have hne := fun x hx => (And.left hHeld).ne x hx
              go_simp
              refine hK.out _ _ (HKR.out _ ((And.left hHeld).alloc _)) (fun hHeld => ?_)
              clear hK K
              (try simp only [Act.put, List.setIfInBounds_toArray, List.set_cons_zero, List.set_cons_succ])
              have hA := bk_new (wK.drew) 36 ([.int .u8 0, .int .u8 0, .int .u8 0, .int .u8 0, .int .u8 0, .int .u8 0, .int .u8 0, .int .u8 0, .int .u8 0, .int .u8 0, .int .u8 0, .int .u8 0, .int .u8 0, .int .u8 0, .int .u8 0, .int .u8 0, .int .i64 0] : List Value).toArray
              refine wpAnyH_ready (rs := [2]) (by kernel_rfl) (by simp) ?_
              refine AllReadyH.cons (o := { dst := some 129, op := Op.call { callee := Callee.value (Operand.func 12), args := #[Operand.tmp 128], argTypes := #[24] }, type := 9, pos := "more.go:36", after := #[{ on := 1, ground := Ground.data }], guard := none }) rfl (fun K hK => ?_) AllReadyH.nil
              go_simp
              ((with_reducible refine (CU6.out _ (HW.out.below (kp_bel (And.left hHeld)))).mono ?_); rintro e wA ⟨rfl, hb9⟩)
              refine hK.out _ _ (HKR.out _ ((And.left hHeld).below hb9 (Nat.le_refl _))) (fun hHeld => ?_)
              clear hK K
              (try simp only [Act.put, List.setIfInBounds_toArray, List.set_cons_zero, List.set_cons_succ])
              have hA := hA.below hb9 hA.lt
              refine wpAnyH_take (i := 3) (oi := { dst := some 130, op := Op.binOp BinOp.add 9 (Operand.tmp 129) (Operand.const (Value.string { data := #[47] })) 9, type := 9, pos := "more.go:36", after := #[{ on := 2, ground := Ground.data }], guard := none }) (v := ?_) rfl (by kernel_rfl) (by kernel_rfl) (by kernel_rfl) (fun _ _ _ h => h) (Or.inl ⟨by rfl, ?_⟩) (by assumption) ?_
              rotate_left
              · (intro ww hSw; (try dsimp only at hSw); go_simp; try with_reducible rfl)
              (try simp only [Act.put, List.setIfInBounds_toArray, List.set_cons_zero, List.set_cons_succ])
              refine wpAnyH_ready (rs := [6]) (by kernel_rfl) (by simp) ?_
              refine AllReadyH.cons (o := { dst := some 133, op := Op.call { callee := Callee.value (Operand.func 38), args := #[Operand.tmp 132], argTypes := #[3] }, type := 9, pos := "more.go:36", after := #[{ on := 5, ground := Ground.data }, { on := 2, ground := Ground.chain }], guard := none }) rfl (fun K hK => ?_) AllReadyH.nil
              go_simp
              ((with_reducible refine (CI6.out _ (HW.out.below (kp_bel (And.left hHeld)))).mono ?_); rintro e wB ⟨rfl, hb9⟩)
              refine hK.out _ _ (HKR.out _ ((And.left hHeld).below hb9 (Nat.le_refl _))) (fun hHeld => ?_)
              clear hK K
              (try simp only [Act.put, List.setIfInBounds_toArray, List.set_cons_zero, List.set_cons_succ])
              have hA := hA.below hb9 hA.lt
              refine wpAnyH_take (i := 7) (oi := { dst := some 134, op := Op.binOp BinOp.add 9 (Operand.tmp 130) (Operand.tmp 133) 9, type := 9, pos := "more.go:36", after := #[{ on := 3, ground := Ground.data }, { on := 6, ground := Ground.data }], guard := none }) (v := ?_) rfl (by kernel_rfl) (by kernel_rfl) (by kernel_rfl) (fun _ _ _ h => h) (Or.inl ⟨by rfl, ?_⟩) (by assumption) ?_
              rotate_left
              · (intro ww hSw; (try dsimp only at hSw); go_simp; try with_reducible rfl)
              (try simp only [Act.put, List.setIfInBounds_toArray, List.set_cons_zero, List.set_cons_succ])
              refine wpAnyH_ready (rs := [8]) (by kernel_rfl) (by simp) ?_
              refine AllReadyH.cons (o := { dst := some 135, op := Op.call { callee := Callee.value (Operand.func 16), args := #[Operand.tmp 134], argTypes := #[9] }, type := 37, pos := "more.go:36", after := #[{ on := 7, ground := Ground.data }, { on := 6, ground := Ground.chain }], guard := none }) rfl (fun K hK => ?_) AllReadyH.nil
              go_simp
              ((with_reducible refine (CMx.out _ (HW.out.below (kp_bel (And.left hHeld)))).mono ?_); rintro e wC ⟨rfl, hb9⟩)
              refine hK.out _ _ (HKR.out _ ((And.left hHeld).below hb9 (Nat.le_refl _))) (fun hHeld => ?_)
              clear hK K
              (try simp only [Act.put, List.setIfInBounds_toArray, List.set_cons_zero, List.set_cons_succ])
              have hA := hA.below hb9 hA.lt
              refine wpAnyH_take (i := 9) (oi := { dst := some 126, op := Op.move (Operand.tmp 135), type := 37, pos := "more.go:36", after := #[{ on := 8, ground := Ground.data }], guard := none }) (v := ?_) rfl (by kernel_rfl) (by kernel_rfl) (by kernel_rfl) (fun _ _ _ h => h) (Or.inl ⟨by rfl, ?_⟩) (by assumption) ?_
              rotate_left
              · (intro ww hSw; (try dsimp only at hSw); go_simp; try with_reducible rfl)
              (try simp only [Act.put, List.setIfInBounds_toArray, List.set_cons_zero, List.set_cons_succ])
              refine wpAnyH_take (i := 10) (oi := { dst := some 136, op := Op.extract (Operand.tmp 126) 0, type := 36, pos := "more.go:36", after := #[{ on := 9, ground := Ground.data }], guard := none }) (v := ?_) rfl (by kernel_rfl) (by kernel_rfl) (by kernel_rfl) (fun _ _ _ h => h) (Or.inl ⟨by rfl, ?_⟩) (by assumption) ?_
              rotate_left
              · (intro ww hSw; (try dsimp only at hSw); go_simp; try with_reducible rfl)
              (try simp only [Act.put, List.setIfInBounds_toArray, List.set_cons_zero, List.set_cons_succ])
              refine wpAnyH_take (i := 11) (oi := { dst := some 137, op := Op.extract (Operand.tmp 126) 1, type := 4, pos := "more.go:36", after := #[{ on := 9, ground := Ground.data }, { on := 13, ground := Ground.gcOnly Departure.lateStores }], guard := none }) (v := ?_) rfl (by kernel_rfl) (by kernel_rfl) (by kernel_rfl) (fun _ _ _ h => h) (Or.inl ⟨by rfl, ?_⟩) (by assumption) ?_
              rotate_left
              · (intro ww hSw; (try dsimp only at hSw); go_simp; try with_reducible rfl)
              (try simp only [Act.put, List.setIfInBounds_toArray, List.set_cons_zero, List.set_cons_succ])
              refine wpAnyH_ready (rs := [13]) (by kernel_rfl) (by simp) ?_
              refine AllReadyH.cons (o := { dst := none, op := Op.store 36 (Operand.tmp 21) (Operand.tmp 136), type := 0, pos := "more.go:36", after := #[{ on := 12, ground := Ground.data }, { on := 10, ground := Ground.data }, { on := 8, ground := Ground.chain }, { on := 0, ground := Ground.phase }, { on := 1, ground := Ground.phase }, { on := 2, ground := Ground.phase }, { on := 3, ground := Ground.phase }, { on := 4, ground := Ground.phase }, { on := 5, ground := Ground.phase }, { on := 6, ground := Ground.phase }, { on := 7, ground := Ground.phase }, { on := 8, ground := Ground.phase }, { on := 9, ground := Ground.phase }, { on := 10, ground := Ground.phase }, { on := 11, ground := Ground.textOnly Departure.lateStores }, { on := 12, ground := Ground.phase }], guard := none }) rfl (fun K hK => ?_) AllReadyH.nil
              rw [if_pos (by rfl)]
              have hS := Bk.sets Z6N 0 _ _ hA
              rw [puts_whole ([.int .u8 0, .int .u8 0, .int .u8 0, .int .u8 0, .int .u8 0, .int .u8 0, .int .u8 0, .int .u8 0, .int .u8 0, .int .u8 0, .int .u8 0, .int .u8 0, .int .u8 0, .int .u8 0, .int .u8 0, .int .u8 0, .int .i64 0] : List Value).toArray Z6N (by have := HL_Z6N.out; simp; omega)] at hS
              refine wp_store_mid 36 _ _ rfl (wK.drew).heap.size 0 Z6N.toArray rfl rfl (hA.there _ (by have := HL_Z6N.out; simp; omega)) (by simpa using HI_Z6N.out) HO_Z6N.out ?_
              refine hK.out _ _ (HKR.out _ ((And.left hHeld).sets hne hnw 0 Z6N)) (fun hHeld => ?_)
              clear hK K
              (try simp only [Act.put])
              refine wpAnyH_take (i := 14) (oi := { dst := some 22, op := Op.assign (Operand.tmp 137), type := 4, pos := "more.go:36", after := #[{ on := 11, ground := Ground.data }, { on := 13, ground := Ground.chain }, { on := 0, ground := Ground.phase }, { on := 1, ground := Ground.phase }, { on := 2, ground := Ground.phase }, { on := 3, ground := Ground.phase }, { on := 4, ground := Ground.phase }, { on := 5, ground := Ground.phase }, { on := 6, ground := Ground.phase }, { on := 7, ground := Ground.phase }, { on := 8, ground := Ground.phase }, { on := 9, ground := Ground.phase }, { on := 10, ground := Ground.phase }, { on := 11, ground := Ground.phase }, { on := 12, ground := Ground.phase }, { on := 13, ground := Ground.phase }], guard := none }) (v := ?_) rfl (by kernel_rfl) (by kernel_rfl) (by kernel_rfl) (fun _ _ _ h => h) (Or.inl ⟨by rfl, ?_⟩) (by assumption) ?_
              rotate_left
              · (intro ww hSw; (try dsimp only at hSw); go_simp; try with_reducible rfl)
              (try simp only [Act.put, List.setIfInBounds_toArray, List.set_cons_zero, List.set_cons_succ])
              refine wpAnyH_done (by kernel_rfl) ?_ _
              refine NoPanic.normal ?_
              go_wp2_with fail
              go_meet
              case rel => exact ⟨_, rfl, rfl, kp_cons hS (And.left hHeld)⟩
          case rest =>
            obtain ⟨b8, rfl, rfl, hK9⟩ := hcut
            have HKt := Lib.hid hK9
            clear hK9 HKs HKR
            have HKs := HKt
            clear HKt
            go_wp2_with fail
            go_ret
            exact ⟨rfl, HKs.out.2.1⟩
        · have cl := (HR6.out g2 _ HKs.out.hd).2
          have il : ¬ ((m : Nat) : Int) < 128 := by omega
          clear hlt
          go_wp2_with fail
          go_ret
          exact ⟨rfl, HKs.out.2.1⟩
end Go.Proofs.YtkkgcmfcfacakaaDoor
