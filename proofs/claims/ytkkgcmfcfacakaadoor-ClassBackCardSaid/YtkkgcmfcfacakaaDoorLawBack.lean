/-
  Proved here: the law ClassBack answers true.
  Conditions: what the library's variables hold.
-/
import Derived.Test.YtkkgcmfcfacakaaDoorPlainw
import Derived.Test.YtkkgcmfcfacakaaDoorAwakec
import Derived.Test.YtkkgcmfcfacakaaDoorSixp
namespace Go.Proofs.YtkkgcmfcfacakaaDoor
open Go.RowKit

theorem bz4v (W : World) : (Instr.build 28 #[]).run Tryd.prog W = .ok (.agg ([.int .u8 0, .int .u8 0, .int .u8 0, .int .u8 0] : List Value).toArray) W := by kernel_rfl
theorem bz6v (W : World) : (Instr.build 24 #[]).run Tryd.prog W = .ok (.agg ([.int .u8 0, .int .u8 0, .int .u8 0, .int .u8 0, .int .u8 0, .int .u8 0, .int .u8 0, .int .u8 0, .int .u8 0, .int .u8 0, .int .u8 0, .int .u8 0, .int .u8 0, .int .u8 0, .int .u8 0, .int .u8 0] : List Value).toArray) W := by kernel_rfl
set_option maxRecDepth 100000 in
set_option maxHeartbeats 8000000 in
theorem classBack_any (a x : List UInt8) (s : ByteArray) (w : World) (ha : a.length = 4) (hx : x.length = 16) (h0 : Hw w) :
    Calls Tryd.prog 7 #[.agg (bu a).toArray, .agg (bu x).toArray, .string s] w fun e w' => e = .returned (.bool true) ∧ Below w.heap.size w w' := by
  have HW := Lib.hid h0
  have CA := Lib.hid (fun W (h : Hw W) => awakec_true W h)
  have CT4 := Lib.hid (fun W (h : Hw W) => text4_any a W ha h.tb)
  have CT6 := Lib.hid (fun W (h : Hw W) => text6_any x W hx h.db)
  obtain ⟨T4, hT4⟩ : ∃ T4 : ByteArray, T4 = ⟨(txt4 a).toArray⟩ := ⟨_, rfl⟩
  obtain ⟨T6, hT6⟩ : ∃ T6 : ByteArray, T6 = ⟨(txt6 x).toArray⟩ := ⟨_, rfl⟩
  have e4 : bl T4 = txt4 a := by rw [hT4]; exact bl_mk _
  have e6 : bl T6 = txt6 x := by rw [hT6]; exact bl_mk _
  rw [← hT4] at CT4
  rw [← hT6] at CT6
  have s4 : T4.size ≤ 15 := by rw [← bl_len, e4]; exact txt4_len a ha
  have s6 : T6.size ≤ 39 := by rw [← bl_len, e6]; exact txt6_len x
  have C4 : Hid (∀ W, Calls Tryd.prog 14 #[.string T4] W fun e w' => e = .returned (.tuple #[.agg (bu a).toArray, .bool true]) ∧ Below W.heap.size W w') := Lib.hid (fun W => by
    have h := parse4_any T4 W
    rw [(txt4_back a ha T4 e4).1, (txt4_back a ha T4 e4).2, bu_of] at h
    exact h)
  have C6 : Hid (∀ W, Hw W → Calls Tryd.prog 13 #[.string T6] W fun e w' => e = .returned (.tuple #[.agg (bu x).toArray, .bool true]) ∧ Below W.heap.size W w') := Lib.hid (fun W hw => by
    have h := parse6_any T6 W (by omega) hw.ml
    rw [(txt6_back x hx T6 e6).1, (txt6_back x hx T6 e6).2, bu_of] at h
    exact h)
  have CP : Hid (∀ W, Calls Tryd.prog 33 #[.string T6] W fun e w' => e = .returned (.bool true) ∧ Below W.heap.size W w') := Lib.hid (fun W => plain_any T6 W (by rw [e6]; exact txt6_plain x))
  have i4 : ¬ (15 : Int) < (T4.size : Int) := by omega
  have i6 : ¬ (39 : Int) < (T6.size : Int) := by omega
  have i6d : decide ((39 : Int) < (T6.size : Int)) = false := decide_eq_false i6
  have n4 : ∀ W, (binOp .neq 28 (.agg (bu a).toArray) (.agg (bu a).toArray)).run Tryd.prog W = .ok (.bool false) W := fun W => by
    have h := nequ4 a a ha ha W
    rwa [show (!decide (a = a)) = false by simp] at h
  have n6 : ∀ W, (binOp .neq 24 (.agg (bu x).toArray) (.agg (bu x).toArray)).run Tryd.prog W = .ok (.bool false) W := fun W => by
    have h := nequ6 x x hx hx W
    rwa [show (!decide (x = x)) = false by simp] at h
  clear hT4 hT6 e4 e6 s4 s6
  have HI_VA : Hid ((Tryd.prog.info? 28).map (·.size) = some (bu a).length) := Lib.hid (Tryd.infoU4 _ ha)
  have HO_VA : Hid ((bu a).toArray.all (·.oneCell') = true) := Lib.hid (bu_one _)
  have HL_VA : Hid ((bu a).length = 4) := Lib.hid (by rw [bu_len]; exact ha)
  have HI_VX : Hid ((Tryd.prog.info? 24).map (·.size) = some (bu x).length) := Lib.hid (Tryd.infoU6 _ hx)
  have HO_VX : Hid ((bu x).toArray.all (·.oneCell') = true) := Lib.hid (bu_one _)
  have HL_VX : Hid ((bu x).length = 16) := Lib.hid (by rw [bu_len]; exact hx)
  have HK1 : Hid (Kp w w.heap.size [(w.heap.size + 1, 24, bu x), (w.heap.size, 28, bu a)] ((w.alloc (.cells (bu a).toArray 28)).alloc (.cells (bu x).toArray 24))) := Lib.hid (kp2 w 28 24 (bu a) (bu x))
  generalize bu a = VA at *
  generalize bu x = VX at *
  clear ha hx
  obtain ⟨A4, hA4⟩ : ∃ A4, A4 = val4u s := ⟨_, rfl⟩
  obtain ⟨A6, hA6⟩ : ∃ A6, A6 = val6u s := ⟨_, rfl⟩
  have l4 : A4.length = 4 := by rw [hA4]; exact val4u_len s
  have l6 : A6.length = 16 := by rw [hA6]; exact val6u_len s
  have HI_VB : Hid ((Tryd.prog.info? 28).map (·.size) = some (bu A4).length) := Lib.hid (Tryd.infoU4 _ l4)
  have HO_VB : Hid ((bu A4).toArray.all (·.oneCell') = true) := Lib.hid (bu_one _)
  have HL_VB : Hid ((bu A4).length = 4) := Lib.hid (by rw [bu_len]; exact l4)
  have HI_VY : Hid ((Tryd.prog.info? 24).map (·.size) = some (bu A6).length) := Lib.hid (Tryd.infoU6 _ l6)
  have HO_VY : Hid ((bu A6).toArray.all (·.oneCell') = true) := Lib.hid (bu_one _)
  have HL_VY : Hid ((bu A6).length = 16) := Lib.hid (by rw [bu_len]; exact l6)
  have HC4 : Hid (∀ W, Calls Tryd.prog 14 #[.string s] W fun e w' => e = .returned (.tuple #[.agg (bu A4).toArray, .bool (ok4 s)]) ∧ Below W.heap.size W w') := Lib.hid (fun W => by
    have h := parse4_any s W
    rw [← val4u_b8, ← hA4] at h
    exact h)
  have HC6 : Hid (s.size ≤ 300 → ∀ W, Hw W → Calls Tryd.prog 13 #[.string s] W fun e w' => e = .returned (.tuple #[.agg (bu A6).toArray, .bool (ok6 s)]) ∧ Below W.heap.size W w') := Lib.hid (fun hs W hw => by
    have h := parse6_any s W (by omega) hw.ml
    rw [← val6u_b8, ← hA6] at h
    exact h)
  have HT4 : Hid (ok4 s = true → ∀ W, Hw W → Calls Tryd.prog 32 #[.agg (bu A4).toArray] W fun e w' => e = .returned (.string s) ∧ Below W.heap.size W w') := Lib.hid (fun ho W hw => by
    have h := text4_any A4 W l4 hw.tb
    rw [hA4, txt4_again s ho] at h
    rw [hA4]
    exact h)
  have HN4 : Hid (ok4 s = false → ∀ W, (binOp .neq 28 (.agg (bu A4).toArray) (.agg ([.int .u8 0, .int .u8 0, .int .u8 0, .int .u8 0] : List Value).toArray)).run Tryd.prog W = .ok (.bool false) W) := Lib.hid (fun ho W => by
    have e : A4 = [0, 0, 0, 0] := by
      rw [hA4]
      unfold val4u val4
      rw [if_neg (by rw [ho]; simp)]
      decide
    rw [e]
    exact (nequ4 [0, 0, 0, 0] [0, 0, 0, 0] rfl rfl W).trans (by rw [show (!decide (([0, 0, 0, 0] : List UInt8) = [0, 0, 0, 0])) = false from by decide]))
  obtain ⟨U6, hU6⟩ : ∃ U6 : ByteArray, U6 = ⟨(txt6 A6).toArray⟩ := ⟨_, rfl⟩
  have eU : bl U6 = txt6 A6 := by rw [hU6]; exact bl_mk _
  have HT6 : Hid (∀ W, Hw W → Calls Tryd.prog 12 #[.agg (bu A6).toArray] W fun e w' => e = .returned (.string U6) ∧ Below W.heap.size W w') := Lib.hid (fun W hw => by
    have h := text6_any A6 W l6 hw.db
    rwa [← hU6] at h)
  have HP6 : Hid (∀ W, Hw W → Calls Tryd.prog 13 #[.string U6] W fun e w' => e = .returned (.tuple #[.agg (bu A6).toArray, .bool true]) ∧ Below W.heap.size W w') := Lib.hid (fun W hw => by
    have h := parse6_any U6 W (by rw [← bl_len, eU]; have := txt6_len A6; omega) hw.ml
    rw [(txt6_back A6 l6 U6 eU).1, (txt6_back A6 l6 U6 eU).2, bu_of] at h
    exact h)
  have HN6 : Hid (ok6 s = false → ∀ W, (binOp .eql 24 (.agg (bu A6).toArray) (.agg ([.int .u8 0, .int .u8 0, .int .u8 0, .int .u8 0, .int .u8 0, .int .u8 0, .int .u8 0, .int .u8 0, .int .u8 0, .int .u8 0, .int .u8 0, .int .u8 0, .int .u8 0, .int .u8 0, .int .u8 0, .int .u8 0] : List Value).toArray)).run Tryd.prog W = .ok (.bool true) W) := Lib.hid (fun ho W => by
    have e : A6 = [0, 0, 0, 0, 0, 0, 0, 0, 0, 0, 0, 0, 0, 0, 0, 0] := by
      have h := six_doc s
      rw [hA6]
      unfold val6u
      cases hs : six (bl s) with
      | none => rw [hs] at h; dsimp only at h; rw [h.2]; decide
      | some v => rw [hs] at h; dsimp only at h; rw [h.1] at ho; cases ho
    rw [e]
    exact (equ6 [0, 0, 0, 0, 0, 0, 0, 0, 0, 0, 0, 0, 0, 0, 0, 0] [0, 0, 0, 0, 0, 0, 0, 0, 0, 0, 0, 0, 0, 0, 0, 0] rfl rfl W).trans (by rw [show decide (([0, 0, 0, 0, 0, 0, 0, 0, 0, 0, 0, 0, 0, 0, 0, 0] : List UInt8) = [0, 0, 0, 0, 0, 0, 0, 0, 0, 0, 0, 0, 0, 0, 0, 0]) = true from by decide]))
  have q6 : ∀ W, (binOp .eql 24 (.agg (bu A6).toArray) (.agg (bu A6).toArray)).run Tryd.prog W = .ok (.bool true) W := fun W => by
    have h := equ6 A6 A6 l6 l6 W
    rwa [show decide (A6 = A6) = true by simp] at h
  have HU6 : Hid (ok6 s = true → U6.size ≤ s.size + 1) := Lib.hid (fun ho => by
    rw [← bl_len, eU, hA6]
    exact txt6_short s ho)
  clear hU6 eU hA4 hA6 l4 l6
  generalize bu A4 = VB at *
  generalize bu A6 = VY at *
  generalize ok4 s = O4 at *
  generalize ok6 s = O6 at *
  clear h0
  obtain ⟨Y6, hY6⟩ : ∃ Y6, Y6 = ([.int .u8 0, .int .u8 0, .int .u8 0, .int .u8 0, .int .u8 0, .int .u8 0, .int .u8 0, .int .u8 0, .int .u8 0, .int .u8 0, .int .u8 0, .int .u8 0, .int .u8 0, .int .u8 0, .int .u8 0, .int .u8 0] : List Value) := ⟨_, rfl⟩
  have HBD : Hid (∀ W, (Instr.build 24 #[]).run Tryd.prog W = .ok (.agg Y6.toArray) W) := Lib.hid (fun W => by rw [hY6]; exact bz6v W)
  rw [← hY6] at HN6
  clear hY6
  generalize hw1 : (w.alloc (.cells VA.toArray 28)).alloc (.cells VX.toArray 24) = w1 at *
  go_enter Tryd.func7, Tryd.ntmps7
  go_upto_region 1 with (fail)
  clear hw1
  go_wp2_with (fail)
  refine (CA.out _ (HW.out.below HK1.out.2.1)).mono ?_
  rintro e w2 ⟨rfl, bb⟩
  have HK2 := Lib.hid (HK1.out.below bb (Nat.le_refl _))
  clear bb HK1
  by_cases hs : s.size ≤ 300
  · have i3 : ¬ (300 : Int) < (s.size : Int) := by omega
    have i33 : (s.size : Int) ≤ 300 := by omega
    have C6s := Lib.hid (HC6.out hs)
    have HSs := Lib.hid hs
    clear HC6 hs
    have hr0 := HK2.out.tl.hd.range
    go_wp2_with ((refine wpList_load_mid rfl 28 _ rfl (w.heap.size) 0 rfl VA _ hr0 Tryd.underlying28 rfl HI_VA.out ?_))
    clear hr0
    refine (CT4.out _ (HW.out.below HK2.out.2.1)).mono ?_
    rintro e w3 ⟨rfl, bb⟩
    have HK3 := Lib.hid (HK2.out.below bb (Nat.le_refl _))
    clear bb HK2
    go_wp2_with (fail)
    refine (C4.out _).mono ?_
    rintro e w4 ⟨rfl, bb⟩
    have HK4 := Lib.hid (HK3.out.below bb (Nat.le_refl _))
    clear bb HK3
    have ht := (bk_new w4 28 ([.int .u8 0, .int .u8 0, .int .u8 0, .int .u8 0] : List Value).toArray).there VA.toArray.size (by have := HL_VA.out; simp; omega)
    go_upto_region 6 with ((refine wpList_store_mid rfl 28 _ _ rfl w4.heap.size 0 VA.toArray rfl rfl ht (by simpa using HI_VA.out) HO_VA.out ?_))
    have HK5 := Lib.hid (HK4.out.put 28 ([.int .u8 0, .int .u8 0, .int .u8 0, .int .u8 0] : List Value).toArray VA (by have := HL_VA.out; simp; omega))
    clear ht HK4
    generalize (w4.alloc (.cells ([.int .u8 0, .int .u8 0, .int .u8 0, .int .u8 0] : List Value).toArray 28)).setCells w4.heap.size 0 VA = w5 at *
    generalize w4.heap.size = g1 at *
    have hr0 := HK5.out.tl.hd.range
    go_wp2_with ((refine wpList_load_mid rfl 24 _ rfl (w.heap.size + 1) 0 rfl VX _ hr0 Tryd.underlying24 rfl HI_VX.out ?_))
    clear hr0
    refine (CT6.out _ (HW.out.below HK5.out.2.1)).mono ?_
    rintro e w6 ⟨rfl, bb⟩
    have HK6 := Lib.hid (HK5.out.below bb (Nat.le_refl _))
    clear bb HK5
    go_wp2_with (fail)
    refine (C6.out _ (HW.out.below HK6.out.2.1)).mono ?_
    rintro e w7 ⟨rfl, bb⟩
    have HK7 := Lib.hid (HK6.out.below bb (Nat.le_refl _))
    clear bb HK6
    have ht := (bk_new w7 24 ([.int .u8 0, .int .u8 0, .int .u8 0, .int .u8 0, .int .u8 0, .int .u8 0, .int .u8 0, .int .u8 0, .int .u8 0, .int .u8 0, .int .u8 0, .int .u8 0, .int .u8 0, .int .u8 0, .int .u8 0, .int .u8 0] : List Value).toArray).there VX.toArray.size (by have := HL_VX.out; simp; omega)
    go_upto_region 7 with ((refine wpList_store_mid rfl 24 _ _ rfl w7.heap.size 0 VX.toArray rfl rfl ht (by simpa using HI_VX.out) HO_VX.out ?_))
    have HK8 := Lib.hid (HK7.out.put 24 ([.int .u8 0, .int .u8 0, .int .u8 0, .int .u8 0, .int .u8 0, .int .u8 0, .int .u8 0, .int .u8 0, .int .u8 0, .int .u8 0, .int .u8 0, .int .u8 0, .int .u8 0, .int .u8 0, .int .u8 0, .int .u8 0] : List Value).toArray VX (by have := HL_VX.out; simp; omega))
    clear ht HK7
    generalize (w7.alloc (.cells ([.int .u8 0, .int .u8 0, .int .u8 0, .int .u8 0, .int .u8 0, .int .u8 0, .int .u8 0, .int .u8 0, .int .u8 0, .int .u8 0, .int .u8 0, .int .u8 0, .int .u8 0, .int .u8 0, .int .u8 0, .int .u8 0] : List Value).toArray 24)).setCells w7.heap.size 0 VX = w8 at *
    generalize w7.heap.size = g2 at *
    have hr0 := HK8.out.tl.tl.tl.hd.range
    have hr1 := HK8.out.tl.hd.range
    have hr2 := HK8.out.tl.tl.hd.range
    have hr3 := HK8.out.hd.range
    go_wp2_with (first | (refine wpList_load_if (by rfl) 28 _ rfl (w.heap.size) 0 rfl VA _ hr0 Tryd.underlying28 rfl HI_VA.out ?_) | (refine wpList_load_if (by rfl) 28 _ rfl (g1) 0 rfl VA _ hr1 Tryd.underlying28 rfl HI_VA.out ?_) | (refine wpList_load_if (by rfl) 24 _ rfl (w.heap.size + 1) 0 rfl VX _ hr2 Tryd.underlying24 rfl HI_VX.out ?_) | (refine wpList_load_if (by rfl) 24 _ rfl (g2) 0 rfl VX _ hr3 Tryd.underlying24 rfl HI_VX.out ?_))
    clear hr0 hr1 hr2 hr3
    refine (CT6.out _ (HW.out.below HK8.out.2.1)).mono ?_
    rintro e w9 ⟨rfl, bb⟩
    have HK9 := Lib.hid (HK8.out.below bb (Nat.le_refl _))
    clear bb HK8
    go_wp2_with (fail)
    refine (CP.out _).mono ?_
    rintro e w10 ⟨rfl, bb⟩
    have HK10 := Lib.hid (HK9.out.below bb (Nat.le_refl _))
    clear bb HK9
    have hr0 := HK10.out.tl.tl.hd.range
    go_wp2_with ((refine wpList_load_if (by rfl) 24 _ rfl (w.heap.size + 1) 0 rfl VX _ hr0 Tryd.underlying24 rfl HI_VX.out ?_))
    clear hr0
    refine (CT6.out _ (HW.out.below HK10.out.2.1)).mono ?_
    rintro e w11 ⟨rfl, bb⟩
    have HK11 := Lib.hid (HK10.out.below bb (Nat.le_refl _))
    clear bb HK10
    have hr0 := HK11.out.tl.tl.tl.hd.range
    go_wp2_with ((refine wpList_load_if (by first | rfl | (rw [i6d]; rfl)) 28 _ rfl (w.heap.size) 0 rfl VA _ hr0 Tryd.underlying28 rfl HI_VA.out ?_))
    clear hr0
    refine (CT4.out _ (HW.out.below HK11.out.2.1)).mono ?_
    rintro e w12 ⟨rfl, bb⟩
    have HK12 := Lib.hid (HK11.out.below bb (Nat.le_refl _))
    clear bb HK11
    go_wp2_with (fail)
    refine (HC4.out _).mono ?_
    rintro e w13 ⟨rfl, bb⟩
    have HK13 := Lib.hid (HK12.out.below bb (Nat.le_refl _))
    clear bb HK12
    have ht := (bk_new w13 28 ([.int .u8 0, .int .u8 0, .int .u8 0, .int .u8 0] : List Value).toArray).there VB.toArray.size (by have := HL_VB.out; simp; omega)
    go_upto_region 10 with ((refine wpList_store_mid rfl 28 _ _ rfl w13.heap.size 0 VB.toArray rfl rfl ht (by simpa using HI_VB.out) HO_VB.out ?_))
    have HK14 := Lib.hid (HK13.out.put 28 ([.int .u8 0, .int .u8 0, .int .u8 0, .int .u8 0] : List Value).toArray VB (by have := HL_VB.out; simp; omega))
    clear ht HK13
    generalize (w13.alloc (.cells ([.int .u8 0, .int .u8 0, .int .u8 0, .int .u8 0] : List Value).toArray 28)).setCells w13.heap.size 0 VB = w14 at *
    generalize w13.heap.size = g3 at *
    cases O4
    · have e4 := HN4.out rfl
      have hr0 := HK14.out.hd.range
      go_upto_region 12 with ((refine wpList_load_if (by rfl) 28 _ rfl (g3) 0 rfl VB _ hr0 Tryd.underlying28 rfl HI_VB.out ?_))
      clear hr0
      go_wp2_with (fail)
      refine (C6s.out _ (HW.out.below HK14.out.2.1)).mono ?_
      rintro e w15 ⟨rfl, bb⟩
      have HK15 := Lib.hid (HK14.out.below bb (Nat.le_refl _))
      clear bb HK14
      have ht := (bk_new w15 24 ([.int .u8 0, .int .u8 0, .int .u8 0, .int .u8 0, .int .u8 0, .int .u8 0, .int .u8 0, .int .u8 0, .int .u8 0, .int .u8 0, .int .u8 0, .int .u8 0, .int .u8 0, .int .u8 0, .int .u8 0, .int .u8 0] : List Value).toArray).there VY.toArray.size (by have := HL_VY.out; simp; omega)
      go_upto_region 13 with ((refine wpList_store_mid rfl 24 _ _ rfl w15.heap.size 0 VY.toArray rfl rfl ht (by simpa using HI_VY.out) HO_VY.out ?_))
      have HK16 := Lib.hid (HK15.out.put 24 ([.int .u8 0, .int .u8 0, .int .u8 0, .int .u8 0, .int .u8 0, .int .u8 0, .int .u8 0, .int .u8 0, .int .u8 0, .int .u8 0, .int .u8 0, .int .u8 0, .int .u8 0, .int .u8 0, .int .u8 0, .int .u8 0] : List Value).toArray VY (by have := HL_VY.out; simp; omega))
      clear ht HK15
      generalize (w15.alloc (.cells ([.int .u8 0, .int .u8 0, .int .u8 0, .int .u8 0, .int .u8 0, .int .u8 0, .int .u8 0, .int .u8 0, .int .u8 0, .int .u8 0, .int .u8 0, .int .u8 0, .int .u8 0, .int .u8 0, .int .u8 0, .int .u8 0] : List Value).toArray 24)).setCells w15.heap.size 0 VY = w16 at *
      generalize w15.heap.size = g4 at *
      cases O6
      · have e6 := HN6.out rfl
        have hr0 := HK16.out.hd.range
        go_wp2_with (first | (refine wpList_load_mid rfl 24 _ rfl (g4) 0 rfl VY _ hr0 Tryd.underlying24 rfl HI_VY.out ?_) | (refine Great.wpList_readTo rfl _ rfl (.agg Y6.toArray) (run_execN (m := #[]) rfl (by simp) (HBD.out _)) ?_))
        go_ret
        exact ⟨rfl, HK16.out.2.1⟩
      · have u6 : (U6.size : Int) ≤ (s.size : Int) + 1 := by have := HU6.out rfl; omega
        have hr0 := HK16.out.hd.range
        go_wp2_with ((refine wpList_load_mid rfl 24 _ rfl (g4) 0 rfl VY _ hr0 Tryd.underlying24 rfl HI_VY.out ?_))
        clear hr0
        refine (HT6.out _ (HW.out.below HK16.out.2.1)).mono ?_
        rintro e w17 ⟨rfl, bb⟩
        have HK17 := Lib.hid (HK16.out.below bb (Nat.le_refl _))
        clear bb HK16
        go_wp2_with (fail)
        refine (HP6.out _ (HW.out.below HK17.out.2.1)).mono ?_
        rintro e w18 ⟨rfl, bb⟩
        have HK18 := Lib.hid (HK17.out.below bb (Nat.le_refl _))
        clear bb HK17
        have ht := (bk_new w18 24 ([.int .u8 0, .int .u8 0, .int .u8 0, .int .u8 0, .int .u8 0, .int .u8 0, .int .u8 0, .int .u8 0, .int .u8 0, .int .u8 0, .int .u8 0, .int .u8 0, .int .u8 0, .int .u8 0, .int .u8 0, .int .u8 0] : List Value).toArray).there VY.toArray.size (by have := HL_VY.out; simp; omega)
        go_upto_region 16 with ((refine wpList_store_mid rfl 24 _ _ rfl w18.heap.size 0 VY.toArray rfl rfl ht (by simpa using HI_VY.out) HO_VY.out ?_))
        have HK19 := Lib.hid (HK18.out.put 24 ([.int .u8 0, .int .u8 0, .int .u8 0, .int .u8 0, .int .u8 0, .int .u8 0, .int .u8 0, .int .u8 0, .int .u8 0, .int .u8 0, .int .u8 0, .int .u8 0, .int .u8 0, .int .u8 0, .int .u8 0, .int .u8 0] : List Value).toArray VY (by have := HL_VY.out; simp; omega))
        clear ht HK18
        generalize (w18.alloc (.cells ([.int .u8 0, .int .u8 0, .int .u8 0, .int .u8 0, .int .u8 0, .int .u8 0, .int .u8 0, .int .u8 0, .int .u8 0, .int .u8 0, .int .u8 0, .int .u8 0, .int .u8 0, .int .u8 0, .int .u8 0, .int .u8 0] : List Value).toArray 24)).setCells w18.heap.size 0 VY = w19 at *
        generalize w18.heap.size = g5 at *
        have hr0 := HK19.out.hd.range
        have hr1 := HK19.out.tl.hd.range
        go_wp2_with (first | (refine wpList_load_if (by rfl) 24 _ rfl (g5) 0 rfl VY _ hr0 Tryd.underlying24 rfl HI_VY.out ?_) | (refine wpList_load_if (by rfl) 24 _ rfl (g4) 0 rfl VY _ hr1 Tryd.underlying24 rfl HI_VY.out ?_))
        clear hr0 hr1
        refine (HT6.out _ (HW.out.below HK19.out.2.1)).mono ?_
        rintro e w20 ⟨rfl, bb⟩
        have HK20 := Lib.hid (HK19.out.below bb (Nat.le_refl _))
        clear bb HK19
        go_wp2_with (fail)
        go_ret
        exact ⟨rfl, HK20.out.2.1⟩
    · have e4 := HT4.out rfl
      have hr0 := HK14.out.hd.range
      go_wp2_with ((refine wpList_load_if (by rfl) 28 _ rfl (g3) 0 rfl VB _ hr0 Tryd.underlying28 rfl HI_VB.out ?_))
      clear hr0
      refine (e4 _ (HW.out.below HK14.out.2.1)).mono ?_
      rintro e w15 ⟨rfl, bb⟩
      have HK15 := Lib.hid (HK14.out.below bb (Nat.le_refl _))
      clear bb HK14
      go_upto_region 12 with (fail)
      go_wp2_with (fail)
      refine (C6s.out _ (HW.out.below HK15.out.2.1)).mono ?_
      rintro e w16 ⟨rfl, bb⟩
      have HK16 := Lib.hid (HK15.out.below bb (Nat.le_refl _))
      clear bb HK15
      have ht := (bk_new w16 24 ([.int .u8 0, .int .u8 0, .int .u8 0, .int .u8 0, .int .u8 0, .int .u8 0, .int .u8 0, .int .u8 0, .int .u8 0, .int .u8 0, .int .u8 0, .int .u8 0, .int .u8 0, .int .u8 0, .int .u8 0, .int .u8 0] : List Value).toArray).there VY.toArray.size (by have := HL_VY.out; simp; omega)
      go_upto_region 13 with ((refine wpList_store_mid rfl 24 _ _ rfl w16.heap.size 0 VY.toArray rfl rfl ht (by simpa using HI_VY.out) HO_VY.out ?_))
      have HK17 := Lib.hid (HK16.out.put 24 ([.int .u8 0, .int .u8 0, .int .u8 0, .int .u8 0, .int .u8 0, .int .u8 0, .int .u8 0, .int .u8 0, .int .u8 0, .int .u8 0, .int .u8 0, .int .u8 0, .int .u8 0, .int .u8 0, .int .u8 0, .int .u8 0] : List Value).toArray VY (by have := HL_VY.out; simp; omega))
      clear ht HK16
      generalize (w16.alloc (.cells ([.int .u8 0, .int .u8 0, .int .u8 0, .int .u8 0, .int .u8 0, .int .u8 0, .int .u8 0, .int .u8 0, .int .u8 0, .int .u8 0, .int .u8 0, .int .u8 0, .int .u8 0, .int .u8 0, .int .u8 0, .int .u8 0] : List Value).toArray 24)).setCells w16.heap.size 0 VY = w17 at *
      generalize w16.heap.size = g4 at *
      cases O6
      · have e6 := HN6.out rfl
        have hr0 := HK17.out.hd.range
        go_wp2_with (first | (refine wpList_load_mid rfl 24 _ rfl (g4) 0 rfl VY _ hr0 Tryd.underlying24 rfl HI_VY.out ?_) | (refine Great.wpList_readTo rfl _ rfl (.agg Y6.toArray) (run_execN (m := #[]) rfl (by simp) (HBD.out _)) ?_))
        go_ret
        exact ⟨rfl, HK17.out.2.1⟩
      · have u6 : (U6.size : Int) ≤ (s.size : Int) + 1 := by have := HU6.out rfl; omega
        have hr0 := HK17.out.hd.range
        go_wp2_with ((refine wpList_load_mid rfl 24 _ rfl (g4) 0 rfl VY _ hr0 Tryd.underlying24 rfl HI_VY.out ?_))
        clear hr0
        refine (HT6.out _ (HW.out.below HK17.out.2.1)).mono ?_
        rintro e w18 ⟨rfl, bb⟩
        have HK18 := Lib.hid (HK17.out.below bb (Nat.le_refl _))
        clear bb HK17
        go_wp2_with (fail)
        refine (HP6.out _ (HW.out.below HK18.out.2.1)).mono ?_
        rintro e w19 ⟨rfl, bb⟩
        have HK19 := Lib.hid (HK18.out.below bb (Nat.le_refl _))
        clear bb HK18
        have ht := (bk_new w19 24 ([.int .u8 0, .int .u8 0, .int .u8 0, .int .u8 0, .int .u8 0, .int .u8 0, .int .u8 0, .int .u8 0, .int .u8 0, .int .u8 0, .int .u8 0, .int .u8 0, .int .u8 0, .int .u8 0, .int .u8 0, .int .u8 0] : List Value).toArray).there VY.toArray.size (by have := HL_VY.out; simp; omega)
        go_upto_region 16 with ((refine wpList_store_mid rfl 24 _ _ rfl w19.heap.size 0 VY.toArray rfl rfl ht (by simpa using HI_VY.out) HO_VY.out ?_))
        have HK20 := Lib.hid (HK19.out.put 24 ([.int .u8 0, .int .u8 0, .int .u8 0, .int .u8 0, .int .u8 0, .int .u8 0, .int .u8 0, .int .u8 0, .int .u8 0, .int .u8 0, .int .u8 0, .int .u8 0, .int .u8 0, .int .u8 0, .int .u8 0, .int .u8 0] : List Value).toArray VY (by have := HL_VY.out; simp; omega))
        clear ht HK19
        generalize (w19.alloc (.cells ([.int .u8 0, .int .u8 0, .int .u8 0, .int .u8 0, .int .u8 0, .int .u8 0, .int .u8 0, .int .u8 0, .int .u8 0, .int .u8 0, .int .u8 0, .int .u8 0, .int .u8 0, .int .u8 0, .int .u8 0, .int .u8 0] : List Value).toArray 24)).setCells w19.heap.size 0 VY = w20 at *
        generalize w19.heap.size = g5 at *
        have hr0 := HK20.out.hd.range
        have hr1 := HK20.out.tl.hd.range
        go_wp2_with (first | (refine wpList_load_if (by rfl) 24 _ rfl (g5) 0 rfl VY _ hr0 Tryd.underlying24 rfl HI_VY.out ?_) | (refine wpList_load_if (by rfl) 24 _ rfl (g4) 0 rfl VY _ hr1 Tryd.underlying24 rfl HI_VY.out ?_))
        clear hr0 hr1
        refine (HT6.out _ (HW.out.below HK20.out.2.1)).mono ?_
        rintro e w21 ⟨rfl, bb⟩
        have HK21 := Lib.hid (HK20.out.below bb (Nat.le_refl _))
        clear bb HK20
        go_wp2_with (fail)
        go_ret
        exact ⟨rfl, HK21.out.2.1⟩
  · have i3 : (300 : Int) < (s.size : Int) := by omega
    go_wp2_with fail
    go_ret
    exact ⟨rfl, HK2.out.2.1⟩
end Go.Proofs.YtkkgcmfcfacakaaDoor
