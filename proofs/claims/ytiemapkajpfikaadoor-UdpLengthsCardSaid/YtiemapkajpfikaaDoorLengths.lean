/-
  Proved here: the law UdpLengths answers true; what num.Code answers at an error of the program's.
  Conditions: errors.errorType holds its type handle.
-/
import Derived.Test.YtiemapkajpfikaaDoorSays
import Derived.Test.YtiemapkajpfikaaDoorAwake
import Derived.Test.YtiemapkajpfikaaDoorCode
namespace Go.Proofs.YtiemapkajpfikaaDoor
open Go.RowKit

theorem code_any {B : Nat} {c : Int} {x : Value} {w : World} (h : ErrV B c x w) (hg : Held w) :
    Calls Tryd.prog 6 #[x] w fun e w' => e = .returned (.int .i64 c) ∧ Below w.heap.size w w' := by
  rcases h with ⟨rfl, rfl⟩ | ⟨_, f, rfl, hf, _⟩
  · refine (code_nil w).mono ?_
    rintro e w' ⟨rfl, rfl⟩
    exact ⟨rfl, Below.refl _ _⟩
  · exact code_fault c (asGives_fault (some ⟨f, 0, none⟩)) w hg hf.c0
theorem wd_bytes (s : ByteArray) (i j : Nat) (hi : i = 2 * j) (h : i + 1 < s.size) : wd s.data.toList j = (s[i]'(by omega)).toNat * 256 + (s[i + 1]'h).toNat := by
  subst hi
  have hl : s.data.toList.length = s.size := by simp
  unfold wd
  rw [List.getD_eq_getElem?_getD, List.getElem?_eq_getElem (by omega), List.getD_eq_getElem?_getD, List.getElem?_eq_getElem (by omega), Nat.mul_comm 256]
  rfl
theorem sum_bytes (s : ByteArray) (h : 8 ≤ s.size) : wd s.data.toList 3 = 0 ↔ s.extract 6 8 = ⟨#[0, 0]⟩ := by
  have hl : s.data.toList.length = s.size := by simp
  have e : (s.extract 6 8).data.toList = [s.data.toList.getD 6 0, s.data.toList.getD 7 0] := ext_two s 6 (by omega)
  have w3 : wd s.data.toList 3 = 256 * (s.data.toList.getD 6 0).toNat + (s.data.toList.getD 7 0).toNat := rfl
  rw [w3]
  generalize s.data.toList.getD 6 0 = a at *
  generalize s.data.toList.getD 7 0 = b at *
  constructor
  · intro h0
    apply ba_ext
    rw [e]
    have ha : a = 0 := UInt8.toNat_inj.1 (by show a.toNat = 0; omega)
    have hb : b = 0 := UInt8.toNat_inj.1 (by show b.toNat = 0; omega)
    rw [ha, hb]
  · intro h0
    rw [h0] at e
    have e2 : ([0, 0] : List UInt8) = [a, b] := e
    injection e2 with ha hb
    injection hb with hb _
    rw [← ha, ← hb]
    rfl
theorem not_code {s : ByteArray} (h : dcode s ≠ 0) (ps : ByteArray) : ccode s ps = dcode s := by unfold ccode; rw [if_pos h]
set_option maxRecDepth 100000 in
set_option maxHeartbeats 1000000 in
/-- A text that is too short. -/
theorem lengths_short (s : ByteArray) (w : World) (hg : Held w) (h7 : s.size < 8) :
    Calls Tryd.prog 3 #[.string s] w fun e w' => e = .returned (.bool true) ∧ Below w.heap.size w w' := by
  have HA := Lib.hid (fun W => awake_true uSays W)
  have HG := Lib.hid hg
  have hc : dcode s = 7 := by unfold dcode; rw [if_pos h7]
  have hcc : ccode s ⟨#[]⟩ = 7 := by rw [not_code (by rw [hc]; decide), hc]
  have hd : dans s = dg0 := by unfold dans; rw [hc, if_neg (by decide)]
  have HX : Hid ((dans s).fr = 0 ∧ (dans s).dst = 0 ∧ (dans s).sm = 0 ∧ (dans s).data = ⟨#[]⟩) := Lib.hid (by rw [hd]; exact ⟨rfl, rfl, rfl, rfl⟩)
  have HP := Lib.hid (fun W => uSays.parse s W (by omega))
  have HC := Lib.hid (fun W => uSays.check s ⟨#[]⟩ W (by omega) (by decide))
  rw [hc] at HP
  rw [hcc] at HC
  have i0 : ¬ (70000 : Int) < (s.size : Int) := by omega
  have d0 := decide_eq_false i0
  have i8 : ¬ (8 : Int) ≤ (s.size : Int) := by omega
  have d8 := decide_eq_false i8
  clear hg h7 hc hcc hd
  generalize (dans s).fr = x0 at *
  generalize (dans s).dst = x1 at *
  generalize (dans s).sm = x2 at *
  generalize (dans s).data = x3 at *
  go_enter Tryd.func3, Tryd.ntmps3
  go_wp2_with fail
  refine (HA.out _).mono ?_
  rintro e w1 ⟨rfl, b1⟩
  have HB1 := Lib.hid b1
  have HL1 := Lib.hid b1.size
  clear b1 HA
  go_wp2_with fail
  refine (HP.out _).mono ?_
  rintro e w2 ⟨x, rfl, he, b2⟩
  have hE := he.below ((Below.refl _ _).alloc (Nat.le_refl _) (.cells #[.int .i64 x0, .int .i64 x1, .int .i64 x2, .string x3] 24)) (Nat.le_refl _)
  have hbk : Bk (w2.alloc (.cells #[.int .i64 x0, .int .i64 x1, .int .i64 x2, .string x3] 24)) w2.heap.size 24 ([.int .i64 x0, .int .i64 x1, .int .i64 x2, .string x3] : List Value).toArray := bk_new _ _ _
  have hB2 : Below w.heap.size w (w2.alloc (.cells #[.int .i64 x0, .int .i64 x1, .int .i64 x2, .string x3] 24)) := (HB1.out.trans (b2.mono HL1.out)).alloc (Nat.le_trans HL1.out b2.size) _
  have hL2 : w.heap.size ≤ (w2.alloc (.cells #[.int .i64 x0, .int .i64 x1, .int .i64 x2, .string x3] 24)).heap.size := by have := HL1.out; have := b2.size; simp; omega
  have HE := Lib.hid hE
  have HB2 := Lib.hid hB2
  have HL2 := Lib.hid hL2
  have c0 := hbk.at (i := 0) rfl
  have c1 := hbk.at (i := 1) rfl
  have c2 := hbk.at (i := 2) rfl
  have c3 := hbk.at (i := 3) rfl
  clear he b2 HB1 HL1 hE hbk hB2 hL2 HP
  generalize hw3 : w2.alloc (.cells #[.int .i64 x0, .int .i64 x1, .int .i64 x2, .string x3] 24) = w3 at *
  go_upto_region 6 with (fail)
  clear hw3
  obtain ⟨rfl, rfl, rfl, rfl⟩ := HX.out
  obtain ⟨f, rfl⟩ : ∃ f, x = .iface 38 (.pointer (some ⟨f, 0, none⟩)) := by
    rcases HE.out with ⟨h, _⟩ | ⟨_, f, h, _⟩
    · exact absurd h (by decide)
    · exact ⟨f, h⟩
  go_region
  have hq := fun W => eqlDg 0 0 0 ⟨#[]⟩ W
  go_upto_region 10 with (fail)
  go_wp2_with fail
  refine (HC.out _).mono ?_
  rintro e w4 ⟨y, rfl, hy, b4⟩
  have HB4 := Lib.hid (HB2.out.drew.trans (b4.mono HL2.out))
  have HL4 := Lib.hid (Nat.le_trans HL2.out b4.size)
  have HE4 := Lib.hid ((show ErrV _ _ _ w3.drew from HE.out).below b4 (Nat.le_refl _))
  have HK := Lib.hid (code_any hy (HG.out.below HB4.out HG.out.lt))
  clear hy b4 HB2 HL2 HE HC c0 c1 c2 c3 hq
  go_wp2_with fail
  refine HK.out.mono ?_
  rintro e w5 ⟨rfl, b5⟩
  have HB5 := Lib.hid (HB4.out.trans (b5.mono HL4.out))
  have HE5 := Lib.hid (HE4.out.below b5 (Nat.le_refl _))
  have HK5 := Lib.hid (code_any HE5.out (HG.out.below HB5.out HG.out.lt))
  have HL5 := Lib.hid (Nat.le_trans HL4.out b5.size)
  clear b5 HB4 HL4 HE4 HK
  go_wp2_with fail
  refine HK5.out.mono ?_
  rintro e w6 ⟨rfl, b6⟩
  have HB6 := Lib.hid (HB5.out.trans (b6.mono HL5.out))
  clear b6 HB5 HL5 HE5 HK5
  go_wp2_with fail
  go_ret
  exact ⟨rfl, HB6.out⟩

set_option maxRecDepth 100000 in
set_option maxHeartbeats 1000000 in
/-- A text that says another size. -/
theorem lengths_form (s : ByteArray) (w : World) (hg : Held w) (h8 : ¬ s.size < 8) (hs : s.size ≤ 70000) (hne : wd s.data.toList 2 ≠ s.size) :
    Calls Tryd.prog 3 #[.string s] w fun e w' => e = .returned (.bool true) ∧ Below w.heap.size w w' := by
  have HA := Lib.hid (fun W => awake_true uSays W)
  have HG := Lib.hid hg
  have hc : dcode s = 8 := by unfold dcode; rw [if_neg h8, if_pos hne]
  have hcc : ccode s ⟨#[]⟩ = 8 := by rw [not_code (by rw [hc]; decide), hc]
  have hd : dans s = dg0 := by unfold dans; rw [hc, if_neg (by decide)]
  have HX : Hid ((dans s).fr = 0 ∧ (dans s).dst = 0 ∧ (dans s).sm = 0 ∧ (dans s).data = ⟨#[]⟩) := Lib.hid (by rw [hd]; exact ⟨rfl, rfl, rfl, rfl⟩)
  have HP := Lib.hid (fun W => uSays.parse s W hs)
  have HC := Lib.hid (fun W => uSays.check s ⟨#[]⟩ W hs (by decide))
  rw [hc] at HP
  rw [hcc] at HC
  have h4 : 4 < s.size := by omega
  have h5 : 5 < s.size := by omega
  have HW : Hid (wd s.data.toList 2 = (s[4]'h4).toNat * 256 + (s[5]'h5).toNat) := Lib.hid (wd_bytes s 4 2 rfl h5)
  have i4 : (4 : Int) < (s.size : Int) := by omega
  have i5 : (5 : Int) < (s.size : Int) := by omega
  have i8 : (8 : Int) ≤ (s.size : Int) := by omega
  have d8 := decide_eq_true i8
  have i0 : ¬ (70000 : Int) < (s.size : Int) := by omega
  have d0 := decide_eq_false i0
  have u4 := (s[4]'h4).toNat_lt
  have u5 := (s[5]'h5).toNat_lt
  have k1 : IntKind.i64.wrap (((s[4]'h4).toNat : Nat) : Int) = (((s[4]'h4).toNat : Nat) : Int) := IntWalk.i64_in _ (by omega)
  have k2 : IntKind.i64.wrap ((((s[4]'h4).toNat : Nat) : Int) * (256 : Int)) = (((s[4]'h4).toNat : Nat) : Int) * (256 : Int) := IntWalk.i64_in _ (by omega)
  have k3 : IntKind.i64.wrap (((s[5]'h5).toNat : Nat) : Int) = (((s[5]'h5).toNat : Nat) : Int) := IntWalk.i64_in _ (by omega)
  have k4 : IntKind.i64.wrap ((((s[4]'h4).toNat : Nat) : Int) * (256 : Int) + (((s[5]'h5).toNat : Nat) : Int)) = (((s[4]'h4).toNat : Nat) : Int) * (256 : Int) + (((s[5]'h5).toNat : Nat) : Int) := IntWalk.i64_in _ (by omega)
  have m : ((((s[4]'h4).toNat : Nat) : Int) * (256 : Int) + (((s[5]'h5).toNat : Nat) : Int) == (s.size : Int)) = false := by
    rw [beq_eq_false_iff_ne]
    have := HW.out
    omega
  clear hg h8 hs hne hc hcc hd u4 u5
  generalize (dans s).fr = x0 at *
  generalize (dans s).dst = x1 at *
  generalize (dans s).sm = x2 at *
  generalize (dans s).data = x3 at *
  go_enter Tryd.func3, Tryd.ntmps3
  go_wp2_with fail
  refine (HA.out _).mono ?_
  rintro e w1 ⟨rfl, b1⟩
  have HB1 := Lib.hid b1
  have HL1 := Lib.hid b1.size
  clear b1 HA
  go_wp2_with fail
  refine (HP.out _).mono ?_
  rintro e w2 ⟨x, rfl, he, b2⟩
  have hE := he.below ((Below.refl _ _).alloc (Nat.le_refl _) (.cells #[.int .i64 x0, .int .i64 x1, .int .i64 x2, .string x3] 24)) (Nat.le_refl _)
  have hbk : Bk (w2.alloc (.cells #[.int .i64 x0, .int .i64 x1, .int .i64 x2, .string x3] 24)) w2.heap.size 24 ([.int .i64 x0, .int .i64 x1, .int .i64 x2, .string x3] : List Value).toArray := bk_new _ _ _
  have hB2 : Below w.heap.size w (w2.alloc (.cells #[.int .i64 x0, .int .i64 x1, .int .i64 x2, .string x3] 24)) := (HB1.out.trans (b2.mono HL1.out)).alloc (Nat.le_trans HL1.out b2.size) _
  have hL2 : w.heap.size ≤ (w2.alloc (.cells #[.int .i64 x0, .int .i64 x1, .int .i64 x2, .string x3] 24)).heap.size := by have := HL1.out; have := b2.size; simp; omega
  have HE := Lib.hid hE
  have HB2 := Lib.hid hB2
  have HL2 := Lib.hid hL2
  have c0 := hbk.at (i := 0) rfl
  have c1 := hbk.at (i := 1) rfl
  have c2 := hbk.at (i := 2) rfl
  have c3 := hbk.at (i := 3) rfl
  clear he b2 HB1 HL1 hE hbk hB2 hL2 HP
  generalize hw3 : w2.alloc (.cells #[.int .i64 x0, .int .i64 x1, .int .i64 x2, .string x3] 24) = w3 at *
  go_upto_region 6 with (fail)
  clear hw3
  obtain ⟨rfl, rfl, rfl, rfl⟩ := HX.out
  obtain ⟨f, rfl⟩ : ∃ f, x = .iface 38 (.pointer (some ⟨f, 0, none⟩)) := by
    rcases HE.out with ⟨h, _⟩ | ⟨_, f, h, _⟩
    · exact absurd h (by decide)
    · exact ⟨f, h⟩
  go_region
  have hq := fun W => eqlDg 0 0 0 ⟨#[]⟩ W
  go_upto_region 10 with (fail)
  go_wp2_with fail
  refine (HC.out _).mono ?_
  rintro e w4 ⟨y, rfl, hy, b4⟩
  have HB4 := Lib.hid (HB2.out.drew.trans (b4.mono HL2.out))
  have HL4 := Lib.hid (Nat.le_trans HL2.out b4.size)
  have HE4 := Lib.hid ((show ErrV _ _ _ w3.drew from HE.out).below b4 (Nat.le_refl _))
  have HK := Lib.hid (code_any hy (HG.out.below HB4.out HG.out.lt))
  clear hy b4 HB2 HL2 HE HC c0 c1 c2 c3 hq
  go_wp2_with fail
  refine HK.out.mono ?_
  rintro e w5 ⟨rfl, b5⟩
  have HB5 := Lib.hid (HB4.out.trans (b5.mono HL4.out))
  have HE5 := Lib.hid (HE4.out.below b5 (Nat.le_refl _))
  have HK5 := Lib.hid (code_any HE5.out (HG.out.below HB5.out HG.out.lt))
  have HL5 := Lib.hid (Nat.le_trans HL4.out b5.size)
  clear b5 HB4 HL4 HE4 HK
  go_wp2_with fail
  refine HK5.out.mono ?_
  rintro e w6 ⟨rfl, b6⟩
  have HB6 := Lib.hid (HB5.out.trans (b6.mono HL5.out))
  clear b6 HB5 HL5 HE5 HK5
  go_wp2_with fail
  go_ret
  exact ⟨rfl, HB6.out⟩

set_option maxRecDepth 100000 in
set_option maxHeartbeats 1000000 in
/-- A text that says its size. -/
theorem lengths_none (s : ByteArray) (w : World) (hg : Held w) (h8 : ¬ s.size < 8) (hs : s.size ≤ 70000) (heq : wd s.data.toList 2 = s.size) (hz : wd s.data.toList 3 = 0) :
    Calls Tryd.prog 3 #[.string s] w fun e w' => e = .returned (.bool true) ∧ Below w.heap.size w w' := by
  have HA := Lib.hid (fun W => awake_true uSays W)
  have HG := Lib.hid hg
  have hc : dcode s = 0 := by unfold dcode; rw [if_neg h8, if_neg (fun h => h heq)]
  have hd : dans s = dpkt s := by unfold dans; rw [if_pos hc]
  have hcc : ccode s ⟨#[]⟩ = 4 := by unfold ccode; rw [if_neg (fun h => h hc), hd, if_pos (show (dpkt s).sm = 0 by show ((wd s.data.toList 3 : Nat) : Int) = 0; omega)]
  have HP := Lib.hid (fun W => uSays.parse s W hs)
  have HC := Lib.hid (fun W => uSays.check s ⟨#[]⟩ W hs (by decide))
  have hx2 : (dans s).sm = ((wd s.data.toList 3 : Nat) : Int) := by rw [hd]; rfl
  have hx3 : (dans s).data = s.extract 8 s.size := by rw [hd]; rfl
  have hzz := sum_bytes s (by omega)
  rw [hc, hx2, hx3] at HP
  rw [hcc] at HC
  have h4 : 4 < s.size := by omega
  have h5 : 5 < s.size := by omega
  have HW : Hid (wd s.data.toList 2 = (s[4]'h4).toNat * 256 + (s[5]'h5).toNat) := Lib.hid (wd_bytes s 4 2 rfl h5)
  have i4 : (4 : Int) < (s.size : Int) := by omega
  have i5 : (5 : Int) < (s.size : Int) := by omega
  have i8 : (8 : Int) ≤ (s.size : Int) := by omega
  have d8 := decide_eq_true i8
  have i0 : ¬ (70000 : Int) < (s.size : Int) := by omega
  have d0 := decide_eq_false i0
  have u4 := (s[4]'h4).toNat_lt
  have u5 := (s[5]'h5).toNat_lt
  have k1 : IntKind.i64.wrap (((s[4]'h4).toNat : Nat) : Int) = (((s[4]'h4).toNat : Nat) : Int) := IntWalk.i64_in _ (by omega)
  have k2 : IntKind.i64.wrap ((((s[4]'h4).toNat : Nat) : Int) * (256 : Int)) = (((s[4]'h4).toNat : Nat) : Int) * (256 : Int) := IntWalk.i64_in _ (by omega)
  have k3 : IntKind.i64.wrap (((s[5]'h5).toNat : Nat) : Int) = (((s[5]'h5).toNat : Nat) : Int) := IntWalk.i64_in _ (by omega)
  have k4 : IntKind.i64.wrap ((((s[4]'h4).toNat : Nat) : Int) * (256 : Int) + (((s[5]'h5).toNat : Nat) : Int)) = (((s[4]'h4).toNat : Nat) : Int) * (256 : Int) + (((s[5]'h5).toNat : Nat) : Int) := IntWalk.i64_in _ (by omega)
  have m : ((((s[4]'h4).toNat : Nat) : Int) * (256 : Int) + (((s[5]'h5).toNat : Nat) : Int) == (s.size : Int)) = true := by
    rw [beq_iff_eq]
    have := HW.out
    omega
  have e68 := hzz.1 hz
  have m2 : (((wd s.data.toList 3 : Nat) : Int) == 0) = true := by rw [hz]; rfl
  clear hcc
  clear hg h8 hs heq hc hd u4 u5 hx2 hx3 hzz hz
  generalize (dans s).fr = x0 at *
  generalize (dans s).dst = x1 at *
  generalize ((wd s.data.toList 3 : Nat) : Int) = x2 at *
  obtain ⟨x3, hx3⟩ : ∃ x3, x3 = s.extract 8 s.size := ⟨_, rfl⟩
  rw [← hx3] at HP
  have HX := Lib.hid hx3
  clear hx3
  go_enter Tryd.func3, Tryd.ntmps3
  go_wp2_with fail
  refine (HA.out _).mono ?_
  rintro e w1 ⟨rfl, b1⟩
  have HB1 := Lib.hid b1
  have HL1 := Lib.hid b1.size
  clear b1 HA
  go_wp2_with fail
  refine (HP.out _).mono ?_
  rintro e w2 ⟨x, rfl, he, b2⟩
  have hE := he.below ((Below.refl _ _).alloc (Nat.le_refl _) (.cells #[.int .i64 x0, .int .i64 x1, .int .i64 x2, .string x3] 24)) (Nat.le_refl _)
  have hbk : Bk (w2.alloc (.cells #[.int .i64 x0, .int .i64 x1, .int .i64 x2, .string x3] 24)) w2.heap.size 24 ([.int .i64 x0, .int .i64 x1, .int .i64 x2, .string x3] : List Value).toArray := bk_new _ _ _
  have hB2 : Below w.heap.size w (w2.alloc (.cells #[.int .i64 x0, .int .i64 x1, .int .i64 x2, .string x3] 24)) := (HB1.out.trans (b2.mono HL1.out)).alloc (Nat.le_trans HL1.out b2.size) _
  have hL2 : w.heap.size ≤ (w2.alloc (.cells #[.int .i64 x0, .int .i64 x1, .int .i64 x2, .string x3] 24)).heap.size := by have := HL1.out; have := b2.size; simp; omega
  have HE := Lib.hid hE
  have HB2 := Lib.hid hB2
  have HL2 := Lib.hid hL2
  have c0 := hbk.at (i := 0) rfl
  have c1 := hbk.at (i := 1) rfl
  have c2 := hbk.at (i := 2) rfl
  have c3 := hbk.at (i := 3) rfl
  clear he b2 HB1 HL1 hE hbk hB2 hL2 HP
  generalize hw3 : w2.alloc (.cells #[.int .i64 x0, .int .i64 x1, .int .i64 x2, .string x3] 24) = w3 at *
  go_upto_region 6 with (fail)
  clear hw3
  have hx : x = .nilIface := HE.out.nil
  subst hx
  clear HE
  go_region
  have hx3 := HX.out.symm
  go_upto_region 11 with (fail)
  clear k1 k2 k3 k4 m HW d0 i0
  refine wp_region_noPanic ?_
  refine wp_region_held_drew (S := fun w' => Below w.heap.size w w' ∧ w.heap.size ≤ w'.heap.size ∧ w'.cell? ⟨w2.heap.size, 2, none⟩ = some (.int .i64 x2) ∧ w'.cell? ⟨w2.heap.size, 3, none⟩ = some (.string x3)) (by kernel_rfl) (⟨HB2.out.drew.drew, HL2.out, c2, c3⟩) (fun hHeld => ?_)
  refine wpAnyH_take (i := 0) (oi := { dst := some 49, op := Op.fieldAddr 24 (Operand.tmp 3) 3, type := 0, pos := "outright.go:49", after := #[], guard := none }) (v := ?_) rfl (by kernel_rfl) (by kernel_rfl) (by kernel_rfl) (fun _ _ _ h => h) (Or.inl ⟨by rfl, ?_⟩) (by assumption) ?_
  rotate_left
  · (intro ww hSw; (try dsimp only at hSw); go_simp; try with_reducible rfl)
  (try simp only [Act.put, List.setIfInBounds_toArray, List.set_cons_zero, List.set_cons_succ])
  refine wpAnyH_take (i := 1) (oi := { dst := some 50, op := Op.load 9 (Operand.tmp 49), type := 9, pos := "outright.go:49", after := #[{ on := 0, ground := Ground.data }], guard := none }) (v := ?_) rfl (by kernel_rfl) (by kernel_rfl) (by kernel_rfl) (fun _ _ _ h => h) (Or.inl ⟨by rfl, ?_⟩) (by assumption) ?_
  rotate_left
  · (intro ww hSw; (try dsimp only at hSw); go_simp; try with_reducible rfl)
  (try simp only [Act.put, List.setIfInBounds_toArray, List.set_cons_zero, List.set_cons_succ])
  refine wpAnyH_take (i := 2) (oi := { dst := some 51, op := Op.move (Operand.tmp 0), type := 9, pos := "outright.go:49", after := #[], guard := none }) (v := ?_) rfl (by kernel_rfl) (by kernel_rfl) (by kernel_rfl) (fun _ _ _ h => h) (Or.inl ⟨by rfl, ?_⟩) (by assumption) ?_
  rotate_left
  · (intro ww hSw; (try dsimp only at hSw); go_simp; try with_reducible rfl)
  (try simp only [Act.put, List.setIfInBounds_toArray, List.set_cons_zero, List.set_cons_succ])
  refine wpAnyH_take (i := 3) (oi := { dst := some 52, op := Op.slice 9 (Operand.tmp 51) (some (Operand.const (Value.int IntKind.i64 8))) none none, type := 9, pos := "outright.go:49", after := #[{ on := 2, ground := Ground.data }], guard := none }) (v := ?_) rfl (by kernel_rfl) (by kernel_rfl) (by kernel_rfl) (fun _ _ _ h => h) (Or.inl ⟨by rfl, ?_⟩) (by assumption) ?_
  rotate_left
  · (intro ww hSw; (try dsimp only at hSw); go_simp; try with_reducible rfl)
  (try simp only [Act.put, List.setIfInBounds_toArray, List.set_cons_zero, List.set_cons_succ])
  refine wpAnyH_take (i := 4) (oi := { dst := some 53, op := Op.binOp BinOp.eql 9 (Operand.tmp 50) (Operand.tmp 52) 9, type := 4, pos := "outright.go:49", after := #[{ on := 1, ground := Ground.data }, { on := 3, ground := Ground.data }], guard := none }) (v := ?_) rfl (by kernel_rfl) (by kernel_rfl) (by kernel_rfl) (fun _ _ _ h => h) (Or.inl ⟨by rfl, ?_⟩) (by assumption) ?_
  rotate_left
  · (intro ww hSw; (try dsimp only at hSw); go_simp; try with_reducible rfl)
  (try simp only [Act.put, List.setIfInBounds_toArray, List.set_cons_zero, List.set_cons_succ])
  refine wpAnyH_take (i := 5) (oi := { dst := some 54, op := Op.move (Operand.tmp 53), type := 4, pos := "outright.go:49", after := #[{ on := 4, ground := Ground.data }], guard := none }) (v := ?_) rfl (by kernel_rfl) (by kernel_rfl) (by kernel_rfl) (fun _ _ _ h => h) (Or.inl ⟨by rfl, ?_⟩) (by assumption) ?_
  rotate_left
  · (intro ww hSw; (try dsimp only at hSw); go_simp; try with_reducible rfl)
  (try simp only [Act.put, List.setIfInBounds_toArray, List.set_cons_zero, List.set_cons_succ])
  refine wpAnyH_take (i := 6) (oi := { dst := some 55, op := Op.fieldAddr 24 (Operand.tmp 3) 2, type := 0, pos := "outright.go:49", after := #[{ on := 5, ground := Ground.guard }], guard := some (5, true) }) (v := ?_) rfl (by kernel_rfl) (by kernel_rfl) (by kernel_rfl) (fun _ _ _ h => h) (Or.inl ⟨by rfl, ?_⟩) (by assumption) ?_
  rotate_left
  · (intro ww hSw; (try dsimp only at hSw); go_simp; try with_reducible rfl)
  (try simp only [Act.put, List.setIfInBounds_toArray, List.set_cons_zero, List.set_cons_succ])
  refine wpAnyH_take (i := 7) (oi := { dst := some 56, op := Op.load 3 (Operand.tmp 55), type := 3, pos := "outright.go:49", after := #[{ on := 6, ground := Ground.data }, { on := 5, ground := Ground.guard }], guard := some (5, true) }) (v := ?_) rfl (by kernel_rfl) (by kernel_rfl) (by kernel_rfl) (fun _ _ _ h => h) (Or.inl ⟨by rfl, ?_⟩) (by assumption) ?_
  rotate_left
  · (intro ww hSw; (try dsimp only at hSw); go_simp; try with_reducible rfl)
  (try simp only [Act.put, List.setIfInBounds_toArray, List.set_cons_zero, List.set_cons_succ])
  refine wpAnyH_take (i := 8) (oi := { dst := some 57, op := Op.binOp BinOp.eql 3 (Operand.tmp 56) (Operand.const (Value.int IntKind.i64 0)) 3, type := 4, pos := "outright.go:49", after := #[{ on := 7, ground := Ground.data }, { on := 5, ground := Ground.guard }], guard := some (5, true) }) (v := ?_) rfl (by kernel_rfl) (by kernel_rfl) (by kernel_rfl) (fun _ _ _ h => h) (Or.inl ⟨by rfl, ?_⟩) (by assumption) ?_
  rotate_left
  · (intro ww hSw; (try dsimp only at hSw); go_simp; try with_reducible rfl)
  (try simp only [Act.put, List.setIfInBounds_toArray, List.set_cons_zero, List.set_cons_succ])
  refine wpAnyH_take (i := 9) (oi := { dst := some 58, op := Op.move (Operand.tmp 0), type := 9, pos := "outright.go:49", after := #[{ on := 5, ground := Ground.guard }], guard := some (5, true) }) (v := ?_) rfl (by kernel_rfl) (by kernel_rfl) (by kernel_rfl) (fun _ _ _ h => h) (Or.inl ⟨by rfl, ?_⟩) (by assumption) ?_
  rotate_left
  · (intro ww hSw; (try dsimp only at hSw); go_simp; try with_reducible rfl)
  (try simp only [Act.put, List.setIfInBounds_toArray, List.set_cons_zero, List.set_cons_succ])
  refine wpAnyH_take (i := 10) (oi := { dst := some 59, op := Op.slice 9 (Operand.tmp 58) (some (Operand.const (Value.int IntKind.i64 6))) (some (Operand.const (Value.int IntKind.i64 8))) none, type := 9, pos := "outright.go:49", after := #[{ on := 9, ground := Ground.data }, { on := 5, ground := Ground.guard }], guard := some (5, true) }) (v := ?_) rfl (by kernel_rfl) (by kernel_rfl) (by kernel_rfl) (fun _ _ _ h => h) (Or.inl ⟨by rfl, ?_⟩) (by assumption) ?_
  rotate_left
  · (intro ww hSw; (try dsimp only at hSw); go_simp; try with_reducible rfl)
  (try simp only [Act.put, List.setIfInBounds_toArray, List.set_cons_zero, List.set_cons_succ])
  refine wpAnyH_take (i := 11) (oi := { dst := some 60, op := Op.binOp BinOp.eql 9 (Operand.tmp 59) (Operand.const (Value.string { data := #[0, 0] })) 9, type := 4, pos := "outright.go:49", after := #[{ on := 10, ground := Ground.data }, { on := 5, ground := Ground.guard }], guard := some (5, true) }) (v := ?_) rfl (by kernel_rfl) (by kernel_rfl) (by kernel_rfl) (fun _ _ _ h => h) (Or.inl ⟨by rfl, ?_⟩) (by assumption) ?_
  rotate_left
  · (intro ww hSw; (try dsimp only at hSw); go_simp; try with_reducible rfl)
  (try simp only [Act.put, List.setIfInBounds_toArray, List.set_cons_zero, List.set_cons_succ])
  refine wpAnyH_take (i := 12) (oi := { dst := some 61, op := Op.binOp BinOp.eql 4 (Operand.tmp 57) (Operand.tmp 60) 4, type := 4, pos := "outright.go:49", after := #[{ on := 8, ground := Ground.data }, { on := 11, ground := Ground.data }, { on := 5, ground := Ground.guard }], guard := some (5, true) }) (v := ?_) rfl (by kernel_rfl) (by kernel_rfl) (by kernel_rfl) (fun _ _ _ h => h) (Or.inl ⟨by rfl, ?_⟩) (by assumption) ?_
  rotate_left
  · (intro ww hSw; (try dsimp only at hSw); go_simp; try with_reducible rfl)
  (try simp only [Act.put, List.setIfInBounds_toArray, List.set_cons_zero, List.set_cons_succ])
  refine wpAnyH_take (i := 13) (oi := { dst := some 62, op := Op.pick (Operand.tmp 54) (Operand.tmp 61) (Operand.const (Value.bool false)), type := 4, pos := "outright.go:49", after := #[{ on := 5, ground := Ground.data }, { on := 12, ground := Ground.data }], guard := none }) (v := ?_) rfl (by kernel_rfl) (by kernel_rfl) (by kernel_rfl) (fun _ _ _ h => h) (Or.inl ⟨by rfl, ?_⟩) (by assumption) ?_
  rotate_left
  · (intro ww hSw; (try dsimp only at hSw); go_simp; try with_reducible rfl)
  (try simp only [Act.put, List.setIfInBounds_toArray, List.set_cons_zero, List.set_cons_succ])
  refine wpAnyH_take (i := 14) (oi := { dst := some 63, op := Op.move (Operand.tmp 62), type := 4, pos := "outright.go:49", after := #[{ on := 13, ground := Ground.data }, { on := 5, ground := Ground.chain }], guard := none }) (v := ?_) rfl (by kernel_rfl) (by kernel_rfl) (by kernel_rfl) (fun _ _ _ h => h) (Or.inl ⟨by rfl, ?_⟩) (by assumption) ?_
  rotate_left
  · (intro ww hSw; (try dsimp only at hSw); go_simp; try with_reducible rfl)
  (try simp only [Act.put, List.setIfInBounds_toArray, List.set_cons_zero, List.set_cons_succ])
  refine wpAnyH_take (i := 15) (oi := { dst := some 64, op := Op.move (Operand.tmp 0), type := 9, pos := "outright.go:49", after := #[{ on := 14, ground := Ground.guard }], guard := some (14, true) }) (v := ?_) rfl (by kernel_rfl) (by kernel_rfl) (by kernel_rfl) (fun _ _ _ h => h) (Or.inl ⟨by rfl, ?_⟩) (by assumption) ?_
  rotate_left
  · (intro ww hSw; (try dsimp only at hSw); go_simp; try with_reducible rfl)
  (try simp only [Act.put, List.setIfInBounds_toArray, List.set_cons_zero, List.set_cons_succ])
  refine wpAnyH_take (i := 19) (oi := { dst := some 68, op := Op.fieldAddr 24 (Operand.tmp 3) 2, type := 0, pos := "outright.go:49", after := #[{ on := 14, ground := Ground.guard }], guard := some (14, true) }) (v := ?_) rfl (by kernel_rfl) (by kernel_rfl) (by kernel_rfl) (fun _ _ _ h => h) (Or.inl ⟨by rfl, ?_⟩) (by assumption) ?_
  rotate_left
  · (intro ww hSw; (try dsimp only at hSw); go_simp; try with_reducible rfl)
  (try simp only [Act.put, List.setIfInBounds_toArray, List.set_cons_zero, List.set_cons_succ])
  refine wpAnyH_take (i := 20) (oi := { dst := some 69, op := Op.load 3 (Operand.tmp 68), type := 3, pos := "outright.go:49", after := #[{ on := 19, ground := Ground.data }, { on := 14, ground := Ground.guard }], guard := some (14, true) }) (v := ?_) rfl (by kernel_rfl) (by kernel_rfl) (by kernel_rfl) (fun _ _ _ h => h) (Or.inl ⟨by rfl, ?_⟩) (by assumption) ?_
  rotate_left
  · (intro ww hSw; (try dsimp only at hSw); go_simp; try with_reducible rfl)
  (try simp only [Act.put, List.setIfInBounds_toArray, List.set_cons_zero, List.set_cons_succ])
  refine wpAnyH_take (i := 21) (oi := { dst := some 70, op := Op.binOp BinOp.eql 3 (Operand.tmp 69) (Operand.const (Value.int IntKind.i64 0)) 3, type := 4, pos := "outright.go:49", after := #[{ on := 20, ground := Ground.data }, { on := 14, ground := Ground.guard }], guard := some (14, true) }) (v := ?_) rfl (by kernel_rfl) (by kernel_rfl) (by kernel_rfl) (fun _ _ _ h => h) (Or.inl ⟨by rfl, ?_⟩) (by assumption) ?_
  rotate_left
  · (intro ww hSw; (try dsimp only at hSw); go_simp; try with_reducible rfl)
  (try simp only [Act.put, List.setIfInBounds_toArray, List.set_cons_zero, List.set_cons_succ])
  refine wpAnyH_ready (rs := [16]) (by kernel_rfl) (by simp) ?_
  refine AllReadyH.cons (o := { dst := some 65, op := Op.call { callee := Callee.value (Operand.func 7), args := #[Operand.tmp 64, Operand.const (Value.string { data := #[] })], argTypes := #[9, 9] }, type := 26, pos := "outright.go:49", after := #[{ on := 15, ground := Ground.data }, { on := 14, ground := Ground.chain }, { on := 14, ground := Ground.guard }], guard := some (14, true) }) rfl (fun K hK => ?_) AllReadyH.nil
  go_simp
  ((with_reducible refine (HC.out _).mono ?_); rintro e w9 ⟨y, rfl, hy, hb9⟩)
  refine hK.out _ _ (⟨hHeld.1.trans (hb9.mono hHeld.2.1), Nat.le_trans hHeld.2.1 hb9.size, cell_kept hHeld.2.2.1 hb9, cell_kept hHeld.2.2.2 hb9⟩) (fun hHeld => ?_)
  clear hK K
  (try simp only [Act.put, List.setIfInBounds_toArray, List.set_cons_zero, List.set_cons_succ])
  refine wpAnyH_ready (rs := [17]) (by kernel_rfl) (by simp) ?_
  refine AllReadyH.cons (o := { dst := some 66, op := Op.call { callee := Callee.value (Operand.func 6), args := #[Operand.tmp 65], argTypes := #[26] }, type := 29, pos := "outright.go:49", after := #[{ on := 16, ground := Ground.data }, { on := 16, ground := Ground.chain }, { on := 14, ground := Ground.guard }], guard := some (14, true) }) rfl (fun K hK => ?_) AllReadyH.nil
  have hc17 := code_any hy (HG.out.below hHeld.1 HG.out.lt)
  go_simp
  ((with_reducible refine (hc17).mono ?_); rintro e w9 ⟨rfl, hb9⟩)
  refine hK.out _ _ (⟨hHeld.1.trans (hb9.mono hHeld.2.1), Nat.le_trans hHeld.2.1 hb9.size, cell_kept hHeld.2.2.1 hb9, cell_kept hHeld.2.2.2 hb9⟩) (fun hHeld => ?_)
  clear hK K
  (try simp only [Act.put, List.setIfInBounds_toArray, List.set_cons_zero, List.set_cons_succ])
  refine wpAnyH_take (i := 18) (oi := { dst := some 67, op := Op.binOp BinOp.eql 29 (Operand.tmp 66) (Operand.const (Value.int IntKind.i64 4)) 29, type := 4, pos := "outright.go:49", after := #[{ on := 17, ground := Ground.data }, { on := 14, ground := Ground.guard }], guard := some (14, true) }) (v := ?_) rfl (by kernel_rfl) (by kernel_rfl) (by kernel_rfl) (fun _ _ _ h => h) (Or.inl ⟨by rfl, ?_⟩) (by assumption) ?_
  rotate_left
  · (intro ww hSw; (try dsimp only at hSw); go_simp; try with_reducible rfl)
  (try simp only [Act.put, List.setIfInBounds_toArray, List.set_cons_zero, List.set_cons_succ])
  refine wpAnyH_take (i := 22) (oi := { dst := some 71, op := Op.binOp BinOp.eql 4 (Operand.tmp 67) (Operand.tmp 70) 4, type := 4, pos := "outright.go:49", after := #[{ on := 18, ground := Ground.data }, { on := 21, ground := Ground.data }, { on := 14, ground := Ground.guard }], guard := some (14, true) }) (v := ?_) rfl (by kernel_rfl) (by kernel_rfl) (by kernel_rfl) (fun _ _ _ h => h) (Or.inl ⟨by rfl, ?_⟩) (by assumption) ?_
  rotate_left
  · (intro ww hSw; (try dsimp only at hSw); go_simp; try with_reducible rfl)
  (try simp only [Act.put, List.setIfInBounds_toArray, List.set_cons_zero, List.set_cons_succ])
  refine wpAnyH_take (i := 23) (oi := { dst := some 72, op := Op.pick (Operand.tmp 63) (Operand.tmp 71) (Operand.const (Value.bool false)), type := 4, pos := "outright.go:49", after := #[{ on := 14, ground := Ground.data }, { on := 22, ground := Ground.data }], guard := none }) (v := ?_) rfl (by kernel_rfl) (by kernel_rfl) (by kernel_rfl) (fun _ _ _ h => h) (Or.inl ⟨by rfl, ?_⟩) (by assumption) ?_
  rotate_left
  · (intro ww hSw; (try dsimp only at hSw); go_simp; try with_reducible rfl)
  (try simp only [Act.put, List.setIfInBounds_toArray, List.set_cons_zero, List.set_cons_succ])
  refine wpAnyH_take (i := 24) (oi := { dst := some 2, op := Op.assign (Operand.tmp 72), type := 4, pos := "outright.go:49", after := #[{ on := 23, ground := Ground.data }, { on := 17, ground := Ground.chain }, { on := 0, ground := Ground.phase }, { on := 1, ground := Ground.phase }, { on := 2, ground := Ground.phase }, { on := 3, ground := Ground.phase }, { on := 4, ground := Ground.phase }, { on := 5, ground := Ground.phase }, { on := 6, ground := Ground.phase }, { on := 7, ground := Ground.phase }, { on := 8, ground := Ground.phase }, { on := 9, ground := Ground.phase }, { on := 10, ground := Ground.phase }, { on := 11, ground := Ground.phase }, { on := 12, ground := Ground.phase }, { on := 13, ground := Ground.phase }, { on := 14, ground := Ground.phase }, { on := 15, ground := Ground.phase }, { on := 16, ground := Ground.phase }, { on := 17, ground := Ground.phase }, { on := 18, ground := Ground.phase }, { on := 19, ground := Ground.phase }, { on := 20, ground := Ground.phase }, { on := 21, ground := Ground.phase }, { on := 22, ground := Ground.phase }, { on := 23, ground := Ground.phase }], guard := none }) (v := ?_) rfl (by kernel_rfl) (by kernel_rfl) (by kernel_rfl) (fun _ _ _ h => h) (Or.inl ⟨by rfl, ?_⟩) (by assumption) ?_
  rotate_left
  · (intro ww hSw; (try dsimp only at hSw); go_simp; try with_reducible rfl)
  (try simp only [Act.put, List.setIfInBounds_toArray, List.set_cons_zero, List.set_cons_succ])
  refine wpAnyH_done (by kernel_rfl) ?_ _
  refine NoPanic.normal ?_
  have HF := Lib.hid (And.left hHeld)
  clear hHeld
  go_wp2_with fail
  go_ret
  exact ⟨rfl, HF.out⟩
set_option maxRecDepth 100000 in
set_option maxHeartbeats 1000000 in
/-- A text that says its size. -/
theorem lengths_some (s : ByteArray) (w : World) (hg : Held w) (h8 : ¬ s.size < 8) (hs : s.size ≤ 70000) (heq : wd s.data.toList 2 = s.size) (hz : wd s.data.toList 3 ≠ 0) :
    Calls Tryd.prog 3 #[.string s] w fun e w' => e = .returned (.bool true) ∧ Below w.heap.size w w' := by
  have HA := Lib.hid (fun W => awake_true uSays W)
  have HG := Lib.hid hg
  have hc : dcode s = 0 := by unfold dcode; rw [if_neg h8, if_neg (fun h => h heq)]
  have hd : dans s = dpkt s := by unfold dans; rw [if_pos hc]
  have hcc : ccode s ⟨#[]⟩ ≠ 4 := by
    unfold ccode
    rw [if_neg (fun h => h hc), hd, if_neg (show ¬ (dpkt s).sm = 0 by show ¬ ((wd s.data.toList 3 : Nat) : Int) = 0; omega)]
    split <;> decide
  have HP := Lib.hid (fun W => uSays.parse s W hs)
  have HC := Lib.hid (fun W => uSays.check s ⟨#[]⟩ W hs (by decide))
  have hx2 : (dans s).sm = ((wd s.data.toList 3 : Nat) : Int) := by rw [hd]; rfl
  have hx3 : (dans s).data = s.extract 8 s.size := by rw [hd]; rfl
  have hzz := sum_bytes s (by omega)
  rw [hc, hx2, hx3] at HP
  have h4 : 4 < s.size := by omega
  have h5 : 5 < s.size := by omega
  have HW : Hid (wd s.data.toList 2 = (s[4]'h4).toNat * 256 + (s[5]'h5).toNat) := Lib.hid (wd_bytes s 4 2 rfl h5)
  have i4 : (4 : Int) < (s.size : Int) := by omega
  have i5 : (5 : Int) < (s.size : Int) := by omega
  have i8 : (8 : Int) ≤ (s.size : Int) := by omega
  have d8 := decide_eq_true i8
  have i0 : ¬ (70000 : Int) < (s.size : Int) := by omega
  have d0 := decide_eq_false i0
  have u4 := (s[4]'h4).toNat_lt
  have u5 := (s[5]'h5).toNat_lt
  have k1 : IntKind.i64.wrap (((s[4]'h4).toNat : Nat) : Int) = (((s[4]'h4).toNat : Nat) : Int) := IntWalk.i64_in _ (by omega)
  have k2 : IntKind.i64.wrap ((((s[4]'h4).toNat : Nat) : Int) * (256 : Int)) = (((s[4]'h4).toNat : Nat) : Int) * (256 : Int) := IntWalk.i64_in _ (by omega)
  have k3 : IntKind.i64.wrap (((s[5]'h5).toNat : Nat) : Int) = (((s[5]'h5).toNat : Nat) : Int) := IntWalk.i64_in _ (by omega)
  have k4 : IntKind.i64.wrap ((((s[4]'h4).toNat : Nat) : Int) * (256 : Int) + (((s[5]'h5).toNat : Nat) : Int)) = (((s[4]'h4).toNat : Nat) : Int) * (256 : Int) + (((s[5]'h5).toNat : Nat) : Int) := IntWalk.i64_in _ (by omega)
  have m : ((((s[4]'h4).toNat : Nat) : Int) * (256 : Int) + (((s[5]'h5).toNat : Nat) : Int) == (s.size : Int)) = true := by
    rw [beq_iff_eq]
    have := HW.out
    omega
  have e68 : ¬ (s.extract 6 8).toList = [0, 0] := fun h => hz (hzz.2 (ba_ext (by rw [ByteArray.toList_eq] at h; exact h)))
  have e69 : ((s.extract 6 8).toList == [0, 0]) = false := by rw [beq_eq_false_iff_ne]; exact e68
  have m2 : (((wd s.data.toList 3 : Nat) : Int) == 0) = false := by rw [beq_eq_false_iff_ne]; omega
  have m4 : (ccode s ⟨#[]⟩ == 4) = false := by rw [beq_eq_false_iff_ne]; exact hcc
  have HCC := Lib.hid hcc
  clear hcc
  generalize ccode s ⟨#[]⟩ = cc at *
  clear hg h8 hs heq hc hd u4 u5 hx2 hx3 hzz hz
  generalize (dans s).fr = x0 at *
  generalize (dans s).dst = x1 at *
  generalize ((wd s.data.toList 3 : Nat) : Int) = x2 at *
  obtain ⟨x3, hx3⟩ : ∃ x3, x3 = s.extract 8 s.size := ⟨_, rfl⟩
  rw [← hx3] at HP
  have HX := Lib.hid hx3
  clear hx3
  go_enter Tryd.func3, Tryd.ntmps3
  go_wp2_with fail
  refine (HA.out _).mono ?_
  rintro e w1 ⟨rfl, b1⟩
  have HB1 := Lib.hid b1
  have HL1 := Lib.hid b1.size
  clear b1 HA
  go_wp2_with fail
  refine (HP.out _).mono ?_
  rintro e w2 ⟨x, rfl, he, b2⟩
  have hE := he.below ((Below.refl _ _).alloc (Nat.le_refl _) (.cells #[.int .i64 x0, .int .i64 x1, .int .i64 x2, .string x3] 24)) (Nat.le_refl _)
  have hbk : Bk (w2.alloc (.cells #[.int .i64 x0, .int .i64 x1, .int .i64 x2, .string x3] 24)) w2.heap.size 24 ([.int .i64 x0, .int .i64 x1, .int .i64 x2, .string x3] : List Value).toArray := bk_new _ _ _
  have hB2 : Below w.heap.size w (w2.alloc (.cells #[.int .i64 x0, .int .i64 x1, .int .i64 x2, .string x3] 24)) := (HB1.out.trans (b2.mono HL1.out)).alloc (Nat.le_trans HL1.out b2.size) _
  have hL2 : w.heap.size ≤ (w2.alloc (.cells #[.int .i64 x0, .int .i64 x1, .int .i64 x2, .string x3] 24)).heap.size := by have := HL1.out; have := b2.size; simp; omega
  have HE := Lib.hid hE
  have HB2 := Lib.hid hB2
  have HL2 := Lib.hid hL2
  have c0 := hbk.at (i := 0) rfl
  have c1 := hbk.at (i := 1) rfl
  have c2 := hbk.at (i := 2) rfl
  have c3 := hbk.at (i := 3) rfl
  clear he b2 HB1 HL1 hE hbk hB2 hL2 HP
  generalize hw3 : w2.alloc (.cells #[.int .i64 x0, .int .i64 x1, .int .i64 x2, .string x3] 24) = w3 at *
  go_upto_region 6 with (fail)
  clear hw3
  have hx : x = .nilIface := HE.out.nil
  subst hx
  clear HE
  go_region
  have hx3 := HX.out.symm
  go_upto_region 11 with (fail)
  clear k1 k2 k3 k4 m HW d0 i0
  refine wp_region_noPanic ?_
  refine wp_region_held_drew (S := fun w' => Below w.heap.size w w' ∧ w.heap.size ≤ w'.heap.size ∧ w'.cell? ⟨w2.heap.size, 2, none⟩ = some (.int .i64 x2) ∧ w'.cell? ⟨w2.heap.size, 3, none⟩ = some (.string x3)) (by kernel_rfl) (⟨HB2.out.drew.drew, HL2.out, c2, c3⟩) (fun hHeld => ?_)
  refine wpAnyH_take (i := 0) (oi := { dst := some 49, op := Op.fieldAddr 24 (Operand.tmp 3) 3, type := 0, pos := "outright.go:49", after := #[], guard := none }) (v := ?_) rfl (by kernel_rfl) (by kernel_rfl) (by kernel_rfl) (fun _ _ _ h => h) (Or.inl ⟨by rfl, ?_⟩) (by assumption) ?_
  rotate_left
  · (intro ww hSw; (try dsimp only at hSw); go_simp; try with_reducible rfl)
  (try simp only [Act.put, List.setIfInBounds_toArray, List.set_cons_zero, List.set_cons_succ])
  refine wpAnyH_take (i := 1) (oi := { dst := some 50, op := Op.load 9 (Operand.tmp 49), type := 9, pos := "outright.go:49", after := #[{ on := 0, ground := Ground.data }], guard := none }) (v := ?_) rfl (by kernel_rfl) (by kernel_rfl) (by kernel_rfl) (fun _ _ _ h => h) (Or.inl ⟨by rfl, ?_⟩) (by assumption) ?_
  rotate_left
  · (intro ww hSw; (try dsimp only at hSw); go_simp; try with_reducible rfl)
  (try simp only [Act.put, List.setIfInBounds_toArray, List.set_cons_zero, List.set_cons_succ])
  refine wpAnyH_take (i := 2) (oi := { dst := some 51, op := Op.move (Operand.tmp 0), type := 9, pos := "outright.go:49", after := #[], guard := none }) (v := ?_) rfl (by kernel_rfl) (by kernel_rfl) (by kernel_rfl) (fun _ _ _ h => h) (Or.inl ⟨by rfl, ?_⟩) (by assumption) ?_
  rotate_left
  · (intro ww hSw; (try dsimp only at hSw); go_simp; try with_reducible rfl)
  (try simp only [Act.put, List.setIfInBounds_toArray, List.set_cons_zero, List.set_cons_succ])
  refine wpAnyH_take (i := 3) (oi := { dst := some 52, op := Op.slice 9 (Operand.tmp 51) (some (Operand.const (Value.int IntKind.i64 8))) none none, type := 9, pos := "outright.go:49", after := #[{ on := 2, ground := Ground.data }], guard := none }) (v := ?_) rfl (by kernel_rfl) (by kernel_rfl) (by kernel_rfl) (fun _ _ _ h => h) (Or.inl ⟨by rfl, ?_⟩) (by assumption) ?_
  rotate_left
  · (intro ww hSw; (try dsimp only at hSw); go_simp; try with_reducible rfl)
  (try simp only [Act.put, List.setIfInBounds_toArray, List.set_cons_zero, List.set_cons_succ])
  refine wpAnyH_take (i := 4) (oi := { dst := some 53, op := Op.binOp BinOp.eql 9 (Operand.tmp 50) (Operand.tmp 52) 9, type := 4, pos := "outright.go:49", after := #[{ on := 1, ground := Ground.data }, { on := 3, ground := Ground.data }], guard := none }) (v := ?_) rfl (by kernel_rfl) (by kernel_rfl) (by kernel_rfl) (fun _ _ _ h => h) (Or.inl ⟨by rfl, ?_⟩) (by assumption) ?_
  rotate_left
  · (intro ww hSw; (try dsimp only at hSw); go_simp; try with_reducible rfl)
  (try simp only [Act.put, List.setIfInBounds_toArray, List.set_cons_zero, List.set_cons_succ])
  refine wpAnyH_take (i := 5) (oi := { dst := some 54, op := Op.move (Operand.tmp 53), type := 4, pos := "outright.go:49", after := #[{ on := 4, ground := Ground.data }], guard := none }) (v := ?_) rfl (by kernel_rfl) (by kernel_rfl) (by kernel_rfl) (fun _ _ _ h => h) (Or.inl ⟨by rfl, ?_⟩) (by assumption) ?_
  rotate_left
  · (intro ww hSw; (try dsimp only at hSw); go_simp; try with_reducible rfl)
  (try simp only [Act.put, List.setIfInBounds_toArray, List.set_cons_zero, List.set_cons_succ])
  refine wpAnyH_take (i := 6) (oi := { dst := some 55, op := Op.fieldAddr 24 (Operand.tmp 3) 2, type := 0, pos := "outright.go:49", after := #[{ on := 5, ground := Ground.guard }], guard := some (5, true) }) (v := ?_) rfl (by kernel_rfl) (by kernel_rfl) (by kernel_rfl) (fun _ _ _ h => h) (Or.inl ⟨by rfl, ?_⟩) (by assumption) ?_
  rotate_left
  · (intro ww hSw; (try dsimp only at hSw); go_simp; try with_reducible rfl)
  (try simp only [Act.put, List.setIfInBounds_toArray, List.set_cons_zero, List.set_cons_succ])
  refine wpAnyH_take (i := 7) (oi := { dst := some 56, op := Op.load 3 (Operand.tmp 55), type := 3, pos := "outright.go:49", after := #[{ on := 6, ground := Ground.data }, { on := 5, ground := Ground.guard }], guard := some (5, true) }) (v := ?_) rfl (by kernel_rfl) (by kernel_rfl) (by kernel_rfl) (fun _ _ _ h => h) (Or.inl ⟨by rfl, ?_⟩) (by assumption) ?_
  rotate_left
  · (intro ww hSw; (try dsimp only at hSw); go_simp; try with_reducible rfl)
  (try simp only [Act.put, List.setIfInBounds_toArray, List.set_cons_zero, List.set_cons_succ])
  refine wpAnyH_take (i := 8) (oi := { dst := some 57, op := Op.binOp BinOp.eql 3 (Operand.tmp 56) (Operand.const (Value.int IntKind.i64 0)) 3, type := 4, pos := "outright.go:49", after := #[{ on := 7, ground := Ground.data }, { on := 5, ground := Ground.guard }], guard := some (5, true) }) (v := ?_) rfl (by kernel_rfl) (by kernel_rfl) (by kernel_rfl) (fun _ _ _ h => h) (Or.inl ⟨by rfl, ?_⟩) (by assumption) ?_
  rotate_left
  · (intro ww hSw; (try dsimp only at hSw); go_simp; try with_reducible rfl)
  (try simp only [Act.put, List.setIfInBounds_toArray, List.set_cons_zero, List.set_cons_succ])
  refine wpAnyH_take (i := 9) (oi := { dst := some 58, op := Op.move (Operand.tmp 0), type := 9, pos := "outright.go:49", after := #[{ on := 5, ground := Ground.guard }], guard := some (5, true) }) (v := ?_) rfl (by kernel_rfl) (by kernel_rfl) (by kernel_rfl) (fun _ _ _ h => h) (Or.inl ⟨by rfl, ?_⟩) (by assumption) ?_
  rotate_left
  · (intro ww hSw; (try dsimp only at hSw); go_simp; try with_reducible rfl)
  (try simp only [Act.put, List.setIfInBounds_toArray, List.set_cons_zero, List.set_cons_succ])
  refine wpAnyH_take (i := 10) (oi := { dst := some 59, op := Op.slice 9 (Operand.tmp 58) (some (Operand.const (Value.int IntKind.i64 6))) (some (Operand.const (Value.int IntKind.i64 8))) none, type := 9, pos := "outright.go:49", after := #[{ on := 9, ground := Ground.data }, { on := 5, ground := Ground.guard }], guard := some (5, true) }) (v := ?_) rfl (by kernel_rfl) (by kernel_rfl) (by kernel_rfl) (fun _ _ _ h => h) (Or.inl ⟨by rfl, ?_⟩) (by assumption) ?_
  rotate_left
  · (intro ww hSw; (try dsimp only at hSw); go_simp; try with_reducible rfl)
  (try simp only [Act.put, List.setIfInBounds_toArray, List.set_cons_zero, List.set_cons_succ])
  refine wpAnyH_take (i := 11) (oi := { dst := some 60, op := Op.binOp BinOp.eql 9 (Operand.tmp 59) (Operand.const (Value.string { data := #[0, 0] })) 9, type := 4, pos := "outright.go:49", after := #[{ on := 10, ground := Ground.data }, { on := 5, ground := Ground.guard }], guard := some (5, true) }) (v := ?_) rfl (by kernel_rfl) (by kernel_rfl) (by kernel_rfl) (fun _ _ _ h => h) (Or.inl ⟨by rfl, ?_⟩) (by assumption) ?_
  rotate_left
  · (intro ww hSw; (try dsimp only at hSw); go_simp; try with_reducible rfl)
  (try simp only [Act.put, List.setIfInBounds_toArray, List.set_cons_zero, List.set_cons_succ])
  refine wpAnyH_take (i := 12) (oi := { dst := some 61, op := Op.binOp BinOp.eql 4 (Operand.tmp 57) (Operand.tmp 60) 4, type := 4, pos := "outright.go:49", after := #[{ on := 8, ground := Ground.data }, { on := 11, ground := Ground.data }, { on := 5, ground := Ground.guard }], guard := some (5, true) }) (v := ?_) rfl (by kernel_rfl) (by kernel_rfl) (by kernel_rfl) (fun _ _ _ h => h) (Or.inl ⟨by rfl, ?_⟩) (by assumption) ?_
  rotate_left
  · (intro ww hSw; (try dsimp only at hSw); go_simp; try with_reducible rfl)
  (try simp only [Act.put, List.setIfInBounds_toArray, List.set_cons_zero, List.set_cons_succ])
  refine wpAnyH_take (i := 13) (oi := { dst := some 62, op := Op.pick (Operand.tmp 54) (Operand.tmp 61) (Operand.const (Value.bool false)), type := 4, pos := "outright.go:49", after := #[{ on := 5, ground := Ground.data }, { on := 12, ground := Ground.data }], guard := none }) (v := ?_) rfl (by kernel_rfl) (by kernel_rfl) (by kernel_rfl) (fun _ _ _ h => h) (Or.inl ⟨by rfl, ?_⟩) (by assumption) ?_
  rotate_left
  · (intro ww hSw; (try dsimp only at hSw); go_simp; try with_reducible rfl)
  (try simp only [Act.put, List.setIfInBounds_toArray, List.set_cons_zero, List.set_cons_succ])
  refine wpAnyH_take (i := 14) (oi := { dst := some 63, op := Op.move (Operand.tmp 62), type := 4, pos := "outright.go:49", after := #[{ on := 13, ground := Ground.data }, { on := 5, ground := Ground.chain }], guard := none }) (v := ?_) rfl (by kernel_rfl) (by kernel_rfl) (by kernel_rfl) (fun _ _ _ h => h) (Or.inl ⟨by rfl, ?_⟩) (by assumption) ?_
  rotate_left
  · (intro ww hSw; (try dsimp only at hSw); go_simp; try with_reducible rfl)
  (try simp only [Act.put, List.setIfInBounds_toArray, List.set_cons_zero, List.set_cons_succ])
  refine wpAnyH_take (i := 15) (oi := { dst := some 64, op := Op.move (Operand.tmp 0), type := 9, pos := "outright.go:49", after := #[{ on := 14, ground := Ground.guard }], guard := some (14, true) }) (v := ?_) rfl (by kernel_rfl) (by kernel_rfl) (by kernel_rfl) (fun _ _ _ h => h) (Or.inl ⟨by rfl, ?_⟩) (by assumption) ?_
  rotate_left
  · (intro ww hSw; (try dsimp only at hSw); go_simp; try with_reducible rfl)
  (try simp only [Act.put, List.setIfInBounds_toArray, List.set_cons_zero, List.set_cons_succ])
  refine wpAnyH_take (i := 19) (oi := { dst := some 68, op := Op.fieldAddr 24 (Operand.tmp 3) 2, type := 0, pos := "outright.go:49", after := #[{ on := 14, ground := Ground.guard }], guard := some (14, true) }) (v := ?_) rfl (by kernel_rfl) (by kernel_rfl) (by kernel_rfl) (fun _ _ _ h => h) (Or.inl ⟨by rfl, ?_⟩) (by assumption) ?_
  rotate_left
  · (intro ww hSw; (try dsimp only at hSw); go_simp; try with_reducible rfl)
  (try simp only [Act.put, List.setIfInBounds_toArray, List.set_cons_zero, List.set_cons_succ])
  refine wpAnyH_take (i := 20) (oi := { dst := some 69, op := Op.load 3 (Operand.tmp 68), type := 3, pos := "outright.go:49", after := #[{ on := 19, ground := Ground.data }, { on := 14, ground := Ground.guard }], guard := some (14, true) }) (v := ?_) rfl (by kernel_rfl) (by kernel_rfl) (by kernel_rfl) (fun _ _ _ h => h) (Or.inl ⟨by rfl, ?_⟩) (by assumption) ?_
  rotate_left
  · (intro ww hSw; (try dsimp only at hSw); go_simp; try with_reducible rfl)
  (try simp only [Act.put, List.setIfInBounds_toArray, List.set_cons_zero, List.set_cons_succ])
  refine wpAnyH_take (i := 21) (oi := { dst := some 70, op := Op.binOp BinOp.eql 3 (Operand.tmp 69) (Operand.const (Value.int IntKind.i64 0)) 3, type := 4, pos := "outright.go:49", after := #[{ on := 20, ground := Ground.data }, { on := 14, ground := Ground.guard }], guard := some (14, true) }) (v := ?_) rfl (by kernel_rfl) (by kernel_rfl) (by kernel_rfl) (fun _ _ _ h => h) (Or.inl ⟨by rfl, ?_⟩) (by assumption) ?_
  rotate_left
  · (intro ww hSw; (try dsimp only at hSw); go_simp; try with_reducible rfl)
  (try simp only [Act.put, List.setIfInBounds_toArray, List.set_cons_zero, List.set_cons_succ])
  refine wpAnyH_ready (rs := [16]) (by kernel_rfl) (by simp) ?_
  refine AllReadyH.cons (o := { dst := some 65, op := Op.call { callee := Callee.value (Operand.func 7), args := #[Operand.tmp 64, Operand.const (Value.string { data := #[] })], argTypes := #[9, 9] }, type := 26, pos := "outright.go:49", after := #[{ on := 15, ground := Ground.data }, { on := 14, ground := Ground.chain }, { on := 14, ground := Ground.guard }], guard := some (14, true) }) rfl (fun K hK => ?_) AllReadyH.nil
  go_simp
  ((with_reducible refine (HC.out _).mono ?_); rintro e w9 ⟨y, rfl, hy, hb9⟩)
  refine hK.out _ _ (⟨hHeld.1.trans (hb9.mono hHeld.2.1), Nat.le_trans hHeld.2.1 hb9.size, cell_kept hHeld.2.2.1 hb9, cell_kept hHeld.2.2.2 hb9⟩) (fun hHeld => ?_)
  clear hK K
  (try simp only [Act.put, List.setIfInBounds_toArray, List.set_cons_zero, List.set_cons_succ])
  refine wpAnyH_ready (rs := [17]) (by kernel_rfl) (by simp) ?_
  refine AllReadyH.cons (o := { dst := some 66, op := Op.call { callee := Callee.value (Operand.func 6), args := #[Operand.tmp 65], argTypes := #[26] }, type := 29, pos := "outright.go:49", after := #[{ on := 16, ground := Ground.data }, { on := 16, ground := Ground.chain }, { on := 14, ground := Ground.guard }], guard := some (14, true) }) rfl (fun K hK => ?_) AllReadyH.nil
  have hc17 := code_any hy (HG.out.below hHeld.1 HG.out.lt)
  go_simp
  ((with_reducible refine (hc17).mono ?_); rintro e w9 ⟨rfl, hb9⟩)
  refine hK.out _ _ (⟨hHeld.1.trans (hb9.mono hHeld.2.1), Nat.le_trans hHeld.2.1 hb9.size, cell_kept hHeld.2.2.1 hb9, cell_kept hHeld.2.2.2 hb9⟩) (fun hHeld => ?_)
  clear hK K
  (try simp only [Act.put, List.setIfInBounds_toArray, List.set_cons_zero, List.set_cons_succ])
  refine wpAnyH_take (i := 18) (oi := { dst := some 67, op := Op.binOp BinOp.eql 29 (Operand.tmp 66) (Operand.const (Value.int IntKind.i64 4)) 29, type := 4, pos := "outright.go:49", after := #[{ on := 17, ground := Ground.data }, { on := 14, ground := Ground.guard }], guard := some (14, true) }) (v := ?_) rfl (by kernel_rfl) (by kernel_rfl) (by kernel_rfl) (fun _ _ _ h => h) (Or.inl ⟨by rfl, ?_⟩) (by assumption) ?_
  rotate_left
  · (intro ww hSw; (try dsimp only at hSw); go_simp; try with_reducible rfl)
  (try simp only [Act.put, List.setIfInBounds_toArray, List.set_cons_zero, List.set_cons_succ])
  refine wpAnyH_take (i := 22) (oi := { dst := some 71, op := Op.binOp BinOp.eql 4 (Operand.tmp 67) (Operand.tmp 70) 4, type := 4, pos := "outright.go:49", after := #[{ on := 18, ground := Ground.data }, { on := 21, ground := Ground.data }, { on := 14, ground := Ground.guard }], guard := some (14, true) }) (v := ?_) rfl (by kernel_rfl) (by kernel_rfl) (by kernel_rfl) (fun _ _ _ h => h) (Or.inl ⟨by rfl, ?_⟩) (by assumption) ?_
  rotate_left
  · (intro ww hSw; (try dsimp only at hSw); go_simp; try with_reducible rfl)
  (try simp only [Act.put, List.setIfInBounds_toArray, List.set_cons_zero, List.set_cons_succ])
  refine wpAnyH_take (i := 23) (oi := { dst := some 72, op := Op.pick (Operand.tmp 63) (Operand.tmp 71) (Operand.const (Value.bool false)), type := 4, pos := "outright.go:49", after := #[{ on := 14, ground := Ground.data }, { on := 22, ground := Ground.data }], guard := none }) (v := ?_) rfl (by kernel_rfl) (by kernel_rfl) (by kernel_rfl) (fun _ _ _ h => h) (Or.inl ⟨by rfl, ?_⟩) (by assumption) ?_
  rotate_left
  · (intro ww hSw; (try dsimp only at hSw); go_simp; try with_reducible rfl)
  (try simp only [Act.put, List.setIfInBounds_toArray, List.set_cons_zero, List.set_cons_succ])
  refine wpAnyH_take (i := 24) (oi := { dst := some 2, op := Op.assign (Operand.tmp 72), type := 4, pos := "outright.go:49", after := #[{ on := 23, ground := Ground.data }, { on := 17, ground := Ground.chain }, { on := 0, ground := Ground.phase }, { on := 1, ground := Ground.phase }, { on := 2, ground := Ground.phase }, { on := 3, ground := Ground.phase }, { on := 4, ground := Ground.phase }, { on := 5, ground := Ground.phase }, { on := 6, ground := Ground.phase }, { on := 7, ground := Ground.phase }, { on := 8, ground := Ground.phase }, { on := 9, ground := Ground.phase }, { on := 10, ground := Ground.phase }, { on := 11, ground := Ground.phase }, { on := 12, ground := Ground.phase }, { on := 13, ground := Ground.phase }, { on := 14, ground := Ground.phase }, { on := 15, ground := Ground.phase }, { on := 16, ground := Ground.phase }, { on := 17, ground := Ground.phase }, { on := 18, ground := Ground.phase }, { on := 19, ground := Ground.phase }, { on := 20, ground := Ground.phase }, { on := 21, ground := Ground.phase }, { on := 22, ground := Ground.phase }, { on := 23, ground := Ground.phase }], guard := none }) (v := ?_) rfl (by kernel_rfl) (by kernel_rfl) (by kernel_rfl) (fun _ _ _ h => h) (Or.inl ⟨by rfl, ?_⟩) (by assumption) ?_
  rotate_left
  · (intro ww hSw; (try dsimp only at hSw); go_simp; try with_reducible rfl)
  (try simp only [Act.put, List.setIfInBounds_toArray, List.set_cons_zero, List.set_cons_succ])
  refine wpAnyH_done (by kernel_rfl) ?_ _
  refine NoPanic.normal ?_
  have HF := Lib.hid (And.left hHeld)
  clear hHeld
  go_wp2_with fail
  go_ret
  exact ⟨rfl, HF.out⟩
theorem udpLengths_any (s : ByteArray) (w : World) (hg : Held w) :
    Calls Tryd.prog 3 #[.string s] w fun e w' => e = .returned (.bool true) ∧ Below w.heap.size w w' := by
  by_cases hs : s.size ≤ 70000
  · by_cases h8 : s.size < 8
    · exact lengths_short s w hg h8
    · by_cases hq : wd s.data.toList 2 = s.size
      · by_cases hz : wd s.data.toList 3 = 0
        · exact lengths_none s w hg h8 hs hq hz
        · exact lengths_some s w hg h8 hs hq hz
      · exact lengths_form s w hg h8 hs hq
  · have HA := Lib.hid (fun W => awake_true uSays W)
    have i0 : (70000 : Int) < (s.size : Int) := by omega
    have d0 := decide_eq_true i0
    clear hg hs
    go_enter Tryd.func3, Tryd.ntmps3
    go_wp2_with fail
    refine (HA.out _).mono ?_
    rintro e w1 ⟨rfl, b1⟩
    have HB1 := Lib.hid b1
    clear b1 HA
    go_wp2_with fail
    go_ret
    exact ⟨rfl, HB1.out⟩
end Go.Proofs.YtiemapkajpfikaaDoor
