/-
  Proved here: what the document's Bytes answers.
  Conditions: texts of at most 70000 bytes, pseudo heads of at most 1000.
-/
import Derived.Test.YtljlonligbheaaaByt
namespace Go.Proofs.Ytljlonligbheaaa
open Go.RowKit

theorem cell_kept {w w' : World} {p : Addr} {v : Value} (h : w.cell? p = some v) (hb : Below w.heap.size w w') : w'.cell? p = some v := (hb.cell (World.block_lt_of_cell? w p h)).trans h
theorem two_strs {a b : ByteArray} {c : Int} (h : a = b) : Ending.returned (.tuple #[.string a, .int .i64 c]) = Ending.returned (.tuple #[.string b, .int .i64 c]) := by rw [h]
set_option maxRecDepth 100000 in
theorem rbytes_form (x0 x1 x2 : Int) (x3 ps : ByteArray) (w : World) (hd : x3.size ≤ 70000) (h : tcode x3 ≠ 0) :
    Calls Try.prog 18 #[.agg #[.int .i64 x0, .int .i64 x1, .int .i64 x2, .string x3], .string ps] w fun e w' => e = .returned (.tuple #[.string ⟨#[]⟩, .int .i64 (tcode x3)]) ∧ Below w.heap.size w w' := by
  have m : (tcode x3 != 0) = true := by rw [bne_iff_ne]; exact h
  have HP : Hid (∀ W, Calls Try.prog 15 #[.string x3] W fun e w' => e = .returned (.tuple #[.agg #[.int .i64 (tans x3).fr, .int .i64 (tans x3).dst, .int .i64 (tans x3).fl, .string (tans x3).raw], .int .i64 (tcode x3)]) ∧ Below W.heap.size W w') := Lib.hid (fun W => rparse_any x3 W hd)
  generalize (tans x3).fr = y0 at *
  generalize (tans x3).dst = y1 at *
  generalize (tans x3).fl = y2 at *
  generalize (tans x3).raw = y3 at *
  clear h
  generalize tcode x3 = c at *
  have hK0 : Kp w w.heap.size [(w.heap.size, 23, ([.int .i64 x0, .int .i64 x1, .int .i64 x2, .string x3] : List Value))] (w.alloc (.cells ([.int .i64 x0, .int .i64 x1, .int .i64 x2, .string x3] : List Value).toArray 23)) := (Kp.start w).new 23 ([.int .i64 x0, .int .i64 x1, .int .i64 x2, .string x3] : List Value)
  have c3 := hK0.hd.at (i := 3) rfl
  have HK0 := Lib.hid hK0
  clear hK0
  generalize hw1 : w.alloc (.cells #[.int .i64 x0, .int .i64 x1, .int .i64 x2, .string x3] 23) = w1 at *
  go_enter Try.func18, Try.ntmps18
  go_upto_region 1 with (fail)
  clear hw1
  go_wp2_with fail
  refine (HP.out _).mono ?_
  rintro e w2 ⟨rfl, b2⟩
  have hK2 := (HK0.out.below b2 (Nat.le_refl _)).alloc (.cells #[.int .i64 y0, .int .i64 y1, .int .i64 y2, .string y3] 23)
  have c0 := hK2.hd.at (i := 0) rfl
  have c1 := hK2.hd.at (i := 1) rfl
  have c3 := hK2.hd.at (i := 3) rfl
  have HK2 := Lib.hid hK2
  clear b2 hK2 HK0 HP
  generalize hw3 : w2.alloc (.cells #[.int .i64 y0, .int .i64 y1, .int .i64 y2, .string y3] 23) = w3 at *
  go_upto_region 2 with (fail)
  clear hw3
  go_wp2_with fail
  go_ret2
  exact ⟨rfl, HK2.out.2.1⟩
set_option maxRecDepth 100000 in
theorem rbytes_range (x0 x1 x2 : Int) (x3 ps : ByteArray) (w : World) (hd : x3.size ≤ 70000) (h : tcode x3 = 0) (hr : x0 < 0 ∨ 65535 < x0 ∨ x1 < 0 ∨ 65535 < x1) :
    Calls Try.prog 18 #[.agg #[.int .i64 x0, .int .i64 x1, .int .i64 x2, .string x3], .string ps] w fun e w' => e = .returned (.tuple #[.string ⟨#[]⟩, .int .i64 13]) ∧ Below w.heap.size w w' := by
  have HP : Hid (∀ W, Calls Try.prog 15 #[.string x3] W fun e w' => e = .returned (.tuple #[.agg #[.int .i64 (tans x3).fr, .int .i64 (tans x3).dst, .int .i64 (tans x3).fl, .string (tans x3).raw], .int .i64 (tcode x3)]) ∧ Below W.heap.size W w') := Lib.hid (fun W => rparse_any x3 W hd)
  generalize (tans x3).fr = y0 at *
  generalize (tans x3).dst = y1 at *
  generalize (tans x3).fl = y2 at *
  generalize (tans x3).raw = y3 at *
  rw [h] at HP
  have hK0 : Kp w w.heap.size [(w.heap.size, 23, ([.int .i64 x0, .int .i64 x1, .int .i64 x2, .string x3] : List Value))] (w.alloc (.cells ([.int .i64 x0, .int .i64 x1, .int .i64 x2, .string x3] : List Value).toArray 23)) := (Kp.start w).new 23 ([.int .i64 x0, .int .i64 x1, .int .i64 x2, .string x3] : List Value)
  have c3 := hK0.hd.at (i := 3) rfl
  have HK0 := Lib.hid hK0
  clear hK0
  generalize hw1 : w.alloc (.cells #[.int .i64 x0, .int .i64 x1, .int .i64 x2, .string x3] 23) = w1 at *
  go_enter Try.func18, Try.ntmps18
  go_upto_region 1 with (fail)
  clear hw1
  go_wp2_with fail
  refine (HP.out _).mono ?_
  rintro e w2 ⟨rfl, b2⟩
  have hK2 := (HK0.out.below b2 (Nat.le_refl _)).alloc (.cells #[.int .i64 y0, .int .i64 y1, .int .i64 y2, .string y3] 23)
  have c0 := hK2.hd.at (i := 0) rfl
  have c1 := hK2.hd.at (i := 1) rfl
  have c3 := hK2.hd.at (i := 3) rfl
  have HK2 := Lib.hid hK2
  clear b2 hK2 HK0 HP
  generalize hw3 : w2.alloc (.cells #[.int .i64 y0, .int .i64 y1, .int .i64 y2, .string y3] 23) = w3 at *
  go_upto_region 2 with (fail)
  clear hw3
  clear h
  by_cases a0 : x0 < 0
  · have d0 := decide_eq_true a0
    go_wp2_with fail
    go_ret2
    exact ⟨rfl, HK2.out.2.1⟩
  · have d0 := decide_eq_false a0
    by_cases a1 : 65535 < x0
    · have d1 := decide_eq_true a1
      go_wp2_with fail
      go_ret2
      exact ⟨rfl, HK2.out.2.1⟩
    · have d1 := decide_eq_false a1
      by_cases a2 : x1 < 0
      · have d2 := decide_eq_true a2
        go_wp2_with fail
        go_ret2
        exact ⟨rfl, HK2.out.2.1⟩
      · have d2 := decide_eq_false a2
        have a3 : 65535 < x1 := by omega
        have d3 := decide_eq_true a3
        go_wp2_with fail
        go_ret2
        exact ⟨rfl, HK2.out.2.1⟩
set_option maxRecDepth 100000 in
set_option maxHeartbeats 1000000 in
theorem rbytes_ok (x0 x1 x2 : Int) (x3 ps : ByteArray) (w : World) (hd : x3.size ≤ 70000) (hp : ps.size ≤ 1000) (h : tcode x3 = 0) (p0 : 0 ≤ x0) (p1 : x0 ≤ 65535) (q0 : 0 ≤ x1) (q1 : x1 ≤ 65535) :
    Calls Try.prog 18 #[.agg #[.int .i64 x0, .int .i64 x1, .int .i64 x2, .string x3], .string ps] w fun e w' => e = .returned (.tuple #[.string ((Sg.mk x0 x1 x2 x3).bytes ps), .int .i64 0]) ∧ Below w.heap.size w w' := by
  have h20 := (tcode_ok h).1
  have HF1 : Hid ((Sg.mk x0 x1 x2 x3).form 0 = ⟨((((((x3.data.toList.set 0 (hiB x0)).set 1 (loB x0)).set 2 (hiB x1)).set 3 (loB x1)).set 16 0).set 17 0).toArray⟩) := Lib.hid (ba_ext (by rw [form_list _ _ (show 18 ≤ x3.size by omega)]; rfl))
  have HF2 : Hid (∀ n : Int, (Sg.mk x0 x1 x2 x3).form n = ⟨((((((((x3.data.toList.set 0 (hiB x0)).set 1 (loB x0)).set 2 (hiB x1)).set 3 (loB x1)).set 16 0).set 17 0).set 16 (hiB n)).set 17 (loB n)).toArray⟩) := Lib.hid (fun n => ba_ext (by rw [form_list _ _ (show 18 ≤ x3.size by omega)]; exact (set_again _ _ _ _ _).symm))
  have hfs := form_size (Sg.mk x0 x1 x2 x3) 0 (show 18 ≤ x3.size by omega)
  have hfs' : ((Sg.mk x0 x1 x2 x3).form 0).size = x3.size := hfs
  have HO : Hid (∀ W, Calls Try.prog 35 #[.string (ps ++ (Sg.mk x0 x1 x2 x3).form 0)] W fun e w' => e = .returned (.int .i64 ((Sg.mk x0 x1 x2 x3).sumN ps : Nat)) ∧ Below W.heap.size W w') := Lib.hid (fun W => rof_any _ W (by rw [dcat_len, hfs']; omega))
  have HBy : Hid ((Sg.mk x0 x1 x2 x3).bytes ps = (Sg.mk x0 x1 x2 x3).form ((Sg.mk x0 x1 x2 x3).sumN ps : Nat)) := Lib.hid rfl
  have hnl := sumN_le (Sg.mk x0 x1 x2 x3) ps
  have HP : Hid (∀ W, Calls Try.prog 15 #[.string x3] W fun e w' => e = .returned (.tuple #[.agg #[.int .i64 (tans x3).fr, .int .i64 (tans x3).dst, .int .i64 (tans x3).fl, .string (tans x3).raw], .int .i64 (tcode x3)]) ∧ Below W.heap.size W w') := Lib.hid (fun W => rparse_any x3 W hd)
  generalize (tans x3).fr = y0 at *
  generalize (tans x3).dst = y1 at *
  generalize (tans x3).fl = y2 at *
  generalize (tans x3).raw = y3 at *
  rw [h] at HP
  generalize (Sg.mk x0 x1 x2 x3).bytes ps = BB at *
  generalize (Sg.mk x0 x1 x2 x3).sumN ps = n at *
  generalize (Sg.mk x0 x1 x2 x3).form 0 = F0 at *
  have hK0 : Kp w w.heap.size [(w.heap.size, 23, ([.int .i64 x0, .int .i64 x1, .int .i64 x2, .string x3] : List Value))] (w.alloc (.cells ([.int .i64 x0, .int .i64 x1, .int .i64 x2, .string x3] : List Value).toArray 23)) := (Kp.start w).new 23 ([.int .i64 x0, .int .i64 x1, .int .i64 x2, .string x3] : List Value)
  have c3 := hK0.hd.at (i := 3) rfl
  have HK0 := Lib.hid hK0
  clear hK0
  generalize hw1 : w.alloc (.cells #[.int .i64 x0, .int .i64 x1, .int .i64 x2, .string x3] 23) = w1 at *
  go_enter Try.func18, Try.ntmps18
  go_upto_region 1 with (fail)
  clear hw1
  go_wp2_with fail
  refine (HP.out _).mono ?_
  rintro e w2 ⟨rfl, b2⟩
  have hK2 := (HK0.out.below b2 (Nat.le_refl _)).alloc (.cells #[.int .i64 y0, .int .i64 y1, .int .i64 y2, .string y3] 23)
  have c0 := hK2.hd.at (i := 0) rfl
  have c1 := hK2.hd.at (i := 1) rfl
  have c3 := hK2.hd.at (i := 3) rfl
  have HK2 := Lib.hid hK2
  clear b2 hK2 HK0 HP
  generalize hw3 : w2.alloc (.cells #[.int .i64 y0, .int .i64 y1, .int .i64 y2, .string y3] 23) = w3 at *
  go_upto_region 2 with (fail)
  clear hw3
  clear h hfs
  have d0 : decide (x0 < 0) = false := decide_eq_false (by omega)
  have d1 : decide (65535 < x0) = false := decide_eq_false (by omega)
  have d2 : decide (x1 < 0) = false := decide_eq_false (by omega)
  have d3 : decide (65535 < x1) = false := decide_eq_false (by omega)
  have a0 : ¬ x0 < 0 := by omega
  have a1 : ¬ 65535 < x0 := by omega
  have a2 : ¬ x1 < 0 := by omega
  have a3 : ¬ 65535 < x1 := by omega
  obtain ⟨g, cap, w4, hconv, hrow, hb4⟩ := bytes_new x3 w3
  have HY0 := Lib.hid hrow.1
  have HL0 : Hid (x3.data.toList.length = x3.size) := Lib.hid (ba_size x3)
  have HG := Lib.hid (Nat.le_trans HK2.out.2.2 hrow.2)
  have HNE : Hid (∀ x ∈ [(w.heap.size, 23, ([.int .i64 x0, .int .i64 x1, .int .i64 x2, .string x3] : List Value))], x.1 ≠ g) := Lib.hid (fun x hx => by rw [List.mem_singleton.1 hx]; have := HK2.out.hd.lt; have := hrow.2; show w.heap.size ≠ g; omega)
  have HGs : Hid (g < w4.heap.size) := Lib.hid (World.block_lt_of_cell? w4 ⟨g, 0, none⟩ (hrow.1 0 (by rw [ba_size]; omega)).1)
  have HK4 := Lib.hid (HK2.out.below hb4 (Nat.le_refl _))
  have i20 : (20 : Int) ≤ (x3.size : Int) := by omega
  clear hrow hb4 HK2
  go_upto_region 7 with (fail)
  clear hconv d0 d1 d2 d3 c0 c1 c3
  have i0 : (0 : Int) < (x3.size : Int) := by omega
  have i1 : (1 : Int) < (x3.size : Int) := by omega
  have i2 : (2 : Int) < (x3.size : Int) := by omega
  have i3 : (3 : Int) < (x3.size : Int) := by omega
  have i16 : (16 : Int) < (x3.size : Int) := by omega
  have i17 : (17 : Int) < (x3.size : Int) := by omega
  have j0 : 0 < x3.size := by omega
  have k1 : x0.tdiv 256 = x0 / 256 := Int.tdiv_eq_ediv_of_nonneg (by omega)
  have k2 : IntKind.i64.wrap (x0 / 256) = x0 / 256 := IntWalk.i64_in _ (by omega)
  have k3 : IntKind.u8.wrap (x0 / 256) = x0 / 256 := IntWalk.u8_in _ (by omega)
  have cl := HK4.out.hd.at (i := 0) rfl
  have cc := (HY0.out 0 (by have := HL0.out; omega)).1
  have cz := (HY0.out 0 (by have := HL0.out; omega)).2
  go_upto_region 8 with (fail)
  have HY1 := Lib.hid (HY0.out.set 0 (by have := HL0.out; omega) (hiB x0) ((x0 / 256)) (hiB_int p0 p1))
  have HL1 : Hid ((x3.data.toList.set 0 (hiB x0)).length = x3.size) := Lib.hid (by rw [List.length_set]; exact HL0.out)
  have HK5 := Lib.hid (HK4.out.set HNE.out HG.out 0 (.int .u8 ((x0 / 256))))
  have HGs5 : Hid (g < (w4.setCell ⟨g, 0, none⟩ (.int .u8 (x0 / 256))).heap.size) := Lib.hid (by have := HGs.out; simpa [World.setCell] using this)
  clear cc cz cl HY0 HL0 HK4 HGs k1 k2 k3
  generalize hw : w4.setCell ⟨g, 0, none⟩ (.int .u8 (x0 / 256)) = w5 at *
  clear hw
  have k1 : x0.tmod 256 = x0 % 256 := Int.tmod_eq_emod_of_nonneg (by omega)
  have k2 : IntKind.i64.wrap (x0 % 256) = x0 % 256 := IntWalk.i64_in _ (by omega)
  have k3 : IntKind.u8.wrap (x0 % 256) = x0 % 256 := IntWalk.u8_in _ (by omega)
  have cl := HK5.out.hd.at (i := 0) rfl
  have cc := (HY1.out 1 (by have := HL1.out; omega)).1
  have cz := (HY1.out 1 (by have := HL1.out; omega)).2
  go_upto_region 9 with (fail)
  have HY2 := Lib.hid (HY1.out.set 1 (by have := HL1.out; omega) (loB x0) ((x0 % 256)) loB_int)
  have HL2 : Hid (((x3.data.toList.set 0 (hiB x0)).set 1 (loB x0)).length = x3.size) := Lib.hid (by rw [List.length_set]; exact HL1.out)
  have HK6 := Lib.hid (HK5.out.set HNE.out HG.out 1 (.int .u8 ((x0 % 256))))
  have HGs6 : Hid (g < (w5.setCell ⟨g, 1, none⟩ (.int .u8 (x0 % 256))).heap.size) := Lib.hid (by have := HGs5.out; simpa [World.setCell] using this)
  clear cc cz cl HY1 HL1 HK5 HGs5 k1 k2 k3
  generalize hw : w5.setCell ⟨g, 1, none⟩ (.int .u8 (x0 % 256)) = w6 at *
  clear hw
  have k1 : x1.tdiv 256 = x1 / 256 := Int.tdiv_eq_ediv_of_nonneg (by omega)
  have k2 : IntKind.i64.wrap (x1 / 256) = x1 / 256 := IntWalk.i64_in _ (by omega)
  have k3 : IntKind.u8.wrap (x1 / 256) = x1 / 256 := IntWalk.u8_in _ (by omega)
  have cl := HK6.out.hd.at (i := 1) rfl
  have cc := (HY2.out 2 (by have := HL2.out; omega)).1
  have cz := (HY2.out 2 (by have := HL2.out; omega)).2
  go_upto_region 10 with (fail)
  have HY3 := Lib.hid (HY2.out.set 2 (by have := HL2.out; omega) (hiB x1) ((x1 / 256)) (hiB_int q0 q1))
  have HL3 : Hid ((((x3.data.toList.set 0 (hiB x0)).set 1 (loB x0)).set 2 (hiB x1)).length = x3.size) := Lib.hid (by rw [List.length_set]; exact HL2.out)
  have HK7 := Lib.hid (HK6.out.set HNE.out HG.out 2 (.int .u8 ((x1 / 256))))
  have HGs7 : Hid (g < (w6.setCell ⟨g, 2, none⟩ (.int .u8 (x1 / 256))).heap.size) := Lib.hid (by have := HGs6.out; simpa [World.setCell] using this)
  clear cc cz cl HY2 HL2 HK6 HGs6 k1 k2 k3
  generalize hw : w6.setCell ⟨g, 2, none⟩ (.int .u8 (x1 / 256)) = w7 at *
  clear hw
  have k1 : x1.tmod 256 = x1 % 256 := Int.tmod_eq_emod_of_nonneg (by omega)
  have k2 : IntKind.i64.wrap (x1 % 256) = x1 % 256 := IntWalk.i64_in _ (by omega)
  have k3 : IntKind.u8.wrap (x1 % 256) = x1 % 256 := IntWalk.u8_in _ (by omega)
  have cl := HK7.out.hd.at (i := 1) rfl
  have cc := (HY3.out 3 (by have := HL3.out; omega)).1
  have cz := (HY3.out 3 (by have := HL3.out; omega)).2
  go_upto_region 11 with (fail)
  have HY4 := Lib.hid (HY3.out.set 3 (by have := HL3.out; omega) (loB x1) ((x1 % 256)) loB_int)
  have HL4 : Hid (((((x3.data.toList.set 0 (hiB x0)).set 1 (loB x0)).set 2 (hiB x1)).set 3 (loB x1)).length = x3.size) := Lib.hid (by rw [List.length_set]; exact HL3.out)
  have HK8 := Lib.hid (HK7.out.set HNE.out HG.out 3 (.int .u8 ((x1 % 256))))
  have HGs8 : Hid (g < (w7.setCell ⟨g, 3, none⟩ (.int .u8 (x1 % 256))).heap.size) := Lib.hid (by have := HGs7.out; simpa [World.setCell] using this)
  clear cc cz cl HY3 HL3 HK7 HGs7 k1 k2 k3
  generalize hw : w7.setCell ⟨g, 3, none⟩ (.int .u8 (x1 % 256)) = w8 at *
  clear hw
  have cc := (HY4.out 16 (by have := HL4.out; omega)).1
  have cz := (HY4.out 16 (by have := HL4.out; omega)).2
  go_upto_region 12 with (fail)
  have HY5 := Lib.hid (HY4.out.set 16 (by have := HL4.out; omega) ((0 : UInt8)) (0) rfl)
  have HL5 : Hid ((((((x3.data.toList.set 0 (hiB x0)).set 1 (loB x0)).set 2 (hiB x1)).set 3 (loB x1)).set 16 ((0 : UInt8))).length = x3.size) := Lib.hid (by rw [List.length_set]; exact HL4.out)
  have HK9 := Lib.hid (HK8.out.set HNE.out HG.out 16 (.int .u8 (0)))
  have HGs9 : Hid (g < (w8.setCell ⟨g, 16, none⟩ (.int .u8 0)).heap.size) := Lib.hid (by have := HGs8.out; simpa [World.setCell] using this)
  clear cc cz  HY4 HL4 HK8 HGs8
  generalize hw : w8.setCell ⟨g, 16, none⟩ (.int .u8 0) = w9 at *
  clear hw
  have cc := (HY5.out 17 (by have := HL5.out; omega)).1
  have cz := (HY5.out 17 (by have := HL5.out; omega)).2
  go_upto_region 13 with (fail)
  have HY6 := Lib.hid (HY5.out.set 17 (by have := HL5.out; omega) ((0 : UInt8)) (0) rfl)
  have HL6 : Hid (((((((x3.data.toList.set 0 (hiB x0)).set 1 (loB x0)).set 2 (hiB x1)).set 3 (loB x1)).set 16 ((0 : UInt8))).set 17 ((0 : UInt8))).length = x3.size) := Lib.hid (by rw [List.length_set]; exact HL5.out)
  have HK10 := Lib.hid (HK9.out.set HNE.out HG.out 17 (.int .u8 (0)))
  have HGs10 : Hid (g < (w9.setCell ⟨g, 17, none⟩ (.int .u8 0)).heap.size) := Lib.hid (by have := HGs9.out; simpa [World.setCell] using this)
  clear cc cz  HY5 HL5 HK9 HGs9
  generalize hw : w9.setCell ⟨g, 17, none⟩ (.int .u8 0) = w10 at *
  clear hw
  have hcv := HY6.out.str x3.size cap HL6.out
  rw [← HF1.out] at hcv
  have zo : ¬ 9223372036854775807 < ps.size + x3.size := by omega
  have zc := dcat_len
  go_wp2_with fail
  refine (HO.out _).mono ?_
  rintro e w11 ⟨rfl, b11⟩
  have HK11 := Lib.hid (HK10.out.below b11 (Nat.le_refl _))
  have HY7 := Lib.hid (HY6.out.below b11 HGs10.out)
  have HGs11 := Lib.hid (Nat.lt_of_lt_of_le HGs10.out b11.size)
  have HL7 := HL6
  clear b11 hcv zo zc HY6 HL6 HK10 HGs10 HO HF1 hfs'
  obtain ⟨N, hN⟩ : ∃ N : Int, N = (n : Nat) := ⟨_, rfl⟩
  have n0 : 0 ≤ N := by omega
  have n1 : N ≤ 65535 := by omega
  rw [← hN]
  rw [← hN] at HBy
  clear hN hnl
  go_upto_region 14 with (fail)
  have k1 : N.tdiv 256 = N / 256 := Int.tdiv_eq_ediv_of_nonneg (by omega)
  have k2 : IntKind.i64.wrap (N / 256) = N / 256 := IntWalk.i64_in _ (by omega)
  have k3 : IntKind.u8.wrap (N / 256) = N / 256 := IntWalk.u8_in _ (by omega)
  have cc := (HY7.out 16 (by have := HL7.out; omega)).1
  have cz := (HY7.out 16 (by have := HL7.out; omega)).2
  go_upto_region 15 with (fail)
  have HY8 := Lib.hid (HY7.out.set 16 (by have := HL7.out; omega) (hiB N) ((N / 256)) (hiB_int n0 n1))
  have HL8 : Hid ((((((((x3.data.toList.set 0 (hiB x0)).set 1 (loB x0)).set 2 (hiB x1)).set 3 (loB x1)).set 16 ((0 : UInt8))).set 17 ((0 : UInt8))).set 16 (hiB N)).length = x3.size) := Lib.hid (by rw [List.length_set]; exact HL7.out)
  have HK12 := Lib.hid (HK11.out.set HNE.out HG.out 16 (.int .u8 ((N / 256))))
  have HGs12 : Hid (g < (w11.setCell ⟨g, 16, none⟩ (.int .u8 (N / 256))).heap.size) := Lib.hid (by have := HGs11.out; simpa [World.setCell] using this)
  clear cc cz  HY7 HL7 HK11 HGs11 k1 k2 k3
  generalize hw : w11.setCell ⟨g, 16, none⟩ (.int .u8 (N / 256)) = w12 at *
  clear hw
  have k1 : N.tmod 256 = N % 256 := Int.tmod_eq_emod_of_nonneg (by omega)
  have k2 : IntKind.i64.wrap (N % 256) = N % 256 := IntWalk.i64_in _ (by omega)
  have k3 : IntKind.u8.wrap (N % 256) = N % 256 := IntWalk.u8_in _ (by omega)
  have cc := (HY8.out 17 (by have := HL8.out; omega)).1
  have cz := (HY8.out 17 (by have := HL8.out; omega)).2
  go_upto_region 16 with (fail)
  have HY9 := Lib.hid (HY8.out.set 17 (by have := HL8.out; omega) (loB N) ((N % 256)) loB_int)
  have HL9 : Hid (((((((((x3.data.toList.set 0 (hiB x0)).set 1 (loB x0)).set 2 (hiB x1)).set 3 (loB x1)).set 16 ((0 : UInt8))).set 17 ((0 : UInt8))).set 16 (hiB N)).set 17 (loB N)).length = x3.size) := Lib.hid (by rw [List.length_set]; exact HL8.out)
  have HK13 := Lib.hid (HK12.out.set HNE.out HG.out 17 (.int .u8 ((N % 256))))
  have HGs13 : Hid (g < (w12.setCell ⟨g, 17, none⟩ (.int .u8 (N % 256))).heap.size) := Lib.hid (by have := HGs12.out; simpa [World.setCell] using this)
  clear cc cz  HY8 HL8 HK12 HGs12 k1 k2 k3
  generalize hw : w12.setCell ⟨g, 17, none⟩ (.int .u8 (N % 256)) = w13 at *
  clear hw
  have hcv := HY9.out.str x3.size cap HL9.out
  rw [← HF2.out] at hcv
  go_wp2_with fail
  go_ret2
  exact ⟨two_strs HBy.out.symm, HK13.out.2.1⟩
theorem rbytes_any (d : Sg) (ps : ByteArray) (w : World) (hd : d.raw.size ≤ 70000) (hp : ps.size ≤ 1000) :
    Calls Try.prog 18 #[.agg #[.int .i64 d.fr, .int .i64 d.dst, .int .i64 d.fl, .string d.raw], .string ps] w fun e w' => e = .returned (.tuple #[.string (d.out ps), .int .i64 d.why]) ∧ Below w.heap.size w w' := by
  obtain ⟨x0, x1, x2, x3⟩ := d
  dsimp only at hd
  unfold Sg.out
  by_cases h : tcode x3 = 0
  · by_cases hr : x0 < 0 ∨ 65535 < x0 ∨ x1 < 0 ∨ 65535 < x1
    · have e : (Sg.mk x0 x1 x2 x3).why = 13 := by unfold Sg.why; rw [if_neg (fun k => k h), if_pos hr]
      rw [e, if_neg (by decide)]
      exact rbytes_range x0 x1 x2 x3 ps w hd h hr
    · have e : (Sg.mk x0 x1 x2 x3).why = 0 := by unfold Sg.why; rw [if_neg (fun k => k h), if_neg hr]
      rw [e, if_pos rfl]
      exact rbytes_ok x0 x1 x2 x3 ps w hd hp h (by omega) (by omega) (by omega) (by omega)
  · have e : (Sg.mk x0 x1 x2 x3).why = tcode x3 := by unfold Sg.why; rw [if_pos h]
    rw [e, if_neg h]
    exact rbytes_form x0 x1 x2 x3 ps w hd h
end Go.Proofs.Ytljlonligbheaaa
