/-
  Proved here: what the document's Bytes answers.
  Conditions: Data of at most 78000 bytes, heads of at most 1000; Rest fits its places.
-/
import Derived.Test.YtmfolkbmkfifcaaByt
namespace Go.Proofs.Ytmfolkbmkfifcaa
open Go.RowKit

theorem cell_kept {w w' : World} {p : Addr} {v : Value} (h : w.cell? p = some v) (hb : Below w.heap.size w w') : w'.cell? p = some v := (hb.cell (World.block_lt_of_cell? w p h)).trans h
theorem two_strs {a b : ByteArray} {c : Int} (h : a = b) : Ending.returned (.tuple #[.string a, .int .i64 c]) = Ending.returned (.tuple #[.string b, .int .i64 c]) := by rw [h]
set_option maxRecDepth 100000 in
theorem rbytes_range (x0 x1 : Int) (x2 : Nat) (x3 ps : ByteArray) (w : World) (hr : x0 < 0 ∨ 255 < x0 ∨ x1 < 0 ∨ 255 < x1) :
    Calls Try.prog 16 #[.string ps, .agg #[.int .i64 x0, .int .i64 x1, .int .u32 (x2 : Nat), .string x3]] w fun e w' => e = .returned (.tuple #[.string ⟨#[]⟩, .int .i64 13]) ∧ Below w.heap.size w w' := by
  have HB := Lib.hid (show Below w.heap.size w (w.alloc (.cells #[.int .i64 x0, .int .i64 x1, .int .u32 (x2 : Nat), .string x3] 26)) from (Below.refl _ _).alloc (Nat.le_refl _) _)
  go_enter Try.func16, Try.ntmps16
  by_cases a0 : x0 < 0
  · have d0 := decide_eq_true a0
    clear hr
    go_wp2_with fail
    go_ret2
    exact ⟨rfl, HB.out⟩
  · have d0 := decide_eq_false a0
    by_cases a1 : 255 < x0
    · have d1 := decide_eq_true a1
      clear hr
      go_wp2_with fail
      go_ret2
      exact ⟨rfl, HB.out⟩
    · have d1 := decide_eq_false a1
      by_cases a2 : x1 < 0
      · have d2 := decide_eq_true a2
        clear hr
        go_wp2_with fail
        go_ret2
        exact ⟨rfl, HB.out⟩
      · have d2 := decide_eq_false a2
        have a3 : 255 < x1 := by omega
        have d3 := decide_eq_true a3
        clear hr
        go_wp2_with fail
        go_ret2
        exact ⟨rfl, HB.out⟩
set_option maxRecDepth 100000 in
set_option maxHeartbeats 1000000 in
theorem rbytes_ok (x0 x1 : Int) (x2 : Nat) (x3 ps : ByteArray) (w : World) (hd : x3.size ≤ 78000) (hp : ps.size ≤ 1000) (hx : x2 < 4294967296) (p0 : 0 ≤ x0) (p1 : x0 ≤ 255) (q0 : 0 ≤ x1) (q1 : x1 ≤ 255) :
    Calls Try.prog 16 #[.string ps, .agg #[.int .i64 x0, .int .i64 x1, .int .u32 (x2 : Nat), .string x3]] w fun e w' => e = .returned (.tuple #[.string ((Ms.mk x0 x1 x2 x3).bytes ps), .int .i64 0]) ∧ Below w.heap.size w w' := by
  have HF1 : Hid ((Ms.mk x0 x1 x2 x3).form 0 = ⟨([u8i x0, u8i x1, 0, 0] ++ fwL x2 ++ x3.data.toList).toArray⟩) := Lib.hid (ba_ext (by rw [form_list]; rfl))
  have HF2 : Hid (∀ n : Int, (Ms.mk x0 x1 x2 x3).form n = ⟨((([u8i x0, u8i x1, 0, 0] ++ fwL x2 ++ x3.data.toList).set 2 (hiB n)).set 3 (loB n)).toArray⟩) := Lib.hid (fun n => ba_ext (by rw [form_list]; rfl))
  have hfs := form_size (Ms.mk x0 x1 x2 x3) 0
  dsimp only at hfs
  have HO : Hid (∀ W, Calls Try.prog 28 #[.string (ps ++ (Ms.mk x0 x1 x2 x3).form 0)] W fun e w' => e = .returned (.int .i64 ((Ms.mk x0 x1 x2 x3).sumN ps : Nat)) ∧ Below W.heap.size W w') := Lib.hid (fun W => rof_any _ W (by rw [dcat_len, hfs]; omega))
  have HBy : Hid ((Ms.mk x0 x1 x2 x3).bytes ps = (Ms.mk x0 x1 x2 x3).form ((Ms.mk x0 x1 x2 x3).sumN ps : Nat)) := Lib.hid rfl
  have hnl := sumN_le (Ms.mk x0 x1 x2 x3) ps
  have HL8 : Hid (#[Value.int .u8 x0, .int .u8 x1, .int .u8 0, .int .u8 0, .int .u8 (((x2 : Nat) : Int) / 16777216), .int .u8 (((x2 : Nat) : Int) / 65536 % 256), .int .u8 (((x2 : Nat) : Int) / 256 % 256), .int .u8 (((x2 : Nat) : Int) % 256)] = (bytV ([u8i x0, u8i x1, 0, 0] ++ fwL x2)).toArray) := Lib.hid (bytV8 ⟨p0, by omega⟩ ⟨q0, by omega⟩ ⟨by omega, by omega⟩ ⟨by omega, by omega⟩ ⟨by omega, by omega⟩ ⟨by omega, by omega⟩)
  generalize (Ms.mk x0 x1 x2 x3).bytes ps = BB at *
  generalize (Ms.mk x0 x1 x2 x3).sumN ps = n at *
  generalize (Ms.mk x0 x1 x2 x3).form 0 = F0 at *
  obtain ⟨L8, hL8⟩ : ∃ L, L = [u8i x0, u8i x1, 0, 0] ++ fwL x2 := ⟨_, rfl⟩
  have HLen8 : Hid (L8.length = 8) := Lib.hid (by rw [hL8]; rfl)
  rw [← hL8] at HF1 HF2 HL8
  clear hL8
  have a0 : ¬ x0 < 0 := by omega
  have a1 : ¬ 255 < x0 := by omega
  have a2 : ¬ x1 < 0 := by omega
  have a3 : ¬ 255 < x1 := by omega
  have d0 := decide_eq_false a0
  have d1 := decide_eq_false a1
  have d2 := decide_eq_false a2
  have d3 := decide_eq_false a3
  have k0 : IntKind.u8.wrap x0 = x0 := IntWalk.u8_in _ (by omega)
  have k1 : IntKind.u8.wrap x1 = x1 := IntWalk.u8_in _ (by omega)
  obtain ⟨b4, hb4⟩ : ∃ b : Int, b = ((x2 : Nat) : Int) / 16777216 := ⟨_, rfl⟩
  obtain ⟨b5, hb5⟩ : ∃ b : Int, b = ((x2 : Nat) : Int) / 65536 % 256 := ⟨_, rfl⟩
  obtain ⟨b6, hb6⟩ : ∃ b : Int, b = ((x2 : Nat) : Int) / 256 % 256 := ⟨_, rfl⟩
  obtain ⟨b7, hb7⟩ : ∃ b : Int, b = ((x2 : Nat) : Int) % 256 := ⟨_, rfl⟩
  have k4 : IntKind.u8.wrap (((x2 : Nat) : Int) / 16777216) = b4 := by rw [hb4]; exact IntWalk.u8_in _ (by omega)
  have k5 : IntKind.u8.wrap (((x2 : Nat) : Int) / 65536) = b5 := by rw [hb5, IntKind.wrap_u8]
  have k6 : IntKind.u8.wrap (((x2 : Nat) : Int) / 256) = b6 := by rw [hb6, IntKind.wrap_u8]
  have k7 : IntKind.u8.wrap ((x2 : Nat) : Int) = b7 := by rw [hb7, IntKind.wrap_u8]
  rw [← hb4, ← hb5, ← hb6, ← hb7] at HL8
  clear hb4 hb5 hb6 hb7
  have hK0 : Kp w w.heap.size [(w.heap.size, 26, ([.int .i64 x0, .int .i64 x1, .int .u32 (x2 : Nat), .string x3] : List Value))] (w.alloc (.cells ([.int .i64 x0, .int .i64 x1, .int .u32 (x2 : Nat), .string x3] : List Value).toArray 26)) := (Kp.start w).new 26 ([.int .i64 x0, .int .i64 x1, .int .u32 (x2 : Nat), .string x3] : List Value)
  have c0 := hK0.hd.at (i := 0) rfl
  have c1 := hK0.hd.at (i := 1) rfl
  have c2 := hK0.hd.at (i := 2) rfl
  have c3 := hK0.hd.at (i := 3) rfl
  have HK0 := Lib.hid hK0
  clear hK0
  generalize hw1 : w.alloc (.cells #[.int .i64 x0, .int .i64 x1, .int .u32 (x2 : Nat), .string x3] 26) = w1 at *
  have HX1 : Hid (8 + x3.size ≤ maxLen) := Lib.hid (by unfold maxLen; omega)
  have HX2 : Hid (8 + x3.size ≤ 140737488355328) := Lib.hid (by omega)
  have zo : ¬ 9223372036854775807 < ps.size + (8 + x3.size) := by omega
  have zf : F0.size = 8 + x3.size := hfs
  have HLn : Hid ((L8 ++ x3.data.toList).length = 8 + x3.size) := Lib.hid (by rw [List.length_append, HLen8.out, ba_size])
  obtain ⟨i9, hi9, hz0, hz1, hz2⟩ := info_parts Try.infoU8
  have HI := Lib.hid hi9
  have H0 := Lib.hid hz0
  have H1 := Lib.hid hz1
  have H2 := Lib.hid hz2
  have HN := Lib.hid hnl
  clear hi9 hz0 hz1 hz2 hd hp hx p0 p1 q0 q1 hfs hnl
  go_enter Try.func16, Try.ntmps16
  go_upto_region 1 with (fail)
  clear hw1
  go_upto_region 4 with (fail)
  clear d0 d1 d2 d3 a0 a1 a2 a3 c0 c1 c2 k0 k1 k4 k5 k6 k7
  rw [HL8.out]
  have hw := own_start (w := w1) (base := w.heap.size + 1) _ L8 rfl 8 HLen8.out (by unfold maxLen; omega) HK0.out.hd.lt
  have HO8 := Lib.hid hw
  have HK2 := Lib.hid (HK0.out.alloc (.cells (bytV L8).toArray 5))
  clear hw HK0 HL8 HLen8
  generalize w1.alloc (.cells (bytV L8).toArray 5) = w2 at *
  generalize (.slice (some ⟨w1.heap.size, 0, none⟩) 8 8 : Value) = v0 at *
  have HX3 : Hid (w.heap.size + 1 ≤ w2.heap.size) := Lib.hid HK2.out.hd.lt
  have c3 := HK2.out.hd.at (i := 3) rfl
  go_upto_region 5 with (at_builtin; refine Go.Lib.wpList_append_own_string _ rfl _ _ 45 9 rfl (w.heap.size + 1) 5 i9 Try.underlying45 Try.underlying9 HI.out H0.out H1.out H2.out _ 8 (bytV L8) rfl HO8.out x3 rfl HX1.out HX2.out HX3.out ?_; intro v1 w3 hown1 hgrow hnil)
  rw [strCells_bytV, bytV_cat] at hown1
  have HK3 := Lib.hid (HK2.out.grown hgrow (fun x hx he => by rw [List.mem_singleton.1 hx] at he; have := (HO8.out.lt _ he.symm).1; dsimp only at this; omega) (fun j hj => by have := (HO8.out.lt j hj).1; omega))
  obtain ⟨N8, hN8⟩ : ∃ n, n = 8 + x3.size := ⟨_, rfl⟩
  rw [← hN8] at hown1
  obtain ⟨g, cap, rfl, hg, hglt, hby, hlen⟩ := own_byts hown1 (by omega)
  have hcv := hby.str N8 cap hlen
  rw [← HF1.out] at hcv
  have HY1 := Lib.hid hby
  have HGs := Lib.hid hglt
  have HG := Lib.hid hg
  clear hown1 hgrow hnil HK2 HO8 c3 hby hglt hg hlen
  generalize L8 ++ x3.data.toList = L at *
  have hLn : L.length = N8 := by rw [HLn.out, hN8]
  have HL := Lib.hid hLn
  have H4 := Lib.hid (show 4 ≤ N8 by omega)
  rw [← hN8] at zo zf
  clear hLn hN8 HX1 HX2 HX3
  go_wp2_with fail
  refine (HO.out _).mono ?_
  rintro e w4 ⟨rfl, b4⟩
  have HK4 := Lib.hid (HK3.out.below b4 (Nat.le_refl _))
  have HY4 := Lib.hid (HY1.out.below b4 HGs.out)
  have HGs4 := Lib.hid (Nat.lt_of_lt_of_le HGs.out b4.size)
  clear b4 hcv zo zf HY1 HGs HK3 HO HF1
  obtain ⟨N, hN⟩ : ∃ N : Int, N = (n : Nat) := ⟨_, rfl⟩
  have n0 : 0 ≤ N := by omega
  have n1 : N ≤ 65535 := by have := HN.out; omega
  rw [← hN]
  rw [← hN] at HBy
  clear hN HN
  have HNE : Hid (∀ x ∈ [(w.heap.size, 26, ([.int .i64 x0, .int .i64 x1, .int .u32 (x2 : Nat), .string x3] : List Value))], x.1 ≠ g) := Lib.hid (fun x hx => by rw [List.mem_singleton.1 hx]; have := HG.out; show w.heap.size ≠ g; omega)
  have i4 : (3 : Int) < (N8 : Int) := by have := H4.out; omega
  have i2 : (2 : Int) < (N8 : Int) := by have := H4.out; omega
  go_upto_region 6 with (fail)
  have k1 : N.tdiv 256 = N / 256 := Int.tdiv_eq_ediv_of_nonneg (by omega)
  have k2 : IntKind.i64.wrap (N / 256) = N / 256 := IntWalk.i64_in _ (by omega)
  have k3 : IntKind.u8.wrap (N / 256) = N / 256 := IntWalk.u8_in _ (by omega)
  have cc := (HY4.out 2 (by have := HL.out; have := H4.out; omega)).1
  have cz := (HY4.out 2 (by have := HL.out; have := H4.out; omega)).2
  go_upto_region 7 with (fail)
  have HY5 := Lib.hid (HY4.out.set 2 (by have := HL.out; have := H4.out; omega) (hiB N) (N / 256) (hiB_int n0 n1))
  have HK5 := Lib.hid (HK4.out.set HNE.out (by have := HG.out; omega) 2 (.int .u8 (N / 256)))
  clear cc cz HY4 HK4 HGs4 k1 k2 k3
  generalize hw : w4.setCell ⟨g, 2, none⟩ (.int .u8 (N / 256)) = w5 at *
  clear hw
  have k1 : N.tmod 256 = N % 256 := Int.tmod_eq_emod_of_nonneg (by omega)
  have k2 : IntKind.i64.wrap (N % 256) = N % 256 := IntWalk.i64_in _ (by omega)
  have k3 : IntKind.u8.wrap (N % 256) = N % 256 := IntWalk.u8_in _ (by omega)
  have cc := (HY5.out 3 (by rw [List.length_set]; have := HL.out; have := H4.out; omega)).1
  have cz := (HY5.out 3 (by rw [List.length_set]; have := HL.out; have := H4.out; omega)).2
  go_upto_region 8 with (fail)
  have HY6 := Lib.hid (HY5.out.set 3 (by rw [List.length_set]; have := HL.out; have := H4.out; omega) (loB N) (N % 256) loB_int)
  have HK6 := Lib.hid (HK5.out.set HNE.out (by have := HG.out; omega) 3 (.int .u8 (N % 256)))
  clear cc cz HY5 HK5 k1 k2 k3
  generalize hw : w5.setCell ⟨g, 3, none⟩ (.int .u8 (N % 256)) = w6 at *
  clear hw
  have hcv := HY6.out.str N8 cap (by rw [List.length_set, List.length_set]; exact HL.out)
  rw [← HF2.out] at hcv
  go_wp2_with fail
  go_ret2
  exact ⟨two_strs HBy.out.symm, HK6.out.2.1⟩
theorem rbytes_any (d : Ms) (ps : ByteArray) (w : World) (hx : d.rs < 4294967296) (hd : d.da.size ≤ 78000) (hp : ps.size ≤ 1000) :
    Calls Try.prog 16 #[.string ps, .agg #[.int .i64 d.kd, .int .i64 d.cd, .int .u32 (d.rs : Nat), .string d.da]] w fun e w' => e = .returned (.tuple #[.string (d.out ps), .int .i64 d.why]) ∧ Below w.heap.size w w' := by
  obtain ⟨x0, x1, x2, x3⟩ := d
  dsimp only at hd hx
  unfold Ms.out
  by_cases hr : x0 < 0 ∨ 255 < x0 ∨ x1 < 0 ∨ 255 < x1
  · have e : (Ms.mk x0 x1 x2 x3).why = 13 := by unfold Ms.why; rw [if_pos hr]
    rw [e, if_neg (by decide)]
    exact rbytes_range x0 x1 x2 x3 ps w hr
  · have e : (Ms.mk x0 x1 x2 x3).why = 0 := by unfold Ms.why; rw [if_neg hr]
    rw [e, if_pos rfl]
    exact rbytes_ok x0 x1 x2 x3 ps w hd hp hx (by omega) (by omega) (by omega) (by omega)
end Go.Proofs.Ytmfolkbmkfifcaa
