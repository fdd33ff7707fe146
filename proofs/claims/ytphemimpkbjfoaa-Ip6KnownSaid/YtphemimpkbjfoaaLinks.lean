/-
  Proved here: the law Ip6Links answers true, and leaves old memory as it was.
  Conditions: none.
-/
import Derived.Test.YtphemimpkbjfoaaLinksPlain
import Derived.Test.YtphemimpkbjfoaaChains
namespace Go.Proofs.Ytphemimpkbjfoaa
open Go.RowKit

theorem ext_kept {w0 w w' : World} {g : Nat} {c0 c1 : Value} (h : Below w0.heap.size w0 w ∧ w.cell? ⟨g, 0, none⟩ = some c0 ∧ w.cell? ⟨g, 1, none⟩ = some c1) (hb : Below w.heap.size w w') :
    Below w0.heap.size w0 w' ∧ w'.cell? ⟨g, 0, none⟩ = some c0 ∧ w'.cell? ⟨g, 1, none⟩ = some c1 :=
  ⟨h.1.trans (hb.mono h.1.size), (hb.cell (p := ⟨g, 0, none⟩) (World.block_lt_of_cell? w ⟨g, 0, none⟩ h.2.1)).trans h.2.1, (hb.cell (p := ⟨g, 1, none⟩) (World.block_lt_of_cell? w ⟨g, 1, none⟩ h.2.2)).trans h.2.2⟩
theorem Try.execXg (a : Act) (t : Nat) (ao : Option Addr) (n cap : Nat) (d : Option Tmp) (ty : TypeId) (ps : String) (af : Array Edge) (g : Option (Tmp × Bool)) (w : World) (h1 : a.eval (.tmp t) = .slice ao n cap) :
    (execOp a.eval { dst := d, op := .build 31 #[(5, .tmp t)], type := ty, pos := ps, after := af, guard := g }).run Try.prog w = .ok (.value (.agg (pk0.vals (.slice ao n cap)).toArray)) w := Try.execX a t ao n cap d ty ps af w h1
/-- The first extension's cells. -/
theorem own_first {w : World} {base : Nat} {v : Value} {x : Int × ByteArray} {l : List (Int × ByteArray)} (h : w.ownsRow base 40 2 v (x :: l).length (extV (x :: l))) :
    ∃ g cap, v = .slice (some ⟨g, 0, none⟩) (l.length + 1) cap ∧ w.cell? ⟨g, 0, none⟩ = some (.int .i64 x.1) ∧ w.cell? ⟨g, 1, none⟩ = some (.string x.2) ∧ l.length + 1 ≤ cap := by
  obtain ⟨h0, ⟨rfl, h1⟩ | ⟨g, cap, cur, rfl, hb, hh, h3, h4, h5, h6⟩⟩ := h
  · cases h1
  · have hx : Exs w (.slice (some ⟨g, 0, none⟩) (x :: l).length cap) (x :: l) := exs_own ⟨h0, .inr ⟨g, cap, cur, rfl, hb, hh, h3, h4, h5, h6⟩⟩
    obtain ⟨b, o, e, c1, c2⟩ := exs_cells hx 0 (Nat.zero_lt_succ _)
    injection e with e
    injection e with e1 e2 e3
    subst e1 e2
    exact ⟨g, cap, rfl, c1, c2, h3⟩
/-- The extensions behind the first. -/
theorem exs_tail {w : World} {g n cap cap' : Nat} {x : Int × ByteArray} {l : List (Int × ByteArray)} (h : Exs w (.slice (some ⟨g, 0, none⟩) n cap) (x :: l)) : Exs w (.slice (some ⟨g, 2, none⟩) l.length cap') l := by
  refine ⟨_, _, rfl, fun i hi => ?_⟩
  obtain ⟨b, o, e, c1, c2⟩ := exs_cells h (i + 1) (Nat.succ_lt_succ hi)
  injection e with e
  injection e with e1 e2 e3
  subst e1 e2
  refine ⟨g, 2, rfl, ?_, ?_⟩
  · rw [show 2 + i * 2 = 0 + (i + 1) * 2 by omega]; exact c1
  · rw [show 2 + i * 2 + 1 = 0 + (i + 1) * 2 + 1 by omega]; exact c2
set_option maxRecDepth 100000 in
set_option maxHeartbeats 400000 in
theorem ip6Links_long (n m : Nat) (s : ByteArray) (r : Bool) (w : World) (h : 3000 < s.size) :
    Calls Try.prog 9 #[.int .u8 n, .string s, .int .u8 m, .bool r] w fun e w' => e = .returned (.bool true) ∧ Below w.heap.size w w' := by
  have hI : (3000 : Int) < (s.size : Int) := by omega
  clear h
  go_enter Try.func9, Try.ntmps9
  go_wp2_with fail
  refine (awake_true w).mono ?_
  rintro e w1 ⟨rfl, b1⟩
  have HB := Lib.hid b1
  clear b1
  go_wp2_with fail
  go_ret
  exact ⟨rfl, HB.out⟩
set_option maxRecDepth 100000 in
set_option maxHeartbeats 1000000 in
theorem ip6Links_bad43 (n m : Nat) (s : ByteArray) (w : World) (h : ¬ 3000 < s.size) (hn : n < 256) (hm : m < 256) (R R' : Chn) (hR : chnE [] n s = R) (hR' : chnE [] 43 (ahead n m (6 + 8 * m) s) = R') (hA : R = bad R.code) (hc1 : R.code ≠ 0) (hc2 : R'.code ≠ 0) :
    Calls Try.prog 9 #[.int .u8 n, .string s, .int .u8 m, .bool true] w fun e w' => e = .returned (.bool true) ∧ Below w.heap.size w w' := by
  obtain ⟨c, hc0⟩ : ∃ c, R = bad c := ⟨_, hA⟩
  clear hA
  subst hc0
  have hI : ¬ (3000 : Int) < (s.size : Int) := by omega
  have hz := zs_size (6 + 8 * m)
  have hts : (ahead n m (6 + 8 * m) s).size = 8 + 8 * m + s.size := by
    unfold ahead
    rw [← ba_size, ByteArray.data_append, Array.toList_append, List.length_append, ba_size, ba_size, ← ba_size, ByteArray.data_append, Array.toList_append, List.length_append, ba_size, ba_size, hz]
    show 2 + _ + _ = _
    omega
  have C1 := Lib.hid (fun W => chain_any n s W (by omega))
  have C2 := Lib.hid (fun W => chain_any 43 (ahead n m (6 + 8 * m) s) W (by omega))
  rw [hR] at C1
  rw [hR'] at C2
  have CZ := Lib.hid (fun W => zeros_at (6 + 8 * (m : Int)) (6 + 8 * m) (by omega) W (by omega))
  have k1 : IntKind.i64.wrap (n : Int) = (n : Int) := IntWalk.i64_in _ (by omega)
  have k2 : IntKind.i64.wrap (m : Int) = (m : Int) := IntWalk.i64_in _ (by omega)
  have k3 : IntKind.i64.wrap (8 * (m : Int)) = 8 * (m : Int) := IntWalk.i64_in _ (by omega)
  have k4 : IntKind.i64.wrap (6 + 8 * (m : Int)) = 6 + 8 * (m : Int) := IntWalk.i64_in _ (by omega)
  unfold ahead at C2
  have hz2 : (zs (6 + 8 * m)).size ≤ 3000 := by omega
  have hs2 : s.size ≤ 3000 := by omega
  have hmi : (m : Int) < 256 := by omega
  have hni : (n : Int) < 256 := by omega
  clear hz hts hR hR' h hn hm k1 k2 k3 k4
  have z0 : (strOfNums [(n : Int), (m : Int)]).size = 2 := rfl
  generalize zs (6 + 8 * m) = Q at *
  have zc := cat_len
  have hcv := conv2
  go_enter Try.func9, Try.ntmps9
  go_wp2_with fail
  refine (awake_true w).mono ?_
  rintro e w1 ⟨rfl, b1⟩
  have HB := Lib.hid b1
  clear b1
  go_wp2_with fail
  refine (C1.out w1).mono ?_
  rintro e w2 ⟨v, x, rfl, hown, herr, b2⟩
  have HB2 := Lib.hid (HB.out.trans (b2.mono HB.out.size))
  have HO2 := Lib.hid hown
  have HE2 := Lib.hid herr
  clear b2 hown herr HB
  go_wp2_with fail
  refine (CZ.out _).mono ?_
  rintro e w3 ⟨rfl, b3⟩
  have HB3 := Lib.hid (HB2.out.trans (b3.mono HB2.out.size))
  have HO3 := Lib.hid ((exs_own HO2.out).below b3 (Nat.le_refl _))
  have HE3 := Lib.hid (HE2.out.below b3 (Nat.le_refl _))
  clear b3 HB2 HE2
  go_wp2_with fail
  refine (C2.out _).mono ?_
  rintro e w4 ⟨v', x', rfl, hown, herr, b4⟩
  have hbz : Below w3.heap.size w3 (w3.alloc (.cells #[.int .u8 n, .int .u8 m] 5)) := (Below.refl _ _).alloc (Nat.le_refl _) _
  have hb4 := hbz.trans (b4.mono hbz.size)
  have HB4 := Lib.hid (HB3.out.trans (hb4.mono HB3.out.size))
  have HX4 := Lib.hid (HO3.out.below hb4 (Nat.le_refl _))
  have HE4 := Lib.hid (HE3.out.below hb4 (Nat.le_refl _))
  have HO4 := Lib.hid hown
  have HF4 := Lib.hid herr
  clear b4 hown herr hbz hb4 HB3 HO3 HE3
  obtain ⟨he, _⟩ | ⟨hc, f, rfl, hf, _⟩ := HE4.out
  · exact absurd he hc1
  obtain ⟨he, _⟩ | ⟨hc', f', rfl, hf', _⟩ := HF4.out
  · exact absurd he hc2
  obtain ⟨ao, cap, rfl, _⟩ := id HX4.out
  have hb0 : (bad c).exts.length = 0 := rfl
  have hb1 : (bad c).proto = 0 := rfl
  have hb2 : (bad c).rest = ⟨#[]⟩ := rfl
  rw [hb0, hb1, hb2]
  clear hf hf' hc hc' hb0 hb1 hb2
  go_wp2_with fail
  go_ret
  exact ⟨rfl, HB4.out⟩
set_option maxRecDepth 100000 in
set_option maxHeartbeats 1000000 in
theorem ip6Links_full43 (n m : Nat) (s : ByteArray) (w : World) (h : ¬ 3000 < s.size) (hn : n < 256) (hm : m < 256) (R R' : Chn) (hR : chnE [] n s = R) (hR' : chnE [] 43 (ahead n m (6 + 8 * m) s) = R') (hA : R.code = 0) (h8 : R.exts.length = 8) (hc2 : R'.code ≠ 0) :
    Calls Try.prog 9 #[.int .u8 n, .string s, .int .u8 m, .bool true] w fun e w' => e = .returned (.bool true) ∧ Below w.heap.size w w' := by
  have hI : ¬ (3000 : Int) < (s.size : Int) := by omega
  have hz := zs_size (6 + 8 * m)
  have hts : (ahead n m (6 + 8 * m) s).size = 8 + 8 * m + s.size := by
    unfold ahead
    rw [← ba_size, ByteArray.data_append, Array.toList_append, List.length_append, ba_size, ba_size, ← ba_size, ByteArray.data_append, Array.toList_append, List.length_append, ba_size, ba_size, hz]
    show 2 + _ + _ = _
    omega
  have C1 := Lib.hid (fun W => chain_any n s W (by omega))
  have C2 := Lib.hid (fun W => chain_any 43 (ahead n m (6 + 8 * m) s) W (by omega))
  rw [hR] at C1
  rw [hR'] at C2
  have CZ := Lib.hid (fun W => zeros_at (6 + 8 * (m : Int)) (6 + 8 * m) (by omega) W (by omega))
  have k1 : IntKind.i64.wrap (n : Int) = (n : Int) := IntWalk.i64_in _ (by omega)
  have k2 : IntKind.i64.wrap (m : Int) = (m : Int) := IntWalk.i64_in _ (by omega)
  have k3 : IntKind.i64.wrap (8 * (m : Int)) = 8 * (m : Int) := IntWalk.i64_in _ (by omega)
  have k4 : IntKind.i64.wrap (6 + 8 * (m : Int)) = 6 + 8 * (m : Int) := IntWalk.i64_in _ (by omega)
  unfold ahead at C2
  have hz2 : (zs (6 + 8 * m)).size ≤ 3000 := by omega
  have hs2 : s.size ≤ 3000 := by omega
  have hmi : (m : Int) < 256 := by omega
  have hni : (n : Int) < 256 := by omega
  clear hz hts hR hR' h hn hm k1 k2 k3 k4
  have z0 : (strOfNums [(n : Int), (m : Int)]).size = 2 := rfl
  generalize zs (6 + 8 * m) = Q at *
  have zc := cat_len
  have hcv := conv2
  go_enter Try.func9, Try.ntmps9
  go_wp2_with fail
  refine (awake_true w).mono ?_
  rintro e w1 ⟨rfl, b1⟩
  have HB := Lib.hid b1
  clear b1
  go_wp2_with fail
  refine (C1.out w1).mono ?_
  rintro e w2 ⟨v, x, rfl, hown, herr, b2⟩
  have HB2 := Lib.hid (HB.out.trans (b2.mono HB.out.size))
  have HO2 := Lib.hid hown
  have HE2 := Lib.hid herr
  clear b2 hown herr HB
  go_wp2_with fail
  refine (CZ.out _).mono ?_
  rintro e w3 ⟨rfl, b3⟩
  have HB3 := Lib.hid (HB2.out.trans (b3.mono HB2.out.size))
  have HO3 := Lib.hid ((exs_own HO2.out).below b3 (Nat.le_refl _))
  have HE3 := Lib.hid (HE2.out.below b3 (Nat.le_refl _))
  clear b3 HB2 HE2
  go_wp2_with fail
  refine (C2.out _).mono ?_
  rintro e w4 ⟨v', x', rfl, hown, herr, b4⟩
  have hbz : Below w3.heap.size w3 (w3.alloc (.cells #[.int .u8 n, .int .u8 m] 5)) := (Below.refl _ _).alloc (Nat.le_refl _) _
  have hb4 := hbz.trans (b4.mono hbz.size)
  have HB4 := Lib.hid (HB3.out.trans (hb4.mono HB3.out.size))
  have HX4 := Lib.hid (HO3.out.below hb4 (Nat.le_refl _))
  have HE4 := Lib.hid (HE3.out.below hb4 (Nat.le_refl _))
  have HO4 := Lib.hid hown
  have HF4 := Lib.hid herr
  clear b4 hown herr hbz hb4 HB3 HO3 HE3
  obtain rfl : x = .nilIface := by
    rcases HE4.out with ⟨_, h⟩ | ⟨hc, _⟩
    · exact h
    · exact absurd hA hc
  obtain ⟨he, _⟩ | ⟨hc', f', rfl, hf', _⟩ := HF4.out
  · exact absurd he hc2
  obtain ⟨ao, cap, rfl, _⟩ := id HX4.out
  rw [h8]
  clear hf' hc' h8
  go_wp2_with fail
  go_ret
  exact ⟨rfl, HB4.out⟩
set_option maxRecDepth 100000 in
set_option maxHeartbeats 1000000 in
theorem ip6Links_head43 (n m : Nat) (s : ByteArray) (w : World) (h : ¬ 3000 < s.size) (hn : n < 256) (hm : m < 256) (R R' : Chn) (hR : chnE [] n s = R) (hR' : chnE [] 43 (ahead n m (6 + 8 * m) s) = R') (hA : R.code = 0) (h8 : R.exts.length ≠ 8) (hh : ∃ y rl, R.exts = (0, y) :: rl) (hc2 : R'.code ≠ 0) :
    Calls Try.prog 9 #[.int .u8 n, .string s, .int .u8 m, .bool true] w fun e w' => e = .returned (.bool true) ∧ Below w.heap.size w w' := by
  have hI : ¬ (3000 : Int) < (s.size : Int) := by omega
  have hz := zs_size (6 + 8 * m)
  have hts : (ahead n m (6 + 8 * m) s).size = 8 + 8 * m + s.size := by
    unfold ahead
    rw [← ba_size, ByteArray.data_append, Array.toList_append, List.length_append, ba_size, ba_size, ← ba_size, ByteArray.data_append, Array.toList_append, List.length_append, ba_size, ba_size, hz]
    show 2 + _ + _ = _
    omega
  have C1 := Lib.hid (fun W => chain_any n s W (by omega))
  have C2 := Lib.hid (fun W => chain_any 43 (ahead n m (6 + 8 * m) s) W (by omega))
  rw [hR] at C1
  rw [hR'] at C2
  have CZ := Lib.hid (fun W => zeros_at (6 + 8 * (m : Int)) (6 + 8 * m) (by omega) W (by omega))
  have k1 : IntKind.i64.wrap (n : Int) = (n : Int) := IntWalk.i64_in _ (by omega)
  have k2 : IntKind.i64.wrap (m : Int) = (m : Int) := IntWalk.i64_in _ (by omega)
  have k3 : IntKind.i64.wrap (8 * (m : Int)) = 8 * (m : Int) := IntWalk.i64_in _ (by omega)
  have k4 : IntKind.i64.wrap (6 + 8 * (m : Int)) = 6 + 8 * (m : Int) := IntWalk.i64_in _ (by omega)
  unfold ahead at C2
  have hz2 : (zs (6 + 8 * m)).size ≤ 3000 := by omega
  have hs2 : s.size ≤ 3000 := by omega
  have hmi : (m : Int) < 256 := by omega
  have hni : (n : Int) < 256 := by omega
  clear hz hts hR hR' h hn hm k1 k2 k3 k4
  have z0 : (strOfNums [(n : Int), (m : Int)]).size = 2 := rfl
  generalize zs (6 + 8 * m) = Q at *
  have zc := cat_len
  have hcv := conv2
  go_enter Try.func9, Try.ntmps9
  go_wp2_with fail
  refine (awake_true w).mono ?_
  rintro e w1 ⟨rfl, b1⟩
  have HB := Lib.hid b1
  clear b1
  go_wp2_with fail
  refine (C1.out w1).mono ?_
  rintro e w2 ⟨v, x, rfl, hown, herr, b2⟩
  have HB2 := Lib.hid (HB.out.trans (b2.mono HB.out.size))
  have HO2 := Lib.hid hown
  have HE2 := Lib.hid herr
  clear b2 hown herr HB
  go_wp2_with fail
  refine (CZ.out _).mono ?_
  rintro e w3 ⟨rfl, b3⟩
  have HB3 := Lib.hid (HB2.out.trans (b3.mono HB2.out.size))
  have HO3 := Lib.hid ((exs_own HO2.out).below b3 (Nat.le_refl _))
  have HE3 := Lib.hid (HE2.out.below b3 (Nat.le_refl _))
  clear b3 HB2 HE2
  go_wp2_with fail
  refine (C2.out _).mono ?_
  rintro e w4 ⟨v', x', rfl, hown, herr, b4⟩
  have hbz : Below w3.heap.size w3 (w3.alloc (.cells #[.int .u8 n, .int .u8 m] 5)) := (Below.refl _ _).alloc (Nat.le_refl _) _
  have hb4 := hbz.trans (b4.mono hbz.size)
  have HB4 := Lib.hid (HB3.out.trans (hb4.mono HB3.out.size))
  have HX4 := Lib.hid (HO3.out.below hb4 (Nat.le_refl _))
  have HE4 := Lib.hid (HE3.out.below hb4 (Nat.le_refl _))
  have HO4 := Lib.hid hown
  have HF4 := Lib.hid herr
  clear b4 hown herr hbz hb4 HB3 HO3 HE3
  obtain ⟨y, rl, hl⟩ : ∃ y rl, R.exts = (0, y) :: rl := hh
  obtain rfl : x = .nilIface := by
    rcases HE4.out with ⟨_, h⟩ | ⟨hc, _⟩
    · exact h
    · exact absurd hA hc
  obtain ⟨he, _⟩ | ⟨hc', f', rfl, hf', _⟩ := HF4.out
  · exact absurd he hc2
  have HO := HO2.out
  rw [hl] at HO
  obtain ⟨g, cap, rfl, c0, c1, hcap⟩ := own_first HO
  have c0' : w4.cell? ⟨g, 0, none⟩ = some (.int .i64 0) := by
    obtain ⟨b, o, e, c1, _⟩ := exs_cells HX4.out 0 (by rw [hl]; exact Nat.zero_lt_succ _)
    injection e with e
    injection e with e1 e2 e3
    subst e1 e2
    simp only [hl] at c1
    exact c1
  have hl8 : ((rl.length : Int) + 1 == 8) = false := by rw [beq_eq_false_iff_ne]; rw [hl, List.length_cons] at h8; omega
  have hl0 : (0 : Int) < (rl.length : Int) + 1 := by omega
  clear hf' hc' h8 c0 c1 hl
  generalize rl.length = K at *
  go_wp2_with fail
  go_ret
  exact ⟨rfl, HB4.out⟩
set_option maxRecDepth 100000 in
set_option maxHeartbeats 1000000 in
theorem ip6Links_one43 (n m : Nat) (s : ByteArray) (w : World) (h : ¬ 3000 < s.size) (hn : n < 256) (hm : m < 256) (R R' : Chn) (hR : chnE [] n s = R) (hR' : chnE [] 43 (ahead n m (6 + 8 * m) s) = R') (pr : Int) (rs : ByteArray) (hA : R = ⟨[], pr, rs, 0⟩) (hg : R' = ⟨[(43, zs (6 + 8 * m))], pr, rs, 0⟩) :
    Calls Try.prog 9 #[.int .u8 n, .string s, .int .u8 m, .bool true] w fun e w' => e = .returned (.bool true) ∧ Below w.heap.size w w' := by
  have hI : ¬ (3000 : Int) < (s.size : Int) := by omega
  have hz := zs_size (6 + 8 * m)
  have hts : (ahead n m (6 + 8 * m) s).size = 8 + 8 * m + s.size := by
    unfold ahead
    rw [← ba_size, ByteArray.data_append, Array.toList_append, List.length_append, ba_size, ba_size, ← ba_size, ByteArray.data_append, Array.toList_append, List.length_append, ba_size, ba_size, hz]
    show 2 + _ + _ = _
    omega
  have C1 := Lib.hid (fun W => chain_any n s W (by omega))
  have C2 := Lib.hid (fun W => chain_any 43 (ahead n m (6 + 8 * m) s) W (by omega))
  rw [hR] at C1
  rw [hR'] at C2
  have CZ := Lib.hid (fun W => zeros_at (6 + 8 * (m : Int)) (6 + 8 * m) (by omega) W (by omega))
  have k1 : IntKind.i64.wrap (n : Int) = (n : Int) := IntWalk.i64_in _ (by omega)
  have k2 : IntKind.i64.wrap (m : Int) = (m : Int) := IntWalk.i64_in _ (by omega)
  have k3 : IntKind.i64.wrap (8 * (m : Int)) = 8 * (m : Int) := IntWalk.i64_in _ (by omega)
  have k4 : IntKind.i64.wrap (6 + 8 * (m : Int)) = 6 + 8 * (m : Int) := IntWalk.i64_in _ (by omega)
  unfold ahead at C2
  have hz2 : (zs (6 + 8 * m)).size ≤ 3000 := by omega
  have hs2 : s.size ≤ 3000 := by omega
  have hmi : (m : Int) < 256 := by omega
  have hni : (n : Int) < 256 := by omega
  clear hz hts hR hR' h hn hm k1 k2 k3 k4
  have z0 : (strOfNums [(n : Int), (m : Int)]).size = 2 := rfl
  generalize zs (6 + 8 * m) = Q at *
  subst hA hg
  have zc := cat_len
  have hcv := conv2
  go_enter Try.func9, Try.ntmps9
  go_wp2_with fail
  refine (awake_true w).mono ?_
  rintro e w1 ⟨rfl, b1⟩
  have HB := Lib.hid b1
  clear b1
  go_wp2_with fail
  refine (C1.out w1).mono ?_
  rintro e w2 ⟨v, x, rfl, hown, herr, b2⟩
  have HB2 := Lib.hid (HB.out.trans (b2.mono HB.out.size))
  have HO2 := Lib.hid hown
  have HE2 := Lib.hid herr
  clear b2 hown herr HB
  go_wp2_with fail
  refine (CZ.out _).mono ?_
  rintro e w3 ⟨rfl, b3⟩
  have HB3 := Lib.hid (HB2.out.trans (b3.mono HB2.out.size))
  have HO3 := Lib.hid ((exs_own HO2.out).below b3 (Nat.le_refl _))
  have HE3 := Lib.hid (HE2.out.below b3 (Nat.le_refl _))
  clear b3 HB2 HE2
  go_wp2_with fail
  refine (C2.out _).mono ?_
  rintro e w4 ⟨v', x', rfl, hown, herr, b4⟩
  have hbz : Below w3.heap.size w3 (w3.alloc (.cells #[.int .u8 n, .int .u8 m] 5)) := (Below.refl _ _).alloc (Nat.le_refl _) _
  have hb4 := hbz.trans (b4.mono hbz.size)
  have HB4 := Lib.hid (HB3.out.trans (hb4.mono HB3.out.size))
  have HX4 := Lib.hid (HO3.out.below hb4 (Nat.le_refl _))
  have HE4 := Lib.hid (HE3.out.below hb4 (Nat.le_refl _))
  have HO4 := Lib.hid hown
  have HF4 := Lib.hid herr
  clear b4 hown herr hbz hb4 HB3 HO3 HE3
  have HO : w4.ownsRow _ 40 2 v' (((43, Q) : Int × ByteArray) :: ([] : List (Int × ByteArray))).length (extV ((43, Q) :: ([] : List (Int × ByteArray)))) := HO4.out
  obtain rfl : x = .nilIface := by
    rcases HE4.out with ⟨_, h⟩ | ⟨hc, _⟩
    · exact h
    · exact absurd rfl hc
  obtain rfl : x' = .nilIface := by
    rcases HF4.out with ⟨_, h⟩ | ⟨hc, _⟩
    · exact h
    · exact absurd rfl hc
  obtain ⟨g', cap', rfl, c0, c1, hcap⟩ := own_first HO
  obtain ⟨ao, cap, rfl, hdrop⟩ := id HX4.out
  clear hdrop
  by_cases hc1 : cap' = 1
  · have HT := Lib.hid (show Exs w4 (.slice (some ⟨g', 0, none⟩) 0 0) [] from ⟨_, _, rfl, fun i hi => by cases hi⟩)
    subst hc1
    obtain ⟨V1, hV1⟩ : ∃ V, V = (pkE ([] : List (Int × ByteArray))).vals (.slice (some ⟨g', 0, none⟩) 0 0) := ⟨_, rfl⟩
    obtain ⟨V2, hV2⟩ : ∃ V, V = (pkE ([] : List (Int × ByteArray))).vals (.slice ao 0 cap) := ⟨_, rfl⟩
    have HEX : Hid (∀ (a : Act) (t : Nat) (d : Option Tmp) (ty : TypeId) (ps : String) (af : Array Edge) (gd : Option (Tmp × Bool)) (W : World), a.eval (.tmp t) = .slice (some ⟨g', 0, none⟩) 0 0 → (execOp a.eval { dst := d, op := .build 31 #[(5, .tmp t)], type := ty, pos := ps, after := af, guard := gd }).run Try.prog W = .ok (.value (.agg V1.toArray)) W) := Lib.hid (fun a t d ty ps af gd W h1 => by rw [hV1]; exact Try.execXg a t _ _ _ d ty ps af gd W h1)
    have HEY : Hid (∀ (a : Act) (t : Nat) (d : Option Tmp) (ty : TypeId) (ps : String) (af : Array Edge) (gd : Option (Tmp × Bool)) (W : World), a.eval (.tmp t) = .slice ao 0 cap → (execOp a.eval { dst := d, op := .build 31 #[(5, .tmp t)], type := ty, pos := ps, after := af, guard := gd }).run Try.prog W = .ok (.value (.agg V2.toArray)) W) := Lib.hid (fun a t d ty ps af gd W h1 => by rw [hV2]; exact Try.execXg a t _ _ _ d ty ps af gd W h1)
    have HSm : Hid (∀ W, Below w4.heap.size w4 W → Calls Try.prog 23 #[.agg V1.toArray, .agg V2.toArray] W fun e w' => e = .returned (.bool true) ∧ Below W.heap.size W w') := Lib.hid (fun W hW => by rw [hV1, hV2]; exact rsame_true (pkE ([] : List (Int × ByteArray))) _ _ W (HT.out.below hW (Nat.le_refl _)) (HX4.out.below hW (Nat.le_refl _)) (by show (([] : List (Int × ByteArray))).length ≤ _; exact Nat.zero_le _))
    clear hV1 hV2 HO HT HX4 HO4 HE4 HF4 HO2
    go_wp2_with (first | (refine wpList_exec_if (op := ⟨_, .build 31 #[(5, .tmp _)], _, _, _, _⟩) (by rfl) (.agg V1.toArray) (HEX.out _ _ _ _ _ _ _ _ rfl) ?_) | (refine wpList_exec_if (op := ⟨_, .build 31 #[(5, .tmp _)], _, _, _, _⟩) (by rfl) (.agg V2.toArray) (HEY.out _ _ _ _ _ _ _ _ rfl) ?_))
    refine (HSm.out _ (Below.refl _ w4)).mono ?_
    rintro e w5 ⟨rfl, b5⟩
    have HE := Lib.hid (HB4.out.trans (b5.mono HB4.out.size))
    clear b5
    go_wp2_with fail
    go_ret
    exact ⟨rfl, HE.out⟩
  · have HT := Lib.hid (exs_tail (cap' := cap' - 1) (exs_own HO))
    obtain ⟨V1, hV1⟩ : ∃ V, V = (pkE ([] : List (Int × ByteArray))).vals (.slice (some ⟨g', 2, none⟩) 0 (cap' - 1)) := ⟨_, rfl⟩
    obtain ⟨V2, hV2⟩ : ∃ V, V = (pkE ([] : List (Int × ByteArray))).vals (.slice ao 0 cap) := ⟨_, rfl⟩
    have HEX : Hid (∀ (a : Act) (t : Nat) (d : Option Tmp) (ty : TypeId) (ps : String) (af : Array Edge) (gd : Option (Tmp × Bool)) (W : World), a.eval (.tmp t) = .slice (some ⟨g', 2, none⟩) 0 (cap' - 1) → (execOp a.eval { dst := d, op := .build 31 #[(5, .tmp t)], type := ty, pos := ps, after := af, guard := gd }).run Try.prog W = .ok (.value (.agg V1.toArray)) W) := Lib.hid (fun a t d ty ps af gd W h1 => by rw [hV1]; exact Try.execXg a t _ _ _ d ty ps af gd W h1)
    have HEY : Hid (∀ (a : Act) (t : Nat) (d : Option Tmp) (ty : TypeId) (ps : String) (af : Array Edge) (gd : Option (Tmp × Bool)) (W : World), a.eval (.tmp t) = .slice ao 0 cap → (execOp a.eval { dst := d, op := .build 31 #[(5, .tmp t)], type := ty, pos := ps, after := af, guard := gd }).run Try.prog W = .ok (.value (.agg V2.toArray)) W) := Lib.hid (fun a t d ty ps af gd W h1 => by rw [hV2]; exact Try.execXg a t _ _ _ d ty ps af gd W h1)
    have HSm : Hid (∀ W, Below w4.heap.size w4 W → Calls Try.prog 23 #[.agg V1.toArray, .agg V2.toArray] W fun e w' => e = .returned (.bool true) ∧ Below W.heap.size W w') := Lib.hid (fun W hW => by rw [hV1, hV2]; exact rsame_true (pkE ([] : List (Int × ByteArray))) _ _ W (HT.out.below hW (Nat.le_refl _)) (HX4.out.below hW (Nat.le_refl _)) (by show (([] : List (Int × ByteArray))).length ≤ _; exact Nat.zero_le _))
    clear hV1 hV2 HO HT HX4 HO4 HE4 HF4 HO2
    go_wp2_with (first | (refine wpList_exec_if (op := ⟨_, .build 31 #[(5, .tmp _)], _, _, _, _⟩) (by rfl) (.agg V1.toArray) (HEX.out _ _ _ _ _ _ _ _ rfl) ?_) | (refine wpList_exec_if (op := ⟨_, .build 31 #[(5, .tmp _)], _, _, _, _⟩) (by rfl) (.agg V2.toArray) (HEY.out _ _ _ _ _ _ _ _ rfl) ?_))
    refine (HSm.out _ (Below.refl _ w4)).mono ?_
    rintro e w5 ⟨rfl, b5⟩
    have HE := Lib.hid (HB4.out.trans (b5.mono HB4.out.size))
    clear b5
    go_wp2_with fail
    go_ret
    exact ⟨rfl, HE.out⟩
set_option maxRecDepth 100000 in
set_option maxHeartbeats 1000000 in
theorem ip6Links_more43 (n m : Nat) (s : ByteArray) (w : World) (h : ¬ 3000 < s.size) (hn : n < 256) (hm : m < 256) (R R' : Chn) (hR : chnE [] n s = R) (hR' : chnE [] 43 (ahead n m (6 + 8 * m) s) = R') (y : Int) (yb : ByteArray) (rl : List (Int × ByteArray)) (pr : Int) (rs : ByteArray) (hK : rl.length < 7) (hy : y ≠ 0) (hA : R = ⟨(y, yb) :: rl, pr, rs, 0⟩) (hg : R' = ⟨(43, zs (6 + 8 * m)) :: (y, yb) :: rl, pr, rs, 0⟩) :
    Calls Try.prog 9 #[.int .u8 n, .string s, .int .u8 m, .bool true] w fun e w' => e = .returned (.bool true) ∧ Below w.heap.size w w' := by
  have hI : ¬ (3000 : Int) < (s.size : Int) := by omega
  have hz := zs_size (6 + 8 * m)
  have hts : (ahead n m (6 + 8 * m) s).size = 8 + 8 * m + s.size := by
    unfold ahead
    rw [← ba_size, ByteArray.data_append, Array.toList_append, List.length_append, ba_size, ba_size, ← ba_size, ByteArray.data_append, Array.toList_append, List.length_append, ba_size, ba_size, hz]
    show 2 + _ + _ = _
    omega
  have C1 := Lib.hid (fun W => chain_any n s W (by omega))
  have C2 := Lib.hid (fun W => chain_any 43 (ahead n m (6 + 8 * m) s) W (by omega))
  rw [hR] at C1
  rw [hR'] at C2
  have CZ := Lib.hid (fun W => zeros_at (6 + 8 * (m : Int)) (6 + 8 * m) (by omega) W (by omega))
  have k1 : IntKind.i64.wrap (n : Int) = (n : Int) := IntWalk.i64_in _ (by omega)
  have k2 : IntKind.i64.wrap (m : Int) = (m : Int) := IntWalk.i64_in _ (by omega)
  have k3 : IntKind.i64.wrap (8 * (m : Int)) = 8 * (m : Int) := IntWalk.i64_in _ (by omega)
  have k4 : IntKind.i64.wrap (6 + 8 * (m : Int)) = 6 + 8 * (m : Int) := IntWalk.i64_in _ (by omega)
  unfold ahead at C2
  have hz2 : (zs (6 + 8 * m)).size ≤ 3000 := by omega
  have hs2 : s.size ≤ 3000 := by omega
  have hmi : (m : Int) < 256 := by omega
  have hni : (n : Int) < 256 := by omega
  clear hz hts hR hR' h hn hm k1 k2 k3 k4
  have z0 : (strOfNums [(n : Int), (m : Int)]).size = 2 := rfl
  generalize zs (6 + 8 * m) = Q at *
  subst hA hg
  have zc := cat_len
  have hcv := conv2
  go_enter Try.func9, Try.ntmps9
  go_wp2_with fail
  refine (awake_true w).mono ?_
  rintro e w1 ⟨rfl, b1⟩
  have HB := Lib.hid b1
  clear b1
  go_wp2_with fail
  refine (C1.out w1).mono ?_
  rintro e w2 ⟨v, x, rfl, hown, herr, b2⟩
  have HB2 := Lib.hid (HB.out.trans (b2.mono HB.out.size))
  have HO2 := Lib.hid hown
  have HE2 := Lib.hid herr
  clear b2 hown herr HB
  go_wp2_with fail
  refine (CZ.out _).mono ?_
  rintro e w3 ⟨rfl, b3⟩
  have HB3 := Lib.hid (HB2.out.trans (b3.mono HB2.out.size))
  have HO3 := Lib.hid ((exs_own HO2.out).below b3 (Nat.le_refl _))
  have HE3 := Lib.hid (HE2.out.below b3 (Nat.le_refl _))
  clear b3 HB2 HE2
  go_wp2_with fail
  refine (C2.out _).mono ?_
  rintro e w4 ⟨v', x', rfl, hown, herr, b4⟩
  have hbz : Below w3.heap.size w3 (w3.alloc (.cells #[.int .u8 n, .int .u8 m] 5)) := (Below.refl _ _).alloc (Nat.le_refl _) _
  have hb4 := hbz.trans (b4.mono hbz.size)
  have HB4 := Lib.hid (HB3.out.trans (hb4.mono HB3.out.size))
  have HX4 := Lib.hid (HO3.out.below hb4 (Nat.le_refl _))
  have HE4 := Lib.hid (HE3.out.below hb4 (Nat.le_refl _))
  have HO4 := Lib.hid hown
  have HF4 := Lib.hid herr
  clear b4 hown herr hbz hb4 HB3 HO3 HE3
  have HO : w4.ownsRow _ 40 2 v' (((43, Q) : Int × ByteArray) :: (((y, yb) : Int × ByteArray) :: rl)).length (extV ((43, Q) :: (((y, yb) : Int × ByteArray) :: rl))) := HO4.out
  obtain rfl : x = .nilIface := by
    rcases HE4.out with ⟨_, h⟩ | ⟨hc, _⟩
    · exact h
    · exact absurd rfl hc
  obtain rfl : x' = .nilIface := by
    rcases HF4.out with ⟨_, h⟩ | ⟨hc, _⟩
    · exact h
    · exact absurd rfl hc
  obtain ⟨g', cap', rfl, c0, c1, hcap⟩ := own_first HO
  simp only [List.length_cons] at hcap ⊢
  have HT := Lib.hid (exs_tail (cap' := cap' - 1) (exs_own HO))
  obtain ⟨g, cap, rfl, d0, d1, hcap2⟩ := own_first HO2.out
  have d0' : w4.cell? ⟨g, 0, none⟩ = some (.int .i64 y) := by
    obtain ⟨b, o, e, c1, _⟩ := exs_cells HX4.out 0 (Nat.zero_lt_succ _)
    injection e with e
    injection e with e1 e2 e3
    subst e1 e2
    exact c1
  have hy0 : (y == 0) = false := by rw [beq_eq_false_iff_ne]; exact hy
  have hcap' : rl.length + 1 + 1 ≤ cap' := hcap
  have hne : ¬ cap' = 1 := by omega
  have hl8 : ((rl.length : Int) + 1 == 8) = false := by rw [beq_eq_false_iff_ne]; omega
  have hl0 : (0 : Int) < (rl.length : Int) + 1 := by omega
  have kL : IntKind.i64.wrap ((rl.length : Int) + 1 + 1) = (rl.length : Int) + 1 + 1 := IntWalk.i64_in _ (by omega)
  obtain ⟨V1, hV1⟩ : ∃ V, V = (pkE (((y, yb) : Int × ByteArray) :: rl)).vals (.slice (some ⟨g', 2, none⟩) (rl.length + 1) (cap' - 1)) := ⟨_, rfl⟩
  obtain ⟨V2, hV2⟩ : ∃ V, V = (pkE (((y, yb) : Int × ByteArray) :: rl)).vals (.slice (some ⟨g, 0, none⟩) (rl.length + 1) cap) := ⟨_, rfl⟩
  have HEX : Hid (∀ (a : Act) (t : Nat) (d : Option Tmp) (ty : TypeId) (ps : String) (af : Array Edge) (gd : Option (Tmp × Bool)) (W : World), a.eval (.tmp t) = .slice (some ⟨g', 2, none⟩) (rl.length + 1) (cap' - 1) → (execOp a.eval { dst := d, op := .build 31 #[(5, .tmp t)], type := ty, pos := ps, after := af, guard := gd }).run Try.prog W = .ok (.value (.agg V1.toArray)) W) := Lib.hid (fun a t d ty ps af gd W h1 => by rw [hV1]; exact Try.execXg a t _ _ _ d ty ps af gd W h1)
  have HEY : Hid (∀ (a : Act) (t : Nat) (d : Option Tmp) (ty : TypeId) (ps : String) (af : Array Edge) (gd : Option (Tmp × Bool)) (W : World), a.eval (.tmp t) = .slice (some ⟨g, 0, none⟩) (rl.length + 1) cap → (execOp a.eval { dst := d, op := .build 31 #[(5, .tmp t)], type := ty, pos := ps, after := af, guard := gd }).run Try.prog W = .ok (.value (.agg V2.toArray)) W) := Lib.hid (fun a t d ty ps af gd W h1 => by rw [hV2]; exact Try.execXg a t _ _ _ d ty ps af gd W h1)
  have HSm : Hid (∀ W, Below w4.heap.size w4 W → Calls Try.prog 23 #[.agg V1.toArray, .agg V2.toArray] W fun e w' => e = .returned (.bool true) ∧ Below W.heap.size W w') := Lib.hid (fun W hW => by rw [hV1, hV2]; exact rsame_true (pkE (((y, yb) : Int × ByteArray) :: rl)) _ _ W (HT.out.below hW (Nat.le_refl _)) (HX4.out.below hW (Nat.le_refl _)) (by show ((((y, yb) : Int × ByteArray) :: rl)).length ≤ _; rw [List.length_cons]; omega))
  clear hV1 hV2 HO HT HX4 HO4 HE4 HF4 HO2
  clear d0 d1 hcap hy
  have hK7 : rl.length < 7 := hK
  clear hK
  generalize rl.length = K at *
  go_wp2_with (first | (refine wpList_exec_if (op := ⟨_, .build 31 #[(5, .tmp _)], _, _, _, _⟩) (by rfl) (.agg V1.toArray) (HEX.out _ _ _ _ _ _ _ _ rfl) ?_) | (refine wpList_exec_if (op := ⟨_, .build 31 #[(5, .tmp _)], _, _, _, _⟩) (by rfl) (.agg V2.toArray) (HEY.out _ _ _ _ _ _ _ _ rfl) ?_))
  refine (HSm.out _ (Below.refl _ w4)).mono ?_
  rintro e w5 ⟨rfl, b5⟩
  have HE := Lib.hid (HB4.out.trans (b5.mono HB4.out.size))
  clear b5
  go_wp2_with fail
  go_ret
  exact ⟨rfl, HE.out⟩
set_option maxRecDepth 100000 in
set_option maxHeartbeats 1000000 in
theorem ip6Links_bad60 (n m : Nat) (s : ByteArray) (w : World) (h : ¬ 3000 < s.size) (hn : n < 256) (hm : m < 256) (R R' : Chn) (hR : chnE [] n s = R) (hR' : chnE [] 60 (ahead n m (6 + 8 * m) s) = R') (hA : R = bad R.code) (hc1 : R.code ≠ 0) (hc2 : R'.code ≠ 0) :
    Calls Try.prog 9 #[.int .u8 n, .string s, .int .u8 m, .bool false] w fun e w' => e = .returned (.bool true) ∧ Below w.heap.size w w' := by
  obtain ⟨c, hc0⟩ : ∃ c, R = bad c := ⟨_, hA⟩
  clear hA
  subst hc0
  have hI : ¬ (3000 : Int) < (s.size : Int) := by omega
  have hz := zs_size (6 + 8 * m)
  have hts : (ahead n m (6 + 8 * m) s).size = 8 + 8 * m + s.size := by
    unfold ahead
    rw [← ba_size, ByteArray.data_append, Array.toList_append, List.length_append, ba_size, ba_size, ← ba_size, ByteArray.data_append, Array.toList_append, List.length_append, ba_size, ba_size, hz]
    show 2 + _ + _ = _
    omega
  have C1 := Lib.hid (fun W => chain_any n s W (by omega))
  have C2 := Lib.hid (fun W => chain_any 60 (ahead n m (6 + 8 * m) s) W (by omega))
  rw [hR] at C1
  rw [hR'] at C2
  have CZ := Lib.hid (fun W => zeros_at (6 + 8 * (m : Int)) (6 + 8 * m) (by omega) W (by omega))
  have k1 : IntKind.i64.wrap (n : Int) = (n : Int) := IntWalk.i64_in _ (by omega)
  have k2 : IntKind.i64.wrap (m : Int) = (m : Int) := IntWalk.i64_in _ (by omega)
  have k3 : IntKind.i64.wrap (8 * (m : Int)) = 8 * (m : Int) := IntWalk.i64_in _ (by omega)
  have k4 : IntKind.i64.wrap (6 + 8 * (m : Int)) = 6 + 8 * (m : Int) := IntWalk.i64_in _ (by omega)
  unfold ahead at C2
  have hz2 : (zs (6 + 8 * m)).size ≤ 3000 := by omega
  have hs2 : s.size ≤ 3000 := by omega
  have hmi : (m : Int) < 256 := by omega
  have hni : (n : Int) < 256 := by omega
  clear hz hts hR hR' h hn hm k1 k2 k3 k4
  have z0 : (strOfNums [(n : Int), (m : Int)]).size = 2 := rfl
  generalize zs (6 + 8 * m) = Q at *
  have zc := cat_len
  have hcv := conv2
  go_enter Try.func9, Try.ntmps9
  go_wp2_with fail
  refine (awake_true w).mono ?_
  rintro e w1 ⟨rfl, b1⟩
  have HB := Lib.hid b1
  clear b1
  go_wp2_with fail
  refine (C1.out w1).mono ?_
  rintro e w2 ⟨v, x, rfl, hown, herr, b2⟩
  have HB2 := Lib.hid (HB.out.trans (b2.mono HB.out.size))
  have HO2 := Lib.hid hown
  have HE2 := Lib.hid herr
  clear b2 hown herr HB
  go_wp2_with fail
  refine (CZ.out _).mono ?_
  rintro e w3 ⟨rfl, b3⟩
  have HB3 := Lib.hid (HB2.out.trans (b3.mono HB2.out.size))
  have HO3 := Lib.hid ((exs_own HO2.out).below b3 (Nat.le_refl _))
  have HE3 := Lib.hid (HE2.out.below b3 (Nat.le_refl _))
  clear b3 HB2 HE2
  go_wp2_with fail
  refine (C2.out _).mono ?_
  rintro e w4 ⟨v', x', rfl, hown, herr, b4⟩
  have hbz : Below w3.heap.size w3 (w3.alloc (.cells #[.int .u8 n, .int .u8 m] 5)) := (Below.refl _ _).alloc (Nat.le_refl _) _
  have hb4 := hbz.trans (b4.mono hbz.size)
  have HB4 := Lib.hid (HB3.out.trans (hb4.mono HB3.out.size))
  have HX4 := Lib.hid (HO3.out.below hb4 (Nat.le_refl _))
  have HE4 := Lib.hid (HE3.out.below hb4 (Nat.le_refl _))
  have HO4 := Lib.hid hown
  have HF4 := Lib.hid herr
  clear b4 hown herr hbz hb4 HB3 HO3 HE3
  obtain ⟨he, _⟩ | ⟨hc, f, rfl, hf, _⟩ := HE4.out
  · exact absurd he hc1
  obtain ⟨he, _⟩ | ⟨hc', f', rfl, hf', _⟩ := HF4.out
  · exact absurd he hc2
  obtain ⟨ao, cap, rfl, _⟩ := id HX4.out
  have hb0 : (bad c).exts.length = 0 := rfl
  have hb1 : (bad c).proto = 0 := rfl
  have hb2 : (bad c).rest = ⟨#[]⟩ := rfl
  rw [hb0, hb1, hb2]
  clear hf hf' hc hc' hb0 hb1 hb2
  go_wp2_with fail
  go_ret
  exact ⟨rfl, HB4.out⟩
set_option maxRecDepth 100000 in
set_option maxHeartbeats 1000000 in
theorem ip6Links_full60 (n m : Nat) (s : ByteArray) (w : World) (h : ¬ 3000 < s.size) (hn : n < 256) (hm : m < 256) (R R' : Chn) (hR : chnE [] n s = R) (hR' : chnE [] 60 (ahead n m (6 + 8 * m) s) = R') (hA : R.code = 0) (h8 : R.exts.length = 8) (hc2 : R'.code ≠ 0) :
    Calls Try.prog 9 #[.int .u8 n, .string s, .int .u8 m, .bool false] w fun e w' => e = .returned (.bool true) ∧ Below w.heap.size w w' := by
  have hI : ¬ (3000 : Int) < (s.size : Int) := by omega
  have hz := zs_size (6 + 8 * m)
  have hts : (ahead n m (6 + 8 * m) s).size = 8 + 8 * m + s.size := by
    unfold ahead
    rw [← ba_size, ByteArray.data_append, Array.toList_append, List.length_append, ba_size, ba_size, ← ba_size, ByteArray.data_append, Array.toList_append, List.length_append, ba_size, ba_size, hz]
    show 2 + _ + _ = _
    omega
  have C1 := Lib.hid (fun W => chain_any n s W (by omega))
  have C2 := Lib.hid (fun W => chain_any 60 (ahead n m (6 + 8 * m) s) W (by omega))
  rw [hR] at C1
  rw [hR'] at C2
  have CZ := Lib.hid (fun W => zeros_at (6 + 8 * (m : Int)) (6 + 8 * m) (by omega) W (by omega))
  have k1 : IntKind.i64.wrap (n : Int) = (n : Int) := IntWalk.i64_in _ (by omega)
  have k2 : IntKind.i64.wrap (m : Int) = (m : Int) := IntWalk.i64_in _ (by omega)
  have k3 : IntKind.i64.wrap (8 * (m : Int)) = 8 * (m : Int) := IntWalk.i64_in _ (by omega)
  have k4 : IntKind.i64.wrap (6 + 8 * (m : Int)) = 6 + 8 * (m : Int) := IntWalk.i64_in _ (by omega)
  unfold ahead at C2
  have hz2 : (zs (6 + 8 * m)).size ≤ 3000 := by omega
  have hs2 : s.size ≤ 3000 := by omega
  have hmi : (m : Int) < 256 := by omega
  have hni : (n : Int) < 256 := by omega
  clear hz hts hR hR' h hn hm k1 k2 k3 k4
  have z0 : (strOfNums [(n : Int), (m : Int)]).size = 2 := rfl
  generalize zs (6 + 8 * m) = Q at *
  have zc := cat_len
  have hcv := conv2
  go_enter Try.func9, Try.ntmps9
  go_wp2_with fail
  refine (awake_true w).mono ?_
  rintro e w1 ⟨rfl, b1⟩
  have HB := Lib.hid b1
  clear b1
  go_wp2_with fail
  refine (C1.out w1).mono ?_
  rintro e w2 ⟨v, x, rfl, hown, herr, b2⟩
  have HB2 := Lib.hid (HB.out.trans (b2.mono HB.out.size))
  have HO2 := Lib.hid hown
  have HE2 := Lib.hid herr
  clear b2 hown herr HB
  go_wp2_with fail
  refine (CZ.out _).mono ?_
  rintro e w3 ⟨rfl, b3⟩
  have HB3 := Lib.hid (HB2.out.trans (b3.mono HB2.out.size))
  have HO3 := Lib.hid ((exs_own HO2.out).below b3 (Nat.le_refl _))
  have HE3 := Lib.hid (HE2.out.below b3 (Nat.le_refl _))
  clear b3 HB2 HE2
  go_wp2_with fail
  refine (C2.out _).mono ?_
  rintro e w4 ⟨v', x', rfl, hown, herr, b4⟩
  have hbz : Below w3.heap.size w3 (w3.alloc (.cells #[.int .u8 n, .int .u8 m] 5)) := (Below.refl _ _).alloc (Nat.le_refl _) _
  have hb4 := hbz.trans (b4.mono hbz.size)
  have HB4 := Lib.hid (HB3.out.trans (hb4.mono HB3.out.size))
  have HX4 := Lib.hid (HO3.out.below hb4 (Nat.le_refl _))
  have HE4 := Lib.hid (HE3.out.below hb4 (Nat.le_refl _))
  have HO4 := Lib.hid hown
  have HF4 := Lib.hid herr
  clear b4 hown herr hbz hb4 HB3 HO3 HE3
  obtain rfl : x = .nilIface := by
    rcases HE4.out with ⟨_, h⟩ | ⟨hc, _⟩
    · exact h
    · exact absurd hA hc
  obtain ⟨he, _⟩ | ⟨hc', f', rfl, hf', _⟩ := HF4.out
  · exact absurd he hc2
  obtain ⟨ao, cap, rfl, _⟩ := id HX4.out
  rw [h8]
  clear hf' hc' h8
  go_wp2_with fail
  go_ret
  exact ⟨rfl, HB4.out⟩
set_option maxRecDepth 100000 in
set_option maxHeartbeats 1000000 in
theorem ip6Links_head60 (n m : Nat) (s : ByteArray) (w : World) (h : ¬ 3000 < s.size) (hn : n < 256) (hm : m < 256) (R R' : Chn) (hR : chnE [] n s = R) (hR' : chnE [] 60 (ahead n m (6 + 8 * m) s) = R') (hA : R.code = 0) (h8 : R.exts.length ≠ 8) (hh : ∃ y rl, R.exts = (0, y) :: rl) (hc2 : R'.code ≠ 0) :
    Calls Try.prog 9 #[.int .u8 n, .string s, .int .u8 m, .bool false] w fun e w' => e = .returned (.bool true) ∧ Below w.heap.size w w' := by
  have hI : ¬ (3000 : Int) < (s.size : Int) := by omega
  have hz := zs_size (6 + 8 * m)
  have hts : (ahead n m (6 + 8 * m) s).size = 8 + 8 * m + s.size := by
    unfold ahead
    rw [← ba_size, ByteArray.data_append, Array.toList_append, List.length_append, ba_size, ba_size, ← ba_size, ByteArray.data_append, Array.toList_append, List.length_append, ba_size, ba_size, hz]
    show 2 + _ + _ = _
    omega
  have C1 := Lib.hid (fun W => chain_any n s W (by omega))
  have C2 := Lib.hid (fun W => chain_any 60 (ahead n m (6 + 8 * m) s) W (by omega))
  rw [hR] at C1
  rw [hR'] at C2
  have CZ := Lib.hid (fun W => zeros_at (6 + 8 * (m : Int)) (6 + 8 * m) (by omega) W (by omega))
  have k1 : IntKind.i64.wrap (n : Int) = (n : Int) := IntWalk.i64_in _ (by omega)
  have k2 : IntKind.i64.wrap (m : Int) = (m : Int) := IntWalk.i64_in _ (by omega)
  have k3 : IntKind.i64.wrap (8 * (m : Int)) = 8 * (m : Int) := IntWalk.i64_in _ (by omega)
  have k4 : IntKind.i64.wrap (6 + 8 * (m : Int)) = 6 + 8 * (m : Int) := IntWalk.i64_in _ (by omega)
  unfold ahead at C2
  have hz2 : (zs (6 + 8 * m)).size ≤ 3000 := by omega
  have hs2 : s.size ≤ 3000 := by omega
  have hmi : (m : Int) < 256 := by omega
  have hni : (n : Int) < 256 := by omega
  clear hz hts hR hR' h hn hm k1 k2 k3 k4
  have z0 : (strOfNums [(n : Int), (m : Int)]).size = 2 := rfl
  generalize zs (6 + 8 * m) = Q at *
  have zc := cat_len
  have hcv := conv2
  go_enter Try.func9, Try.ntmps9
  go_wp2_with fail
  refine (awake_true w).mono ?_
  rintro e w1 ⟨rfl, b1⟩
  have HB := Lib.hid b1
  clear b1
  go_wp2_with fail
  refine (C1.out w1).mono ?_
  rintro e w2 ⟨v, x, rfl, hown, herr, b2⟩
  have HB2 := Lib.hid (HB.out.trans (b2.mono HB.out.size))
  have HO2 := Lib.hid hown
  have HE2 := Lib.hid herr
  clear b2 hown herr HB
  go_wp2_with fail
  refine (CZ.out _).mono ?_
  rintro e w3 ⟨rfl, b3⟩
  have HB3 := Lib.hid (HB2.out.trans (b3.mono HB2.out.size))
  have HO3 := Lib.hid ((exs_own HO2.out).below b3 (Nat.le_refl _))
  have HE3 := Lib.hid (HE2.out.below b3 (Nat.le_refl _))
  clear b3 HB2 HE2
  go_wp2_with fail
  refine (C2.out _).mono ?_
  rintro e w4 ⟨v', x', rfl, hown, herr, b4⟩
  have hbz : Below w3.heap.size w3 (w3.alloc (.cells #[.int .u8 n, .int .u8 m] 5)) := (Below.refl _ _).alloc (Nat.le_refl _) _
  have hb4 := hbz.trans (b4.mono hbz.size)
  have HB4 := Lib.hid (HB3.out.trans (hb4.mono HB3.out.size))
  have HX4 := Lib.hid (HO3.out.below hb4 (Nat.le_refl _))
  have HE4 := Lib.hid (HE3.out.below hb4 (Nat.le_refl _))
  have HO4 := Lib.hid hown
  have HF4 := Lib.hid herr
  clear b4 hown herr hbz hb4 HB3 HO3 HE3
  obtain ⟨y, rl, hl⟩ : ∃ y rl, R.exts = (0, y) :: rl := hh
  obtain rfl : x = .nilIface := by
    rcases HE4.out with ⟨_, h⟩ | ⟨hc, _⟩
    · exact h
    · exact absurd hA hc
  obtain ⟨he, _⟩ | ⟨hc', f', rfl, hf', _⟩ := HF4.out
  · exact absurd he hc2
  have HO := HO2.out
  rw [hl] at HO
  obtain ⟨g, cap, rfl, c0, c1, hcap⟩ := own_first HO
  have c0' : w4.cell? ⟨g, 0, none⟩ = some (.int .i64 0) := by
    obtain ⟨b, o, e, c1, _⟩ := exs_cells HX4.out 0 (by rw [hl]; exact Nat.zero_lt_succ _)
    injection e with e
    injection e with e1 e2 e3
    subst e1 e2
    simp only [hl] at c1
    exact c1
  have hl8 : ((rl.length : Int) + 1 == 8) = false := by rw [beq_eq_false_iff_ne]; rw [hl, List.length_cons] at h8; omega
  have hl0 : (0 : Int) < (rl.length : Int) + 1 := by omega
  clear hf' hc' h8 c0 c1 hl
  generalize rl.length = K at *
  go_wp2_with fail
  go_ret
  exact ⟨rfl, HB4.out⟩
set_option maxRecDepth 100000 in
set_option maxHeartbeats 1000000 in
theorem ip6Links_one60 (n m : Nat) (s : ByteArray) (w : World) (h : ¬ 3000 < s.size) (hn : n < 256) (hm : m < 256) (R R' : Chn) (hR : chnE [] n s = R) (hR' : chnE [] 60 (ahead n m (6 + 8 * m) s) = R') (pr : Int) (rs : ByteArray) (hA : R = ⟨[], pr, rs, 0⟩) (hg : R' = ⟨[(60, zs (6 + 8 * m))], pr, rs, 0⟩) :
    Calls Try.prog 9 #[.int .u8 n, .string s, .int .u8 m, .bool false] w fun e w' => e = .returned (.bool true) ∧ Below w.heap.size w w' := by
  have hI : ¬ (3000 : Int) < (s.size : Int) := by omega
  have hz := zs_size (6 + 8 * m)
  have hts : (ahead n m (6 + 8 * m) s).size = 8 + 8 * m + s.size := by
    unfold ahead
    rw [← ba_size, ByteArray.data_append, Array.toList_append, List.length_append, ba_size, ba_size, ← ba_size, ByteArray.data_append, Array.toList_append, List.length_append, ba_size, ba_size, hz]
    show 2 + _ + _ = _
    omega
  have C1 := Lib.hid (fun W => chain_any n s W (by omega))
  have C2 := Lib.hid (fun W => chain_any 60 (ahead n m (6 + 8 * m) s) W (by omega))
  rw [hR] at C1
  rw [hR'] at C2
  have CZ := Lib.hid (fun W => zeros_at (6 + 8 * (m : Int)) (6 + 8 * m) (by omega) W (by omega))
  have k1 : IntKind.i64.wrap (n : Int) = (n : Int) := IntWalk.i64_in _ (by omega)
  have k2 : IntKind.i64.wrap (m : Int) = (m : Int) := IntWalk.i64_in _ (by omega)
  have k3 : IntKind.i64.wrap (8 * (m : Int)) = 8 * (m : Int) := IntWalk.i64_in _ (by omega)
  have k4 : IntKind.i64.wrap (6 + 8 * (m : Int)) = 6 + 8 * (m : Int) := IntWalk.i64_in _ (by omega)
  unfold ahead at C2
  have hz2 : (zs (6 + 8 * m)).size ≤ 3000 := by omega
  have hs2 : s.size ≤ 3000 := by omega
  have hmi : (m : Int) < 256 := by omega
  have hni : (n : Int) < 256 := by omega
  clear hz hts hR hR' h hn hm k1 k2 k3 k4
  have z0 : (strOfNums [(n : Int), (m : Int)]).size = 2 := rfl
  generalize zs (6 + 8 * m) = Q at *
  subst hA hg
  have zc := cat_len
  have hcv := conv2
  go_enter Try.func9, Try.ntmps9
  go_wp2_with fail
  refine (awake_true w).mono ?_
  rintro e w1 ⟨rfl, b1⟩
  have HB := Lib.hid b1
  clear b1
  go_wp2_with fail
  refine (C1.out w1).mono ?_
  rintro e w2 ⟨v, x, rfl, hown, herr, b2⟩
  have HB2 := Lib.hid (HB.out.trans (b2.mono HB.out.size))
  have HO2 := Lib.hid hown
  have HE2 := Lib.hid herr
  clear b2 hown herr HB
  go_wp2_with fail
  refine (CZ.out _).mono ?_
  rintro e w3 ⟨rfl, b3⟩
  have HB3 := Lib.hid (HB2.out.trans (b3.mono HB2.out.size))
  have HO3 := Lib.hid ((exs_own HO2.out).below b3 (Nat.le_refl _))
  have HE3 := Lib.hid (HE2.out.below b3 (Nat.le_refl _))
  clear b3 HB2 HE2
  go_wp2_with fail
  refine (C2.out _).mono ?_
  rintro e w4 ⟨v', x', rfl, hown, herr, b4⟩
  have hbz : Below w3.heap.size w3 (w3.alloc (.cells #[.int .u8 n, .int .u8 m] 5)) := (Below.refl _ _).alloc (Nat.le_refl _) _
  have hb4 := hbz.trans (b4.mono hbz.size)
  have HB4 := Lib.hid (HB3.out.trans (hb4.mono HB3.out.size))
  have HX4 := Lib.hid (HO3.out.below hb4 (Nat.le_refl _))
  have HE4 := Lib.hid (HE3.out.below hb4 (Nat.le_refl _))
  have HO4 := Lib.hid hown
  have HF4 := Lib.hid herr
  clear b4 hown herr hbz hb4 HB3 HO3 HE3
  have HO : w4.ownsRow _ 40 2 v' (((60, Q) : Int × ByteArray) :: ([] : List (Int × ByteArray))).length (extV ((60, Q) :: ([] : List (Int × ByteArray)))) := HO4.out
  obtain rfl : x = .nilIface := by
    rcases HE4.out with ⟨_, h⟩ | ⟨hc, _⟩
    · exact h
    · exact absurd rfl hc
  obtain rfl : x' = .nilIface := by
    rcases HF4.out with ⟨_, h⟩ | ⟨hc, _⟩
    · exact h
    · exact absurd rfl hc
  obtain ⟨g', cap', rfl, c0, c1, hcap⟩ := own_first HO
  obtain ⟨ao, cap, rfl, hdrop⟩ := id HX4.out
  clear hdrop
  by_cases hc1 : cap' = 1
  · have HT := Lib.hid (show Exs w4 (.slice (some ⟨g', 0, none⟩) 0 0) [] from ⟨_, _, rfl, fun i hi => by cases hi⟩)
    subst hc1
    obtain ⟨V1, hV1⟩ : ∃ V, V = (pkE ([] : List (Int × ByteArray))).vals (.slice (some ⟨g', 0, none⟩) 0 0) := ⟨_, rfl⟩
    obtain ⟨V2, hV2⟩ : ∃ V, V = (pkE ([] : List (Int × ByteArray))).vals (.slice ao 0 cap) := ⟨_, rfl⟩
    have HEX : Hid (∀ (a : Act) (t : Nat) (d : Option Tmp) (ty : TypeId) (ps : String) (af : Array Edge) (gd : Option (Tmp × Bool)) (W : World), a.eval (.tmp t) = .slice (some ⟨g', 0, none⟩) 0 0 → (execOp a.eval { dst := d, op := .build 31 #[(5, .tmp t)], type := ty, pos := ps, after := af, guard := gd }).run Try.prog W = .ok (.value (.agg V1.toArray)) W) := Lib.hid (fun a t d ty ps af gd W h1 => by rw [hV1]; exact Try.execXg a t _ _ _ d ty ps af gd W h1)
    have HEY : Hid (∀ (a : Act) (t : Nat) (d : Option Tmp) (ty : TypeId) (ps : String) (af : Array Edge) (gd : Option (Tmp × Bool)) (W : World), a.eval (.tmp t) = .slice ao 0 cap → (execOp a.eval { dst := d, op := .build 31 #[(5, .tmp t)], type := ty, pos := ps, after := af, guard := gd }).run Try.prog W = .ok (.value (.agg V2.toArray)) W) := Lib.hid (fun a t d ty ps af gd W h1 => by rw [hV2]; exact Try.execXg a t _ _ _ d ty ps af gd W h1)
    have HSm : Hid (∀ W, Below w4.heap.size w4 W → Calls Try.prog 23 #[.agg V1.toArray, .agg V2.toArray] W fun e w' => e = .returned (.bool true) ∧ Below W.heap.size W w') := Lib.hid (fun W hW => by rw [hV1, hV2]; exact rsame_true (pkE ([] : List (Int × ByteArray))) _ _ W (HT.out.below hW (Nat.le_refl _)) (HX4.out.below hW (Nat.le_refl _)) (by show (([] : List (Int × ByteArray))).length ≤ _; exact Nat.zero_le _))
    clear hV1 hV2 HO HT HX4 HO4 HE4 HF4 HO2
    go_wp2_with (first | (refine wpList_exec_if (op := ⟨_, .build 31 #[(5, .tmp _)], _, _, _, _⟩) (by rfl) (.agg V1.toArray) (HEX.out _ _ _ _ _ _ _ _ rfl) ?_) | (refine wpList_exec_if (op := ⟨_, .build 31 #[(5, .tmp _)], _, _, _, _⟩) (by rfl) (.agg V2.toArray) (HEY.out _ _ _ _ _ _ _ _ rfl) ?_))
    refine (HSm.out _ (Below.refl _ w4)).mono ?_
    rintro e w5 ⟨rfl, b5⟩
    have HE := Lib.hid (HB4.out.trans (b5.mono HB4.out.size))
    clear b5
    go_wp2_with fail
    go_ret
    exact ⟨rfl, HE.out⟩
  · have HT := Lib.hid (exs_tail (cap' := cap' - 1) (exs_own HO))
    obtain ⟨V1, hV1⟩ : ∃ V, V = (pkE ([] : List (Int × ByteArray))).vals (.slice (some ⟨g', 2, none⟩) 0 (cap' - 1)) := ⟨_, rfl⟩
    obtain ⟨V2, hV2⟩ : ∃ V, V = (pkE ([] : List (Int × ByteArray))).vals (.slice ao 0 cap) := ⟨_, rfl⟩
    have HEX : Hid (∀ (a : Act) (t : Nat) (d : Option Tmp) (ty : TypeId) (ps : String) (af : Array Edge) (gd : Option (Tmp × Bool)) (W : World), a.eval (.tmp t) = .slice (some ⟨g', 2, none⟩) 0 (cap' - 1) → (execOp a.eval { dst := d, op := .build 31 #[(5, .tmp t)], type := ty, pos := ps, after := af, guard := gd }).run Try.prog W = .ok (.value (.agg V1.toArray)) W) := Lib.hid (fun a t d ty ps af gd W h1 => by rw [hV1]; exact Try.execXg a t _ _ _ d ty ps af gd W h1)
    have HEY : Hid (∀ (a : Act) (t : Nat) (d : Option Tmp) (ty : TypeId) (ps : String) (af : Array Edge) (gd : Option (Tmp × Bool)) (W : World), a.eval (.tmp t) = .slice ao 0 cap → (execOp a.eval { dst := d, op := .build 31 #[(5, .tmp t)], type := ty, pos := ps, after := af, guard := gd }).run Try.prog W = .ok (.value (.agg V2.toArray)) W) := Lib.hid (fun a t d ty ps af gd W h1 => by rw [hV2]; exact Try.execXg a t _ _ _ d ty ps af gd W h1)
    have HSm : Hid (∀ W, Below w4.heap.size w4 W → Calls Try.prog 23 #[.agg V1.toArray, .agg V2.toArray] W fun e w' => e = .returned (.bool true) ∧ Below W.heap.size W w') := Lib.hid (fun W hW => by rw [hV1, hV2]; exact rsame_true (pkE ([] : List (Int × ByteArray))) _ _ W (HT.out.below hW (Nat.le_refl _)) (HX4.out.below hW (Nat.le_refl _)) (by show (([] : List (Int × ByteArray))).length ≤ _; exact Nat.zero_le _))
    clear hV1 hV2 HO HT HX4 HO4 HE4 HF4 HO2
    go_wp2_with (first | (refine wpList_exec_if (op := ⟨_, .build 31 #[(5, .tmp _)], _, _, _, _⟩) (by rfl) (.agg V1.toArray) (HEX.out _ _ _ _ _ _ _ _ rfl) ?_) | (refine wpList_exec_if (op := ⟨_, .build 31 #[(5, .tmp _)], _, _, _, _⟩) (by rfl) (.agg V2.toArray) (HEY.out _ _ _ _ _ _ _ _ rfl) ?_))
    refine (HSm.out _ (Below.refl _ w4)).mono ?_
    rintro e w5 ⟨rfl, b5⟩
    have HE := Lib.hid (HB4.out.trans (b5.mono HB4.out.size))
    clear b5
    go_wp2_with fail
    go_ret
    exact ⟨rfl, HE.out⟩
set_option maxRecDepth 100000 in
set_option maxHeartbeats 1000000 in
theorem ip6Links_more60 (n m : Nat) (s : ByteArray) (w : World) (h : ¬ 3000 < s.size) (hn : n < 256) (hm : m < 256) (R R' : Chn) (hR : chnE [] n s = R) (hR' : chnE [] 60 (ahead n m (6 + 8 * m) s) = R') (y : Int) (yb : ByteArray) (rl : List (Int × ByteArray)) (pr : Int) (rs : ByteArray) (hK : rl.length < 7) (hy : y ≠ 0) (hA : R = ⟨(y, yb) :: rl, pr, rs, 0⟩) (hg : R' = ⟨(60, zs (6 + 8 * m)) :: (y, yb) :: rl, pr, rs, 0⟩) :
    Calls Try.prog 9 #[.int .u8 n, .string s, .int .u8 m, .bool false] w fun e w' => e = .returned (.bool true) ∧ Below w.heap.size w w' := by
  have hI : ¬ (3000 : Int) < (s.size : Int) := by omega
  have hz := zs_size (6 + 8 * m)
  have hts : (ahead n m (6 + 8 * m) s).size = 8 + 8 * m + s.size := by
    unfold ahead
    rw [← ba_size, ByteArray.data_append, Array.toList_append, List.length_append, ba_size, ba_size, ← ba_size, ByteArray.data_append, Array.toList_append, List.length_append, ba_size, ba_size, hz]
    show 2 + _ + _ = _
    omega
  have C1 := Lib.hid (fun W => chain_any n s W (by omega))
  have C2 := Lib.hid (fun W => chain_any 60 (ahead n m (6 + 8 * m) s) W (by omega))
  rw [hR] at C1
  rw [hR'] at C2
  have CZ := Lib.hid (fun W => zeros_at (6 + 8 * (m : Int)) (6 + 8 * m) (by omega) W (by omega))
  have k1 : IntKind.i64.wrap (n : Int) = (n : Int) := IntWalk.i64_in _ (by omega)
  have k2 : IntKind.i64.wrap (m : Int) = (m : Int) := IntWalk.i64_in _ (by omega)
  have k3 : IntKind.i64.wrap (8 * (m : Int)) = 8 * (m : Int) := IntWalk.i64_in _ (by omega)
  have k4 : IntKind.i64.wrap (6 + 8 * (m : Int)) = 6 + 8 * (m : Int) := IntWalk.i64_in _ (by omega)
  unfold ahead at C2
  have hz2 : (zs (6 + 8 * m)).size ≤ 3000 := by omega
  have hs2 : s.size ≤ 3000 := by omega
  have hmi : (m : Int) < 256 := by omega
  have hni : (n : Int) < 256 := by omega
  clear hz hts hR hR' h hn hm k1 k2 k3 k4
  have z0 : (strOfNums [(n : Int), (m : Int)]).size = 2 := rfl
  generalize zs (6 + 8 * m) = Q at *
  subst hA hg
  have zc := cat_len
  have hcv := conv2
  go_enter Try.func9, Try.ntmps9
  go_wp2_with fail
  refine (awake_true w).mono ?_
  rintro e w1 ⟨rfl, b1⟩
  have HB := Lib.hid b1
  clear b1
  go_wp2_with fail
  refine (C1.out w1).mono ?_
  rintro e w2 ⟨v, x, rfl, hown, herr, b2⟩
  have HB2 := Lib.hid (HB.out.trans (b2.mono HB.out.size))
  have HO2 := Lib.hid hown
  have HE2 := Lib.hid herr
  clear b2 hown herr HB
  go_wp2_with fail
  refine (CZ.out _).mono ?_
  rintro e w3 ⟨rfl, b3⟩
  have HB3 := Lib.hid (HB2.out.trans (b3.mono HB2.out.size))
  have HO3 := Lib.hid ((exs_own HO2.out).below b3 (Nat.le_refl _))
  have HE3 := Lib.hid (HE2.out.below b3 (Nat.le_refl _))
  clear b3 HB2 HE2
  go_wp2_with fail
  refine (C2.out _).mono ?_
  rintro e w4 ⟨v', x', rfl, hown, herr, b4⟩
  have hbz : Below w3.heap.size w3 (w3.alloc (.cells #[.int .u8 n, .int .u8 m] 5)) := (Below.refl _ _).alloc (Nat.le_refl _) _
  have hb4 := hbz.trans (b4.mono hbz.size)
  have HB4 := Lib.hid (HB3.out.trans (hb4.mono HB3.out.size))
  have HX4 := Lib.hid (HO3.out.below hb4 (Nat.le_refl _))
  have HE4 := Lib.hid (HE3.out.below hb4 (Nat.le_refl _))
  have HO4 := Lib.hid hown
  have HF4 := Lib.hid herr
  clear b4 hown herr hbz hb4 HB3 HO3 HE3
  have HO : w4.ownsRow _ 40 2 v' (((60, Q) : Int × ByteArray) :: (((y, yb) : Int × ByteArray) :: rl)).length (extV ((60, Q) :: (((y, yb) : Int × ByteArray) :: rl))) := HO4.out
  obtain rfl : x = .nilIface := by
    rcases HE4.out with ⟨_, h⟩ | ⟨hc, _⟩
    · exact h
    · exact absurd rfl hc
  obtain rfl : x' = .nilIface := by
    rcases HF4.out with ⟨_, h⟩ | ⟨hc, _⟩
    · exact h
    · exact absurd rfl hc
  obtain ⟨g', cap', rfl, c0, c1, hcap⟩ := own_first HO
  simp only [List.length_cons] at hcap ⊢
  have HT := Lib.hid (exs_tail (cap' := cap' - 1) (exs_own HO))
  obtain ⟨g, cap, rfl, d0, d1, hcap2⟩ := own_first HO2.out
  have d0' : w4.cell? ⟨g, 0, none⟩ = some (.int .i64 y) := by
    obtain ⟨b, o, e, c1, _⟩ := exs_cells HX4.out 0 (Nat.zero_lt_succ _)
    injection e with e
    injection e with e1 e2 e3
    subst e1 e2
    exact c1
  have hy0 : (y == 0) = false := by rw [beq_eq_false_iff_ne]; exact hy
  have hcap' : rl.length + 1 + 1 ≤ cap' := hcap
  have hne : ¬ cap' = 1 := by omega
  have hl8 : ((rl.length : Int) + 1 == 8) = false := by rw [beq_eq_false_iff_ne]; omega
  have hl0 : (0 : Int) < (rl.length : Int) + 1 := by omega
  have kL : IntKind.i64.wrap ((rl.length : Int) + 1 + 1) = (rl.length : Int) + 1 + 1 := IntWalk.i64_in _ (by omega)
  obtain ⟨V1, hV1⟩ : ∃ V, V = (pkE (((y, yb) : Int × ByteArray) :: rl)).vals (.slice (some ⟨g', 2, none⟩) (rl.length + 1) (cap' - 1)) := ⟨_, rfl⟩
  obtain ⟨V2, hV2⟩ : ∃ V, V = (pkE (((y, yb) : Int × ByteArray) :: rl)).vals (.slice (some ⟨g, 0, none⟩) (rl.length + 1) cap) := ⟨_, rfl⟩
  have HEX : Hid (∀ (a : Act) (t : Nat) (d : Option Tmp) (ty : TypeId) (ps : String) (af : Array Edge) (gd : Option (Tmp × Bool)) (W : World), a.eval (.tmp t) = .slice (some ⟨g', 2, none⟩) (rl.length + 1) (cap' - 1) → (execOp a.eval { dst := d, op := .build 31 #[(5, .tmp t)], type := ty, pos := ps, after := af, guard := gd }).run Try.prog W = .ok (.value (.agg V1.toArray)) W) := Lib.hid (fun a t d ty ps af gd W h1 => by rw [hV1]; exact Try.execXg a t _ _ _ d ty ps af gd W h1)
  have HEY : Hid (∀ (a : Act) (t : Nat) (d : Option Tmp) (ty : TypeId) (ps : String) (af : Array Edge) (gd : Option (Tmp × Bool)) (W : World), a.eval (.tmp t) = .slice (some ⟨g, 0, none⟩) (rl.length + 1) cap → (execOp a.eval { dst := d, op := .build 31 #[(5, .tmp t)], type := ty, pos := ps, after := af, guard := gd }).run Try.prog W = .ok (.value (.agg V2.toArray)) W) := Lib.hid (fun a t d ty ps af gd W h1 => by rw [hV2]; exact Try.execXg a t _ _ _ d ty ps af gd W h1)
  have HSm : Hid (∀ W, Below w4.heap.size w4 W → Calls Try.prog 23 #[.agg V1.toArray, .agg V2.toArray] W fun e w' => e = .returned (.bool true) ∧ Below W.heap.size W w') := Lib.hid (fun W hW => by rw [hV1, hV2]; exact rsame_true (pkE (((y, yb) : Int × ByteArray) :: rl)) _ _ W (HT.out.below hW (Nat.le_refl _)) (HX4.out.below hW (Nat.le_refl _)) (by show ((((y, yb) : Int × ByteArray) :: rl)).length ≤ _; rw [List.length_cons]; omega))
  clear hV1 hV2 HO HT HX4 HO4 HE4 HF4 HO2
  clear d0 d1 hcap hy
  have hK7 : rl.length < 7 := hK
  clear hK
  generalize rl.length = K at *
  go_wp2_with (first | (refine wpList_exec_if (op := ⟨_, .build 31 #[(5, .tmp _)], _, _, _, _⟩) (by rfl) (.agg V1.toArray) (HEX.out _ _ _ _ _ _ _ _ rfl) ?_) | (refine wpList_exec_if (op := ⟨_, .build 31 #[(5, .tmp _)], _, _, _, _⟩) (by rfl) (.agg V2.toArray) (HEY.out _ _ _ _ _ _ _ _ rfl) ?_))
  refine (HSm.out _ (Below.refl _ w4)).mono ?_
  rintro e w5 ⟨rfl, b5⟩
  have HE := Lib.hid (HB4.out.trans (b5.mono HB4.out.size))
  clear b5
  go_wp2_with fail
  go_ret
  exact ⟨rfl, HE.out⟩
end Go.Proofs.Ytphemimpkbjfoaa
