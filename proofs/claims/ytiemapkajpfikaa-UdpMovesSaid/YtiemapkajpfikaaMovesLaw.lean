/-
  Proved here: the law UdpMoves answers true, given what the program's functions answer.
  Conditions: USays.
-/
import Derived.Test.YtiemapkajpfikaaBackLaw
import Derived.Test.YtiemapkajpfikaaSaysCheck
namespace Go.Proofs.Ytiemapkajpfikaa
open Go.RowKit

/-- A text cut to an even size. -/
structure Even (ps Q : ByteArray) (E : Nat) : Prop where
  q : Q = ps.extract 0 E
  even : Q.size % 2 = 0
  le : Q.size ≤ ps.size
  t1 : (ps.size : Int).tdiv 2 = (ps.size : Int) / 2
  t3 : (ps.size : Int) / 2 * 2 = (E : Int)
  t5 : (E : Int) ≤ (ps.size : Int)
theorem even_of (ps : ByteArray) : Even ps (ps.extract 0 (ps.size / 2 * 2)) (ps.size / 2 * 2) :=
  ⟨rfl, by simp; omega, by simp; omega, Int.tdiv_eq_ediv_of_nonneg (by omega), by omega, by omega⟩
theorem moved_why {d : Dg} (h : d.why = 0) (a b : Nat) (ha : a ≤ 65535) (hb : b ≤ 65535) (s : Int) : (Dg.mk a b s d.data).why = 0 := by
  have hz := (why_zero h).2.2
  show (if (a : Int) < 0 ∨ 65535 < (a : Int) ∨ (b : Int) < 0 ∨ 65535 < (b : Int) then (13 : Int) else if 65527 < d.data.size then 3 else 0) = 0
  rw [if_neg (by omega), if_neg (by omega)]
theorem moved_code {d : Dg} (h : d.why = 0) (one two : ByteArray) : ccode (d.bytes two) one = if rightB (one ++ d.bytes two).data.toList = true then 0 else 9 := by
  rw [ccode_right, if_neg (fun k => k (bytes_code h)), (bytes_dans h).2.2.1, if_neg (sum1_pos d two)]
theorem two0 (a b : ByteArray) (w : World) : (w.alloc (.cells #[.string a, .string b] 9)).cell? ⟨w.heap.size, 0, none⟩ = some (.string a) := by rw [World.cell?_alloc_new]; rfl
theorem two1 (a b : ByteArray) (w : World) : (w.alloc (.cells #[.string a, .string b] 9)).cell? ⟨w.heap.size, 1, none⟩ = some (.string b) := by rw [World.cell?_alloc_new]; rfl
theorem right_at (a b : ByteArray) (w : World) (g : Nat) (h : a.size + b.size ≤ 1099511627776) (h0 : w.cell? ⟨g, 0, none⟩ = some (.string a)) (h1 : w.cell? ⟨g, 1, none⟩ = some (.string b)) :
    Calls Try.prog 17 #[.slice (some ⟨g, 0, none⟩) 2 2] w fun e w' => e = .returned (.bool (rightB (a ++ b).data.toList)) ∧ w = w' := by
  have e : catL (nth [a, b]) 2 = (a ++ b).data.toList := by
    rw [catL_nth [a, b] 2 (Nat.le_refl _)]
    simp [allOf]
  have hl : (a ++ b).data.toList.length ≤ 1099511627776 := by rw [ba_size, dcat_len]; exact h
  rw [← e] at hl ⊢
  refine right_any (some ⟨g, 0, none⟩) 2 2 (nth [a, b]) w (by omega) ?_ hl
  intro i hi
  refine ⟨g, 0, rfl, ?_⟩
  rw [Nat.zero_add]
  match i, hi with
  | 0, _ => exact h0
  | 1, _ => exact h1

set_option maxRecDepth 100000 in
set_option maxHeartbeats 2000000 in
theorem udpMoves_all (U : USays) (d : Dg) (ps pt : ByteArray) (a b : Nat) (ha : a ≤ 65535) (hb : b ≤ 65535) (w : World) :
    Calls Try.prog 7 #[.agg #[.int .i64 d.fr, .int .i64 d.dst, .int .i64 d.sm, .string d.data], .string ps, .string pt, .int .u16 a, .int .u16 b] w fun e w' => e = .returned (.bool true) ∧ Below w.heap.size w w' := by
  have HA := Lib.hid (fun W => awake_true U W)
  obtain ⟨E1, Q1, hE1⟩ : ∃ E Q, Even ps Q E := ⟨_, _, even_of ps⟩
  obtain ⟨E2, Q2, hE2⟩ : ∃ E Q, Even pt Q E := ⟨_, _, even_of pt⟩
  have HE1 := Lib.hid hE1
  have HE2 := Lib.hid hE2
  have C1 := Lib.hid (fun (W : World) (h1 : d.data.size ≤ 70000) (h2 : ps.size ≤ 1000) => U.bytes d Q1 W h1 (by have := hE1.le; omega))
  have q1 := hE1.t1
  have q3 := hE1.t3
  have q5 := hE1.t5
  have r1 := hE2.t1
  have r3 := hE2.t3
  have r5 := hE2.t5
  obtain ⟨x0, hx0⟩ : ∃ x, x = d.fr := ⟨_, rfl⟩
  obtain ⟨x1, hx1⟩ : ∃ x, x = d.dst := ⟨_, rfl⟩
  obtain ⟨x2, hx2⟩ : ∃ x, x = d.sm := ⟨_, rfl⟩
  obtain ⟨x3, hx3⟩ : ∃ x, x = d.data := ⟨_, rfl⟩
  rw [← hx0, ← hx1, ← hx2, ← hx3]
  rw [← hx0, ← hx1, ← hx2, ← hx3] at C1
  have HX := Lib.hid (And.intro hx0 (And.intro hx1 hx3))
  clear hx0 hx1 hx2 hx3 hE1 hE2
  go_enter Try.func7, Try.ntmps7
  go_wp2_with fail
  refine (HA.out _).mono ?_
  rintro e w1 ⟨rfl, b1⟩
  have hK1 : Kp w w.heap.size [(w.heap.size, 23, ([.int .i64 x0, .int .i64 x1, .int .i64 x2, .string x3] : List Value))] w1 := ((Kp.start w).new 23 ([.int .i64 x0, .int .i64 x1, .int .i64 x2, .string x3] : List Value)).below b1 (by simp)
  have HK1 := Lib.hid hK1
  have c0 := hK1.hd.at (i := 0) rfl
  have c1 := hK1.hd.at (i := 1) rfl
  have c2 := hK1.hd.at (i := 2) rfl
  have c3 := hK1.hd.at (i := 3) rfl
  clear b1 HA hK1
  by_cases h1 : 3000 < x3.size
  · have i1 : (3000 : Int) < (x3.size : Int) := by omega
    have d1 := decide_eq_true i1
    clear h1
    go_wp2_with fail
    go_ret
    exact ⟨rfl, HK1.out.2.1⟩
  have i1 : ¬ (3000 : Int) < (x3.size : Int) := by omega
  have d1 := decide_eq_false i1
  by_cases h2 : 100 < ps.size
  · have i2 : (100 : Int) < (ps.size : Int) := by omega
    have d2 := decide_eq_true i2
    clear h1 h2
    go_wp2_with fail
    go_ret
    exact ⟨rfl, HK1.out.2.1⟩
  have i2 : ¬ (100 : Int) < (ps.size : Int) := by omega
  have d2 := decide_eq_false i2
  by_cases h3 : 100 < pt.size
  · have i3 : (100 : Int) < (pt.size : Int) := by omega
    have d3 := decide_eq_true i3
    clear h1 h2 h3
    go_wp2_with fail
    go_ret
    exact ⟨rfl, HK1.out.2.1⟩
  have i3 : ¬ (100 : Int) < (pt.size : Int) := by omega
  have d3 := decide_eq_false i3
  have hd7 : d.data.size ≤ 3000 := by have := HX.out.2.2; rw [← this]; omega
  have HC1 := Lib.hid (fun W => C1.out W (by have := HX.out.2.2; omega) (by omega))
  have q2 : IntKind.i64.wrap ((ps.size : Int) / 2) = (ps.size : Int) / 2 := IntWalk.i64_in _ (by omega)
  have q4 : IntKind.i64.wrap (E1 : Int) = (E1 : Int) := IntWalk.i64_in _ (by omega)
  have r2 : IntKind.i64.wrap ((pt.size : Int) / 2) = (pt.size : Int) / 2 := IntWalk.i64_in _ (by omega)
  have r4 : IntKind.i64.wrap (E2 : Int) = (E2 : Int) := IntWalk.i64_in _ (by omega)
  have hQ1 := HE1.out.le
  have hQ2 := HE2.out.le
  have HS1 := Lib.hid (show Q1.size ≤ 100 by omega)
  have HS2 := Lib.hid (show Q2.size ≤ 100 by omega)
  have w4 : IntKind.i64.wrap (a : Int) = (a : Int) := IntWalk.i64_in _ (by omega)
  have w5 : IntKind.i64.wrap (b : Int) = (b : Int) := IntWalk.i64_in _ (by omega)
  clear h1 h2 h3 C1 hQ1 hQ2
  go_upto_region 7 with (fail)
  clear q1 q2 q3 q4 q5 r1 r2 r3 r4 r5 d1 d2 d3 i1 i2 i3
  rw [← HE1.out.q, ← HE2.out.q]
  go_wp2_with fail
  refine (HC1.out w1).mono ?_
  rintro e w2 ⟨x, rfl, he, b2⟩
  have HK2 := Lib.hid (HK1.out.below b2 (Nat.le_refl _))
  clear b2 c0 c1 c2 c3 HK1 HC1
  by_cases hw : d.why = 0
  case neg =>
    obtain ⟨f, rfl⟩ := errv_some he hw
    have ho : d.out Q1 = ⟨#[]⟩ := by unfold Dg.out; rw [if_neg hw]
    rw [ho]
    clear he ho hw
    go_wp2_with fail
    go_ret
    exact ⟨rfl, HK2.out.2.1⟩
  rw [hw] at he
  obtain rfl := he.nil
  have ho : d.out Q1 = d.bytes Q1 := by unfold Dg.out; rw [if_pos hw]
  rw [ho]
  have hz := (why_zero hw).2.2
  have hmw := moved_why hw a b ha hb (d.sum1 Q1)
  -- what is written first, and what it is parsed as
  have HP1 : Hid (∀ W, Calls Try.prog 8 #[.string (d.bytes Q1)] W fun e w' => e = .returned (.tuple #[.agg #[.int .i64 x0, .int .i64 x1, .int .i64 (d.sum1 Q1), .string x3], .nilIface]) ∧ Below W.heap.size W w') := Lib.hid (fun W => by
    have hBd := bytes_dans (ps := Q1) hw
    refine (U.parse (d.bytes Q1) W (by rw [bytes_size]; omega)).mono ?_
    rintro e w' ⟨x, rfl, he, b⟩
    rw [bytes_code (ps := Q1) hw] at he
    rw [he.nil, hBd.1, hBd.2.1, hBd.2.2.1, hBd.2.2.2, HX.out.1, HX.out.2.1, HX.out.2.2]
    exact ⟨rfl, b⟩)
  obtain ⟨D2, hD2⟩ : ∃ D2, D2 = Dg.mk a b (d.sum1 Q1) d.data := ⟨_, rfl⟩
  have hw2 : D2.why = 0 := by rw [hD2]; exact hmw
  have hd2 : D2.data = d.data := by rw [hD2]
  have HB2 : Hid (∀ W, Calls Try.prog 10 #[.agg #[.int .i64 (a : Nat), .int .i64 (b : Nat), .int .i64 (d.sum1 Q1), .string x3], .string Q2] W fun e w' => e = .returned (.tuple #[.string (D2.bytes Q2), .nilIface]) ∧ Below W.heap.size W w') := Lib.hid (fun W => by
    have := U.bytes D2 Q2 W (by rw [hd2]; omega) (by have := HS2.out; omega)
    rw [hD2] at this
    rw [HX.out.2.2]
    refine this.mono ?_
    rintro e w' ⟨x, rfl, he, b⟩
    rw [← hD2, hw2] at he
    rw [he.nil, ← hD2]
    have ho : D2.out Q2 = D2.bytes Q2 := by unfold Dg.out; rw [if_pos hw2]
    rw [ho]
    exact ⟨rfl, b⟩)
  have HP2 : Hid (∀ W, Calls Try.prog 8 #[.string (D2.bytes Q2)] W fun e w' => e = .returned (.tuple #[.agg #[.int .i64 (a : Nat), .int .i64 (b : Nat), .int .i64 (D2.sum1 Q2), .string x3], .nilIface]) ∧ Below W.heap.size W w') := Lib.hid (fun W => by
    have hBd := bytes_dans (ps := Q2) hw2
    refine (U.parse (D2.bytes Q2) W (by rw [bytes_size, hd2]; omega)).mono ?_
    rintro e w' ⟨x, rfl, he, hbl⟩
    rw [bytes_code (ps := Q2) hw2] at he
    rw [he.nil, hBd.1, hBd.2.1, hBd.2.2.1, hBd.2.2.2, hd2, HX.out.2.2]
    rw [show D2.fr = a by rw [hD2], show D2.dst = b by rw [hD2]]
    exact ⟨rfl, hbl⟩)
  have HB3 : Hid (∀ W, Calls Try.prog 10 #[.agg #[.int .i64 x0, .int .i64 x1, .int .i64 (D2.sum1 Q2), .string x3], .string Q1] W fun e w' => e = .returned (.tuple #[.string (d.bytes Q1), .nilIface]) ∧ Below W.heap.size W w') := Lib.hid (fun W => by
    have hw3 : (Dg.mk d.fr d.dst (D2.sum1 Q2) d.data).why = 0 := hw
    have ho : (Dg.mk d.fr d.dst (D2.sum1 Q2) d.data).out Q1 = d.bytes Q1 := by unfold Dg.out; rw [if_pos hw3]; rfl
    have := U.bytes (Dg.mk d.fr d.dst (D2.sum1 Q2) d.data) Q1 W (by show d.data.size ≤ 70000; omega) (by have := HS1.out; omega)
    rw [HX.out.1, HX.out.2.1, HX.out.2.2]
    refine this.mono ?_
    rintro e w' ⟨x, rfl, he, b⟩
    rw [hw3] at he
    rw [he.nil, ho]
    exact ⟨rfl, b⟩)
  have HC2 : Hid (∀ W, Calls Try.prog 9 #[.string (D2.bytes Q2), .string Q2] W fun e w' => e = .returned (.nilIface) ∧ Below W.heap.size W w') := Lib.hid (fun W => by
    refine (U.check (D2.bytes Q2) Q2 W (by rw [bytes_size, hd2]; omega) (by have := HS2.out; omega)).mono ?_
    rintro e w' ⟨x, rfl, he, b⟩
    rw [bytes_checked hw2 HE2.out.even] at he
    rw [he.nil]
    exact ⟨rfl, b⟩)
  have HC3 : Hid (∀ W, Calls Try.prog 9 #[.string (D2.bytes Q2), .string Q1] W fun e w' => (∃ x, e = .returned x ∧ if rightB (Q1 ++ D2.bytes Q2).data.toList = true then x = .nilIface else ∃ f, x = .iface 62 (.pointer (some ⟨f, 0, none⟩))) ∧ Below W.heap.size W w') := Lib.hid (fun W => by
    refine (U.check (D2.bytes Q2) Q1 W (by rw [bytes_size, hd2]; omega) (by have := HS1.out; omega)).mono ?_
    rintro e w' ⟨x, rfl, he, b⟩
    refine ⟨⟨x, rfl, ?_⟩, b⟩
    rw [moved_code hw2] at he
    split
    · rename_i h
      rw [if_pos h] at he
      exact he.nil
    · rename_i h
      rw [if_neg h] at he
      exact errv_some he (by decide))
  have HR1 := Lib.hid (fun W => right_two Q1 (D2.bytes Q2) W (by rw [bytes_size, hd2]; have := HS1.out; omega))
  have HR2 := Lib.hid (fun W g => right_at Q1 (D2.bytes Q2) W g (by rw [bytes_size, hd2]; have := HS1.out; omega))
  generalize rightB (Q1 ++ D2.bytes Q2).data.toList = rb at *
  generalize D2.bytes Q2 = T at *
  generalize D2.sum1 Q2 = s2 at *
  generalize d.bytes Q1 = X at *
  generalize d.sum1 Q1 = s1 at *
  clear hD2 hw2 hd2 D2 hmw hz ho he hw hd7
  go_wp2_with fail
  refine (HP1.out _).mono ?_
  rintro e w3 ⟨rfl, b3⟩
  have hK3 := HK2.out.below b3 (Nat.le_refl _)
  have HN := Lib.hid (hK3.ne _ List.mem_cons_self)
  have hK4 := hK3.new 23 ([.int .i64 x0, .int .i64 x1, .int .i64 s1, .string x3] : List Value)
  have e0 := hK4.hd.at (i := 0) rfl
  have e1 := hK4.hd.at (i := 1) rfl
  have z0 := hK4.hd.z 0
  have z1 := hK4.hd.z 1
  have HB3L := Lib.hid hK3.2.2
  have HK4 := Lib.hid hK4
  clear b3 hK3 hK4 HK2 HP1
  generalize hw4 : w3.alloc (.cells #[.int .i64 x0, .int .i64 x1, .int .i64 s1, .string x3] 23) = w4 at *
  go_upto_region 11 with (fail)
  clear hw4
  go_upto_region 12 with (fail)
  have hK5 : Kp w w.heap.size [(w3.heap.size, 23, ([.int .i64 (a : Nat), .int .i64 (b : Nat), .int .i64 s1, .string x3] : List Value)), (w.heap.size, 23, ([.int .i64 x0, .int .i64 x1, .int .i64 x2, .string x3] : List Value))] ((w4.setCell ⟨w3.heap.size, 0, none⟩ (.int .i64 (a : Nat))).setCell ⟨w3.heap.size, 1, none⟩ (.int .i64 (b : Nat))) := (HK4.out.set1 (fun x hx => by rw [List.mem_singleton.1 hx]; exact HN.out) HB3L.out 0 (.int .i64 (a : Nat))).set1 (fun x hx => by rw [List.mem_singleton.1 hx]; exact HN.out) HB3L.out 1 (.int .i64 (b : Nat))
  clear e0 e1 z0 z1 HK4
  generalize hw5 : (w4.setCell ⟨w3.heap.size, 0, none⟩ (.int .i64 (a : Nat))).setCell ⟨w3.heap.size, 1, none⟩ (.int .i64 (b : Nat)) = v5 at *
  clear hw5
  have HK5 := Lib.hid hK5.tl
  have e0 := hK5.hd.at (i := 0) rfl
  have e1 := hK5.hd.at (i := 1) rfl
  have e2 := hK5.hd.at (i := 2) rfl
  have e3 := hK5.hd.at (i := 3) rfl
  clear hK5
  go_wp2_with fail
  refine (HB2.out _).mono ?_
  rintro e w6 ⟨rfl, b6⟩
  have HK6 := Lib.hid (HK5.out.below b6 (Nat.le_refl _))
  clear b6 HK5 HB2 e0 e1 e2 e3
  go_wp2_with fail
  refine (HP2.out _).mono ?_
  rintro e w7 ⟨rfl, b7⟩
  have hK7 := HK6.out.below b7 (Nat.le_refl _)
  have HN7 := Lib.hid (hK7.ne _ List.mem_cons_self)
  have hK8 := hK7.new 23 ([.int .i64 (a : Nat), .int .i64 (b : Nat), .int .i64 s2, .string x3] : List Value)
  have HB7 := Lib.hid hK7.2.2
  have HK8 := Lib.hid hK8
  have e0 := hK8.hd.at (i := 0) rfl
  have e1 := hK8.hd.at (i := 1) rfl
  have z0 := hK8.hd.z 0
  have z1 := hK8.hd.z 1
  have c0 := hK8.tl.hd.at (i := 0) rfl
  have c1 := hK8.tl.hd.at (i := 1) rfl
  clear b7 hK7 hK8 HK6 HP2
  generalize hw8 : w7.alloc (.cells #[.int .i64 (a : Nat), .int .i64 (b : Nat), .int .i64 s2, .string x3] 23) = w8 at *
  go_upto_region 14 with (fail)
  clear hw8
  go_region
  go_upto_region 15 with (fail)
  have hK9 : Kp w w.heap.size [(w7.heap.size, 23, ([.int .i64 x0, .int .i64 x1, .int .i64 s2, .string x3] : List Value)), (w.heap.size, 23, ([.int .i64 x0, .int .i64 x1, .int .i64 x2, .string x3] : List Value))] ((w8.setCell ⟨w7.heap.size, 0, none⟩ (.int .i64 x0)).setCell ⟨w7.heap.size, 1, none⟩ (.int .i64 x1)).drew := ((HK8.out.set1 (fun x hx => by rw [List.mem_singleton.1 hx]; exact HN7.out) HB7.out 0 (.int .i64 x0)).set1 (fun x hx => by rw [List.mem_singleton.1 hx]; exact HN7.out) HB7.out 1 (.int .i64 x1)).drew
  clear e0 e1 z0 z1 c0 c1 HK8
  generalize hw9 : ((w8.setCell ⟨w7.heap.size, 0, none⟩ (.int .i64 x0)).setCell ⟨w7.heap.size, 1, none⟩ (.int .i64 x1)).drew = v9 at *
  clear hw9
  have HK9 := Lib.hid hK9.2
  have e0 := hK9.hd.at (i := 0) rfl
  have e1 := hK9.hd.at (i := 1) rfl
  have e2 := hK9.hd.at (i := 2) rfl
  have e3 := hK9.hd.at (i := 3) rfl
  clear hK9
  go_wp2_with fail
  refine (HB3.out _).mono ?_
  rintro e w10 ⟨rfl, b10⟩
  have HB10 := Lib.hid (HK9.out.1.trans (b10.mono HK9.out.2))
  have HL10 := Lib.hid (Nat.le_trans HK9.out.2 b10.size)
  clear b10 HK9 HB3 e0 e1 e2 e3
  go_wp2_with fail
  refine (HC2.out _).mono ?_
  rintro e w11 ⟨rfl, b11⟩
  have HB11 := Lib.hid (HB10.out.trans (b11.mono HL10.out))
  have HL11 := Lib.hid (Nat.le_trans HL10.out b11.size)
  clear b11 HB10 HL10 HC2
  cases rb
  · have HCf : Hid (∀ W, Calls Try.prog 9 #[.string T, .string Q1] W fun e w' => ∃ f, e = .returned (.iface 62 (.pointer (some ⟨f, 0, none⟩))) ∧ Below W.heap.size W w') := Lib.hid (fun W => by
      refine (HC3.out W).mono ?_
      rintro e w' ⟨⟨x, rfl, h⟩, hbl⟩
      rw [if_neg (show ¬ (false = true) by decide)] at h
      obtain ⟨f, rfl⟩ := h
      exact ⟨f, rfl, hbl⟩)
    clear HC3
    go_upto_region 18 with (fail)
    refine wp_region_noPanic ?_
    refine wp_region_held_drew (S := fun w' => Below w.heap.size w w' ∧ w.heap.size ≤ w'.heap.size) (by kernel_rfl) (⟨HB11.out.drew, HL11.out⟩) (fun hHeld => ?_)
    refine wpAnyH_take (i := 0) (oi := { dst := some 118, op := Op.move (Operand.tmp 15), type := 9, pos := "more.go:32", after := #[], guard := none }) (v := ?_) rfl (by kernel_rfl) (by kernel_rfl) (by kernel_rfl) (fun _ _ _ h => h) (Or.inl ⟨by rfl, ?_⟩) (by assumption) ?_
    rotate_left
    · (intro ww hSw; (try dsimp only at hSw); go_simp; try with_reducible rfl)
    (try simp only [Act.put, List.setIfInBounds_toArray, List.set_cons_zero, List.set_cons_succ])
    refine wpAnyH_take (i := 1) (oi := { dst := some 119, op := Op.move (Operand.tmp 1), type := 9, pos := "more.go:32", after := #[], guard := none }) (v := ?_) rfl (by kernel_rfl) (by kernel_rfl) (by kernel_rfl) (fun _ _ _ h => h) (Or.inl ⟨by rfl, ?_⟩) (by assumption) ?_
    rotate_left
    · (intro ww hSw; (try dsimp only at hSw); go_simp; try with_reducible rfl)
    (try simp only [Act.put, List.setIfInBounds_toArray, List.set_cons_zero, List.set_cons_succ])
    refine wpAnyH_take (i := 4) (oi := { dst := some 122, op := Op.move (Operand.tmp 1), type := 9, pos := "more.go:32", after := #[], guard := none }) (v := ?_) rfl (by kernel_rfl) (by kernel_rfl) (by kernel_rfl) (fun _ _ _ h => h) (Or.inl ⟨by rfl, ?_⟩) (by assumption) ?_
    rotate_left
    · (intro ww hSw; (try dsimp only at hSw); go_simp; try with_reducible rfl)
    (try simp only [Act.put, List.setIfInBounds_toArray, List.set_cons_zero, List.set_cons_succ])
    refine wpAnyH_take (i := 5) (oi := { dst := some 123, op := Op.move (Operand.tmp 15), type := 9, pos := "more.go:32", after := #[], guard := none }) (v := ?_) rfl (by kernel_rfl) (by kernel_rfl) (by kernel_rfl) (fun _ _ _ h => h) (Or.inl ⟨by rfl, ?_⟩) (by assumption) ?_
    rotate_left
    · (intro ww hSw; (try dsimp only at hSw); go_simp; try with_reducible rfl)
    (try simp only [Act.put, List.setIfInBounds_toArray, List.set_cons_zero, List.set_cons_succ])
    refine wpAnyH_ready (rs := [2, 6]) (by kernel_rfl) (by simp) ?_
    refine AllReadyH.cons (o := { dst := some 120, op := Op.call { callee := Callee.value (Operand.func 9), args := #[Operand.tmp 118, Operand.tmp 119], argTypes := #[9, 9] }, type := 25, pos := "more.go:32", after := #[{ on := 0, ground := Ground.data }, { on := 1, ground := Ground.data }], guard := none }) rfl (fun K hK => ?_) (AllReadyH.cons (o := { dst := some 124, op := Op.buildSlice 70 2 #[(0, Operand.tmp 122), (1, Operand.tmp 123)], type := 70, pos := "more.go:32", after := #[{ on := 4, ground := Ground.data }, { on := 5, ground := Ground.data }], guard := none }) rfl (fun K hK => ?_) AllReadyH.nil)
    · go_simp
      ((with_reducible refine (HCf.out _).mono ?_); rintro e w9 ⟨f, rfl, hb9⟩)
      refine hK.out _ _ (⟨hHeld.1.trans (hb9.mono hHeld.2), Nat.le_trans hHeld.2 hb9.size⟩) (fun hHeld => ?_)
      clear hK K
      (try simp only [Act.put, List.setIfInBounds_toArray, List.set_cons_zero, List.set_cons_succ])
      refine wpAnyH_take (i := 3) (oi := { dst := some 121, op := Op.binOp BinOp.eql 25 (Operand.tmp 120) (Operand.const Value.nilIface) 25, type := 4, pos := "more.go:32", after := #[{ on := 2, ground := Ground.data }], guard := none }) (v := ?_) rfl (by kernel_rfl) (by kernel_rfl) (by kernel_rfl) (fun _ _ _ h => h) (Or.inl ⟨by rfl, ?_⟩) (by assumption) ?_
      rotate_left
      · (intro ww hSw; (try dsimp only at hSw); go_simp; try with_reducible rfl)
      (try simp only [Act.put, List.setIfInBounds_toArray, List.set_cons_zero, List.set_cons_succ])
      have hH6 := hHeld
      refine wpAnyH_ready (rs := [6]) (by kernel_rfl) (by simp) ?_
      refine AllReadyH.cons (o := { dst := some 124, op := Op.buildSlice 70 2 #[(0, Operand.tmp 122), (1, Operand.tmp 123)], type := 70, pos := "more.go:32", after := #[{ on := 4, ground := Ground.data }, { on := 5, ground := Ground.data }], guard := none }) rfl (fun K hK => ?_) AllReadyH.nil
      go_simp
      refine hK.out _ _ (⟨hHeld.1.alloc hHeld.2 _, (hHeld.1.alloc hHeld.2 _).size⟩) (fun hHeld => ?_)
      clear hK K
      (try simp only [Act.put, List.setIfInBounds_toArray, List.set_cons_zero, List.set_cons_succ])
      refine wpAnyH_ready (rs := [7]) (by kernel_rfl) (by simp) ?_
      refine AllReadyH.cons (o := { dst := some 125, op := Op.call { callee := Callee.value (Operand.func 17), args := #[Operand.tmp 124], argTypes := #[70] }, type := 4, pos := "more.go:32", after := #[{ on := 6, ground := Ground.data }, { on := 2, ground := Ground.chain }], guard := none }) rfl (fun K hK => ?_) AllReadyH.nil
      go_simp
      ((with_reducible refine (HR1.out _).mono ?_); rintro e w9 ⟨rfl, hb9⟩)
      refine hK.out _ _ (⟨hH6.1.trans (hb9.mono hH6.2), Nat.le_trans hH6.2 hb9.size⟩) (fun hHeld => ?_)
      clear hK K
      (try simp only [Act.put, List.setIfInBounds_toArray, List.set_cons_zero, List.set_cons_succ])
      refine wpAnyH_take (i := 8) (oi := { dst := some 126, op := Op.binOp BinOp.eql 4 (Operand.tmp 121) (Operand.tmp 125) 4, type := 4, pos := "more.go:32", after := #[{ on := 3, ground := Ground.data }, { on := 7, ground := Ground.data }], guard := none }) (v := ?_) rfl (by kernel_rfl) (by kernel_rfl) (by kernel_rfl) (fun _ _ _ h => h) (Or.inl ⟨by rfl, ?_⟩) (by assumption) ?_
      rotate_left
      · (intro ww hSw; (try dsimp only at hSw); go_simp; try with_reducible rfl)
      (try simp only [Act.put, List.setIfInBounds_toArray, List.set_cons_zero, List.set_cons_succ])
      refine wpAnyH_take (i := 9) (oi := { dst := some 10, op := Op.assign (Operand.tmp 126), type := 4, pos := "more.go:32", after := #[{ on := 8, ground := Ground.data }, { on := 7, ground := Ground.chain }, { on := 0, ground := Ground.phase }, { on := 1, ground := Ground.phase }, { on := 2, ground := Ground.phase }, { on := 3, ground := Ground.phase }, { on := 4, ground := Ground.phase }, { on := 5, ground := Ground.phase }, { on := 6, ground := Ground.phase }, { on := 7, ground := Ground.phase }, { on := 8, ground := Ground.phase }], guard := none }) (v := ?_) rfl (by kernel_rfl) (by kernel_rfl) (by kernel_rfl) (fun _ _ _ h => h) (Or.inl ⟨by rfl, ?_⟩) (by assumption) ?_
      rotate_left
      · (intro ww hSw; (try dsimp only at hSw); go_simp; try with_reducible rfl)
      (try simp only [Act.put, List.setIfInBounds_toArray, List.set_cons_zero, List.set_cons_succ])
      refine wpAnyH_done (by kernel_rfl) ?_ _
      refine NoPanic.normal ?_
      have HE := Lib.hid (And.left hHeld)
      clear hHeld
      go_wp2_with fail
      go_ret
      exact ⟨rfl, HE.out⟩
    · go_simp
      refine hK.out _ _ (⟨hHeld.1.alloc hHeld.2 _, (hHeld.1.alloc hHeld.2 _).size⟩) (fun hHeld => ?_)
      clear hK K
      (try simp only [Act.put, List.setIfInBounds_toArray, List.set_cons_zero, List.set_cons_succ])
      refine wpAnyH_ready (rs := [2]) (by kernel_rfl) (by simp) ?_
      refine AllReadyH.cons (o := { dst := some 120, op := Op.call { callee := Callee.value (Operand.func 9), args := #[Operand.tmp 118, Operand.tmp 119], argTypes := #[9, 9] }, type := 25, pos := "more.go:32", after := #[{ on := 0, ground := Ground.data }, { on := 1, ground := Ground.data }], guard := none }) rfl (fun K hK => ?_) AllReadyH.nil
      go_simp
      ((with_reducible refine (HCf.out _).mono ?_); rintro e w9 ⟨f, rfl, hb9⟩)
      refine hK.out _ _ (⟨hHeld.1.trans (hb9.mono hHeld.2), Nat.le_trans hHeld.2 hb9.size⟩) (fun hHeld => ?_)
      clear hK K
      (try simp only [Act.put, List.setIfInBounds_toArray, List.set_cons_zero, List.set_cons_succ])
      refine wpAnyH_take (i := 3) (oi := { dst := some 121, op := Op.binOp BinOp.eql 25 (Operand.tmp 120) (Operand.const Value.nilIface) 25, type := 4, pos := "more.go:32", after := #[{ on := 2, ground := Ground.data }], guard := none }) (v := ?_) rfl (by kernel_rfl) (by kernel_rfl) (by kernel_rfl) (fun _ _ _ h => h) (Or.inl ⟨by rfl, ?_⟩) (by assumption) ?_
      rotate_left
      · (intro ww hSw; (try dsimp only at hSw); go_simp; try with_reducible rfl)
      (try simp only [Act.put, List.setIfInBounds_toArray, List.set_cons_zero, List.set_cons_succ])
      refine wpAnyH_ready (rs := [7]) (by kernel_rfl) (by simp) ?_
      refine AllReadyH.cons (o := { dst := some 125, op := Op.call { callee := Callee.value (Operand.func 17), args := #[Operand.tmp 124], argTypes := #[70] }, type := 4, pos := "more.go:32", after := #[{ on := 6, ground := Ground.data }, { on := 2, ground := Ground.chain }], guard := none }) rfl (fun K hK => ?_) AllReadyH.nil
      have h70 := cell_kept (w := (w11.alloc (.cells #[.string Q1, .string T] 9)).drew) (two0 Q1 T w11) hb9
      have h71 := cell_kept (w := (w11.alloc (.cells #[.string Q1, .string T] 9)).drew) (two1 Q1 T w11) hb9
      go_simp
      ((with_reducible refine (HR2.out _ _ h70 h71).mono ?_); rintro e w9 ⟨rfl, rfl⟩)
      refine hK.out _ _ (hHeld) (fun hHeld => ?_)
      clear hK K
      (try simp only [Act.put, List.setIfInBounds_toArray, List.set_cons_zero, List.set_cons_succ])
      refine wpAnyH_take (i := 8) (oi := { dst := some 126, op := Op.binOp BinOp.eql 4 (Operand.tmp 121) (Operand.tmp 125) 4, type := 4, pos := "more.go:32", after := #[{ on := 3, ground := Ground.data }, { on := 7, ground := Ground.data }], guard := none }) (v := ?_) rfl (by kernel_rfl) (by kernel_rfl) (by kernel_rfl) (fun _ _ _ h => h) (Or.inl ⟨by rfl, ?_⟩) (by assumption) ?_
      rotate_left
      · (intro ww hSw; (try dsimp only at hSw); go_simp; try with_reducible rfl)
      (try simp only [Act.put, List.setIfInBounds_toArray, List.set_cons_zero, List.set_cons_succ])
      refine wpAnyH_take (i := 9) (oi := { dst := some 10, op := Op.assign (Operand.tmp 126), type := 4, pos := "more.go:32", after := #[{ on := 8, ground := Ground.data }, { on := 7, ground := Ground.chain }, { on := 0, ground := Ground.phase }, { on := 1, ground := Ground.phase }, { on := 2, ground := Ground.phase }, { on := 3, ground := Ground.phase }, { on := 4, ground := Ground.phase }, { on := 5, ground := Ground.phase }, { on := 6, ground := Ground.phase }, { on := 7, ground := Ground.phase }, { on := 8, ground := Ground.phase }], guard := none }) (v := ?_) rfl (by kernel_rfl) (by kernel_rfl) (by kernel_rfl) (fun _ _ _ h => h) (Or.inl ⟨by rfl, ?_⟩) (by assumption) ?_
      rotate_left
      · (intro ww hSw; (try dsimp only at hSw); go_simp; try with_reducible rfl)
      (try simp only [Act.put, List.setIfInBounds_toArray, List.set_cons_zero, List.set_cons_succ])
      refine wpAnyH_done (by kernel_rfl) ?_ _
      refine NoPanic.normal ?_
      have HE := Lib.hid (And.left hHeld)
      clear hHeld
      go_wp2_with fail
      go_ret
      exact ⟨rfl, HE.out⟩
  · have HCt : Hid (∀ W, Calls Try.prog 9 #[.string T, .string Q1] W fun e w' => e = .returned .nilIface ∧ Below W.heap.size W w') := Lib.hid (fun W => by
      refine (HC3.out W).mono ?_
      rintro e w' ⟨⟨x, rfl, h⟩, hbl⟩
      rw [if_pos rfl] at h
      rw [h]
      exact ⟨rfl, hbl⟩)
    clear HC3
    go_upto_region 18 with (fail)
    refine wp_region_noPanic ?_
    refine wp_region_held_drew (S := fun w' => Below w.heap.size w w' ∧ w.heap.size ≤ w'.heap.size) (by kernel_rfl) (⟨HB11.out.drew, HL11.out⟩) (fun hHeld => ?_)
    refine wpAnyH_take (i := 0) (oi := { dst := some 118, op := Op.move (Operand.tmp 15), type := 9, pos := "more.go:32", after := #[], guard := none }) (v := ?_) rfl (by kernel_rfl) (by kernel_rfl) (by kernel_rfl) (fun _ _ _ h => h) (Or.inl ⟨by rfl, ?_⟩) (by assumption) ?_
    rotate_left
    · (intro ww hSw; (try dsimp only at hSw); go_simp; try with_reducible rfl)
    (try simp only [Act.put, List.setIfInBounds_toArray, List.set_cons_zero, List.set_cons_succ])
    refine wpAnyH_take (i := 1) (oi := { dst := some 119, op := Op.move (Operand.tmp 1), type := 9, pos := "more.go:32", after := #[], guard := none }) (v := ?_) rfl (by kernel_rfl) (by kernel_rfl) (by kernel_rfl) (fun _ _ _ h => h) (Or.inl ⟨by rfl, ?_⟩) (by assumption) ?_
    rotate_left
    · (intro ww hSw; (try dsimp only at hSw); go_simp; try with_reducible rfl)
    (try simp only [Act.put, List.setIfInBounds_toArray, List.set_cons_zero, List.set_cons_succ])
    refine wpAnyH_take (i := 4) (oi := { dst := some 122, op := Op.move (Operand.tmp 1), type := 9, pos := "more.go:32", after := #[], guard := none }) (v := ?_) rfl (by kernel_rfl) (by kernel_rfl) (by kernel_rfl) (fun _ _ _ h => h) (Or.inl ⟨by rfl, ?_⟩) (by assumption) ?_
    rotate_left
    · (intro ww hSw; (try dsimp only at hSw); go_simp; try with_reducible rfl)
    (try simp only [Act.put, List.setIfInBounds_toArray, List.set_cons_zero, List.set_cons_succ])
    refine wpAnyH_take (i := 5) (oi := { dst := some 123, op := Op.move (Operand.tmp 15), type := 9, pos := "more.go:32", after := #[], guard := none }) (v := ?_) rfl (by kernel_rfl) (by kernel_rfl) (by kernel_rfl) (fun _ _ _ h => h) (Or.inl ⟨by rfl, ?_⟩) (by assumption) ?_
    rotate_left
    · (intro ww hSw; (try dsimp only at hSw); go_simp; try with_reducible rfl)
    (try simp only [Act.put, List.setIfInBounds_toArray, List.set_cons_zero, List.set_cons_succ])
    refine wpAnyH_ready (rs := [2, 6]) (by kernel_rfl) (by simp) ?_
    refine AllReadyH.cons (o := { dst := some 120, op := Op.call { callee := Callee.value (Operand.func 9), args := #[Operand.tmp 118, Operand.tmp 119], argTypes := #[9, 9] }, type := 25, pos := "more.go:32", after := #[{ on := 0, ground := Ground.data }, { on := 1, ground := Ground.data }], guard := none }) rfl (fun K hK => ?_) (AllReadyH.cons (o := { dst := some 124, op := Op.buildSlice 70 2 #[(0, Operand.tmp 122), (1, Operand.tmp 123)], type := 70, pos := "more.go:32", after := #[{ on := 4, ground := Ground.data }, { on := 5, ground := Ground.data }], guard := none }) rfl (fun K hK => ?_) AllReadyH.nil)
    · go_simp
      ((with_reducible refine (HCt.out _).mono ?_); rintro e w9 ⟨rfl, hb9⟩)
      refine hK.out _ _ (⟨hHeld.1.trans (hb9.mono hHeld.2), Nat.le_trans hHeld.2 hb9.size⟩) (fun hHeld => ?_)
      clear hK K
      (try simp only [Act.put, List.setIfInBounds_toArray, List.set_cons_zero, List.set_cons_succ])
      refine wpAnyH_take (i := 3) (oi := { dst := some 121, op := Op.binOp BinOp.eql 25 (Operand.tmp 120) (Operand.const Value.nilIface) 25, type := 4, pos := "more.go:32", after := #[{ on := 2, ground := Ground.data }], guard := none }) (v := ?_) rfl (by kernel_rfl) (by kernel_rfl) (by kernel_rfl) (fun _ _ _ h => h) (Or.inl ⟨by rfl, ?_⟩) (by assumption) ?_
      rotate_left
      · (intro ww hSw; (try dsimp only at hSw); go_simp; try with_reducible rfl)
      (try simp only [Act.put, List.setIfInBounds_toArray, List.set_cons_zero, List.set_cons_succ])
      have hH6 := hHeld
      refine wpAnyH_ready (rs := [6]) (by kernel_rfl) (by simp) ?_
      refine AllReadyH.cons (o := { dst := some 124, op := Op.buildSlice 70 2 #[(0, Operand.tmp 122), (1, Operand.tmp 123)], type := 70, pos := "more.go:32", after := #[{ on := 4, ground := Ground.data }, { on := 5, ground := Ground.data }], guard := none }) rfl (fun K hK => ?_) AllReadyH.nil
      go_simp
      refine hK.out _ _ (⟨hHeld.1.alloc hHeld.2 _, (hHeld.1.alloc hHeld.2 _).size⟩) (fun hHeld => ?_)
      clear hK K
      (try simp only [Act.put, List.setIfInBounds_toArray, List.set_cons_zero, List.set_cons_succ])
      refine wpAnyH_ready (rs := [7]) (by kernel_rfl) (by simp) ?_
      refine AllReadyH.cons (o := { dst := some 125, op := Op.call { callee := Callee.value (Operand.func 17), args := #[Operand.tmp 124], argTypes := #[70] }, type := 4, pos := "more.go:32", after := #[{ on := 6, ground := Ground.data }, { on := 2, ground := Ground.chain }], guard := none }) rfl (fun K hK => ?_) AllReadyH.nil
      go_simp
      ((with_reducible refine (HR1.out _).mono ?_); rintro e w9 ⟨rfl, hb9⟩)
      refine hK.out _ _ (⟨hH6.1.trans (hb9.mono hH6.2), Nat.le_trans hH6.2 hb9.size⟩) (fun hHeld => ?_)
      clear hK K
      (try simp only [Act.put, List.setIfInBounds_toArray, List.set_cons_zero, List.set_cons_succ])
      refine wpAnyH_take (i := 8) (oi := { dst := some 126, op := Op.binOp BinOp.eql 4 (Operand.tmp 121) (Operand.tmp 125) 4, type := 4, pos := "more.go:32", after := #[{ on := 3, ground := Ground.data }, { on := 7, ground := Ground.data }], guard := none }) (v := ?_) rfl (by kernel_rfl) (by kernel_rfl) (by kernel_rfl) (fun _ _ _ h => h) (Or.inl ⟨by rfl, ?_⟩) (by assumption) ?_
      rotate_left
      · (intro ww hSw; (try dsimp only at hSw); go_simp; try with_reducible rfl)
      (try simp only [Act.put, List.setIfInBounds_toArray, List.set_cons_zero, List.set_cons_succ])
      refine wpAnyH_take (i := 9) (oi := { dst := some 10, op := Op.assign (Operand.tmp 126), type := 4, pos := "more.go:32", after := #[{ on := 8, ground := Ground.data }, { on := 7, ground := Ground.chain }, { on := 0, ground := Ground.phase }, { on := 1, ground := Ground.phase }, { on := 2, ground := Ground.phase }, { on := 3, ground := Ground.phase }, { on := 4, ground := Ground.phase }, { on := 5, ground := Ground.phase }, { on := 6, ground := Ground.phase }, { on := 7, ground := Ground.phase }, { on := 8, ground := Ground.phase }], guard := none }) (v := ?_) rfl (by kernel_rfl) (by kernel_rfl) (by kernel_rfl) (fun _ _ _ h => h) (Or.inl ⟨by rfl, ?_⟩) (by assumption) ?_
      rotate_left
      · (intro ww hSw; (try dsimp only at hSw); go_simp; try with_reducible rfl)
      (try simp only [Act.put, List.setIfInBounds_toArray, List.set_cons_zero, List.set_cons_succ])
      refine wpAnyH_done (by kernel_rfl) ?_ _
      refine NoPanic.normal ?_
      have HE := Lib.hid (And.left hHeld)
      clear hHeld
      go_wp2_with fail
      go_ret
      exact ⟨rfl, HE.out⟩
    · go_simp
      refine hK.out _ _ (⟨hHeld.1.alloc hHeld.2 _, (hHeld.1.alloc hHeld.2 _).size⟩) (fun hHeld => ?_)
      clear hK K
      (try simp only [Act.put, List.setIfInBounds_toArray, List.set_cons_zero, List.set_cons_succ])
      refine wpAnyH_ready (rs := [2]) (by kernel_rfl) (by simp) ?_
      refine AllReadyH.cons (o := { dst := some 120, op := Op.call { callee := Callee.value (Operand.func 9), args := #[Operand.tmp 118, Operand.tmp 119], argTypes := #[9, 9] }, type := 25, pos := "more.go:32", after := #[{ on := 0, ground := Ground.data }, { on := 1, ground := Ground.data }], guard := none }) rfl (fun K hK => ?_) AllReadyH.nil
      go_simp
      ((with_reducible refine (HCt.out _).mono ?_); rintro e w9 ⟨rfl, hb9⟩)
      refine hK.out _ _ (⟨hHeld.1.trans (hb9.mono hHeld.2), Nat.le_trans hHeld.2 hb9.size⟩) (fun hHeld => ?_)
      clear hK K
      (try simp only [Act.put, List.setIfInBounds_toArray, List.set_cons_zero, List.set_cons_succ])
      refine wpAnyH_take (i := 3) (oi := { dst := some 121, op := Op.binOp BinOp.eql 25 (Operand.tmp 120) (Operand.const Value.nilIface) 25, type := 4, pos := "more.go:32", after := #[{ on := 2, ground := Ground.data }], guard := none }) (v := ?_) rfl (by kernel_rfl) (by kernel_rfl) (by kernel_rfl) (fun _ _ _ h => h) (Or.inl ⟨by rfl, ?_⟩) (by assumption) ?_
      rotate_left
      · (intro ww hSw; (try dsimp only at hSw); go_simp; try with_reducible rfl)
      (try simp only [Act.put, List.setIfInBounds_toArray, List.set_cons_zero, List.set_cons_succ])
      refine wpAnyH_ready (rs := [7]) (by kernel_rfl) (by simp) ?_
      refine AllReadyH.cons (o := { dst := some 125, op := Op.call { callee := Callee.value (Operand.func 17), args := #[Operand.tmp 124], argTypes := #[70] }, type := 4, pos := "more.go:32", after := #[{ on := 6, ground := Ground.data }, { on := 2, ground := Ground.chain }], guard := none }) rfl (fun K hK => ?_) AllReadyH.nil
      have h70 := cell_kept (w := (w11.alloc (.cells #[.string Q1, .string T] 9)).drew) (two0 Q1 T w11) hb9
      have h71 := cell_kept (w := (w11.alloc (.cells #[.string Q1, .string T] 9)).drew) (two1 Q1 T w11) hb9
      go_simp
      ((with_reducible refine (HR2.out _ _ h70 h71).mono ?_); rintro e w9 ⟨rfl, rfl⟩)
      refine hK.out _ _ (hHeld) (fun hHeld => ?_)
      clear hK K
      (try simp only [Act.put, List.setIfInBounds_toArray, List.set_cons_zero, List.set_cons_succ])
      refine wpAnyH_take (i := 8) (oi := { dst := some 126, op := Op.binOp BinOp.eql 4 (Operand.tmp 121) (Operand.tmp 125) 4, type := 4, pos := "more.go:32", after := #[{ on := 3, ground := Ground.data }, { on := 7, ground := Ground.data }], guard := none }) (v := ?_) rfl (by kernel_rfl) (by kernel_rfl) (by kernel_rfl) (fun _ _ _ h => h) (Or.inl ⟨by rfl, ?_⟩) (by assumption) ?_
      rotate_left
      · (intro ww hSw; (try dsimp only at hSw); go_simp; try with_reducible rfl)
      (try simp only [Act.put, List.setIfInBounds_toArray, List.set_cons_zero, List.set_cons_succ])
      refine wpAnyH_take (i := 9) (oi := { dst := some 10, op := Op.assign (Operand.tmp 126), type := 4, pos := "more.go:32", after := #[{ on := 8, ground := Ground.data }, { on := 7, ground := Ground.chain }, { on := 0, ground := Ground.phase }, { on := 1, ground := Ground.phase }, { on := 2, ground := Ground.phase }, { on := 3, ground := Ground.phase }, { on := 4, ground := Ground.phase }, { on := 5, ground := Ground.phase }, { on := 6, ground := Ground.phase }, { on := 7, ground := Ground.phase }, { on := 8, ground := Ground.phase }], guard := none }) (v := ?_) rfl (by kernel_rfl) (by kernel_rfl) (by kernel_rfl) (fun _ _ _ h => h) (Or.inl ⟨by rfl, ?_⟩) (by assumption) ?_
      rotate_left
      · (intro ww hSw; (try dsimp only at hSw); go_simp; try with_reducible rfl)
      (try simp only [Act.put, List.setIfInBounds_toArray, List.set_cons_zero, List.set_cons_succ])
      refine wpAnyH_done (by kernel_rfl) ?_ _
      refine NoPanic.normal ?_
      have HE := Lib.hid (And.left hHeld)
      clear hHeld
      go_wp2_with fail
      go_ret
      exact ⟨rfl, HE.out⟩
end Go.Proofs.Ytiemapkajpfikaa
