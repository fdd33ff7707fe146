/-
  Proved here: the law TcpMoves answers true, given what the program's functions answer.
  Conditions: TSays.
-/
import Derived.Test.YtljlonligbheaaaBackLaw
namespace Go.Proofs.Ytljlonligbheaaa
open Go.RowKit

/-- A text cut to an even size. -/
structure Even (ps Q : ByteArray) (E : Nat) : Prop where
  q : Q = ps.extract 0 E
  even : Q.size % 2 = 0
  le : Q.size ≤ ps.size
  t1 : (ps.size : Int).tdiv 2 = (ps.size : Int) / 2
  t3 : (ps.size : Int) / 2 * 2 = (E : Int)
  t5 : (E : Int) ≤ (ps.size : Int)
theorem even_of (ps : ByteArray) : Even ps (ps.extract 0 (ps.size / 2 * 2)) (ps.size / 2 * 2) :=
  ⟨rfl, by simp; omega, by simp; omega, Int.tdiv_eq_ediv_of_nonneg (by omega), by omega, by omega⟩
theorem re_form (d : Sg) (z y f : Int) (hr : 20 ≤ d.raw.size) : (Sg.mk d.fr d.dst f (d.form z)).form y = d.form y := by
  have hs := form_size d z (by omega)
  show tw d.fr ++ tw d.dst ++ (d.form z).extract 4 16 ++ tw y ++ (d.form z).extract 18 (d.form z).size = _
  rw [form_mid d z hr, hs, form_rest d z hr]
  rfl
theorem re_sumN (d : Sg) (z f : Int) (ps : ByteArray) (hr : 20 ≤ d.raw.size) : (Sg.mk d.fr d.dst f (d.form z)).sumN ps = d.sumN ps := by
  unfold Sg.sumN
  rw [re_form d z 0 f hr]
theorem re_bytes (d : Sg) (z f : Int) (ps : ByteArray) (hr : 20 ≤ d.raw.size) : (Sg.mk d.fr d.dst f (d.form z)).bytes ps = d.bytes ps := by
  unfold Sg.bytes
  rw [re_sumN d z f ps hr, re_form d z _ f hr]
theorem why_of {d : Sg} (hc : tcode d.raw = 0) (p0 : 0 ≤ d.fr) (p1 : d.fr ≤ 65535) (q0 : 0 ≤ d.dst) (q1 : d.dst ≤ 65535) : d.why = 0 := by
  unfold Sg.why
  rw [if_neg (fun k => k hc), if_neg (by omega)]
theorem re_why {d : Sg} (hw : d.why = 0) (z f : Int) : (Sg.mk d.fr d.dst f (d.form z)).why = 0 := by
  obtain ⟨_, ⟨p0, p1⟩, ⟨q0, q1⟩⟩ := why_zero hw
  exact why_of (form_code hw z) p0 p1 q0 q1
/-- The sum that layer 2 keeps up is the one of the bytes that are written anew. -/
theorem kept_sum {d : Sg} (hw : d.why = 0) (one two : ByteArray) (h1 : one.size % 2 = 0) (h2 : two.size % 2 = 0) : upd (d.sumN one : Nat) one.data.toList two.data.toList = d.sumN two := by
  obtain ⟨hr, _, _⟩ := why_size hw
  have hp := pre_pos hw
  have e : ∀ ps : ByteArray, ps.size % 2 = 0 → d.sumN ps = 65535 - fold (acc true ps.data.toList + (acc true d.pre.data.toList + acc true (d.raw.extract 18 d.raw.size).data.toList)) := fun ps he => by
    unfold Sg.sumN sumL
    rw [form_acc d ps hr he (show (0 : Int) ≤ 0 by omega) (by omega), show (0 : Int).toNat = 0 from rfl, Nat.add_zero, Nat.add_assoc]
  have hX : 0 < acc true d.pre.data.toList + acc true (d.raw.extract 18 d.raw.size).data.toList := by omega
  have ha := acc_words' one.data.toList
  rw [e two h2]
  unfold upd
  have e1 := e one h1
  generalize d.sumN one = n at *
  generalize acc true d.pre.data.toList + acc true (d.raw.extract 18 d.raw.size).data.toList = Y at *
  have hf := fold_le (acc true one.data.toList + Y)
  have hn : (65535 - ((n : Nat) : Int) % 65536).toNat = fold (acc true one.data.toList + Y) := by omega
  rw [hn, fold_upd rfl (by omega) ha]
set_option maxRecDepth 100000 in
set_option maxHeartbeats 2000000 in
theorem tcpMoves_all (U : TSays) (d : Sg) (ps pt : ByteArray) (w : World) :
    Calls Try.prog 8 #[.agg #[.int .i64 d.fr, .int .i64 d.dst, .int .i64 d.fl, .string d.raw], .string ps, .string pt] w fun e w' => e = .returned (.bool true) ∧ Below w.heap.size w w' := by
  have HA := Lib.hid (fun W => awake_true U W)
  obtain ⟨E1, Q1, hE1⟩ : ∃ E Q, Even ps Q E := ⟨_, _, even_of ps⟩
  obtain ⟨E2, Q2, hE2⟩ : ∃ E Q, Even pt Q E := ⟨_, _, even_of pt⟩
  have HE1 := Lib.hid hE1
  have HE2 := Lib.hid hE2
  have C1 := Lib.hid (fun (W : World) (h1 : d.raw.size ≤ 70000) (h2 : ps.size ≤ 1000) => U.bytes d Q1 W h1 (by have := hE1.le; omega))
  have q1 := hE1.t1
  have q3 := hE1.t3
  have q5 := hE1.t5
  have r1 := hE2.t1
  have r3 := hE2.t3
  have r5 := hE2.t5
  obtain ⟨x0, hx0⟩ : ∃ x, x = d.fr := ⟨_, rfl⟩
  obtain ⟨x1, hx1⟩ : ∃ x, x = d.dst := ⟨_, rfl⟩
  obtain ⟨x2, hx2⟩ : ∃ x, x = d.fl := ⟨_, rfl⟩
  obtain ⟨x3, hx3⟩ : ∃ x, x = d.raw := ⟨_, rfl⟩
  rw [← hx0, ← hx1, ← hx2, ← hx3]
  rw [← hx0, ← hx1, ← hx2, ← hx3] at C1
  have HX := Lib.hid (And.intro hx0 (And.intro hx1 hx3))
  clear hx0 hx1 hx2 hx3 hE1 hE2
  go_enter Try.func8, Try.ntmps8
  go_wp2_with fail
  refine (HA.out _).mono ?_
  rintro e w1 ⟨rfl, b1⟩
  have hK1 : Kp w w.heap.size [(w.heap.size, 23, ([.int .i64 x0, .int .i64 x1, .int .i64 x2, .string x3] : List Value))] w1 := ((Kp.start w).new 23 ([.int .i64 x0, .int .i64 x1, .int .i64 x2, .string x3] : List Value)).below b1 (by simp)
  have HK1 := Lib.hid hK1
  have c0 := hK1.hd.at (i := 0) rfl
  have c1 := hK1.hd.at (i := 1) rfl
  have c2 := hK1.hd.at (i := 2) rfl
  have c3 := hK1.hd.at (i := 3) rfl
  clear b1 HA hK1
  by_cases h1 : 3000 < x3.size
  · have i1 : (3000 : Int) < (x3.size : Int) := by omega
    have d1 := decide_eq_true i1
    clear h1
    go_wp2_with fail
    go_ret
    exact ⟨rfl, HK1.out.2.1⟩
  have i1 : ¬ (3000 : Int) < (x3.size : Int) := by omega
  have d1 := decide_eq_false i1
  by_cases h2 : 100 < ps.size
  · have i2 : (100 : Int) < (ps.size : Int) := by omega
    have d2 := decide_eq_true i2
    clear h1 h2
    go_wp2_with fail
    go_ret
    exact ⟨rfl, HK1.out.2.1⟩
  have i2 : ¬ (100 : Int) < (ps.size : Int) := by omega
  have d2 := decide_eq_false i2
  by_cases h3 : 100 < pt.size
  · have i3 : (100 : Int) < (pt.size : Int) := by omega
    have d3 := decide_eq_true i3
    clear h1 h2 h3
    go_wp2_with fail
    go_ret
    exact ⟨rfl, HK1.out.2.1⟩
  have i3 : ¬ (100 : Int) < (pt.size : Int) := by omega
  have d3 := decide_eq_false i3
  have hd7 : d.raw.size ≤ 3000 := by have := HX.out.2.2; rw [← this]; omega
  have HC1 := Lib.hid (fun W => C1.out W (by have := HX.out.2.2; omega) (by omega))
  have q2 : IntKind.i64.wrap ((ps.size : Int) / 2) = (ps.size : Int) / 2 := IntWalk.i64_in _ (by omega)
  have q4 : IntKind.i64.wrap (E1 : Int) = (E1 : Int) := IntWalk.i64_in _ (by omega)
  have r2 : IntKind.i64.wrap ((pt.size : Int) / 2) = (pt.size : Int) / 2 := IntWalk.i64_in _ (by omega)
  have r4 : IntKind.i64.wrap (E2 : Int) = (E2 : Int) := IntWalk.i64_in _ (by omega)
  have hQ1 := HE1.out.le
  have hQ2 := HE2.out.le
  have HS1 := Lib.hid (show Q1.size ≤ 100 by omega)
  have HS2 := Lib.hid (show Q2.size ≤ 100 by omega)
  clear h1 h2 h3 C1 hQ1 hQ2
  go_upto_region 7 with (fail)
  clear q1 q2 q3 q4 q5 r1 r2 r3 r4 r5 d1 d2 d3 i1 i2 i3
  rw [← HE1.out.q, ← HE2.out.q]
  go_wp2_with fail
  refine (HC1.out w1).mono ?_
  rintro e w2 ⟨x, rfl, he, b2⟩
  have HK2 := Lib.hid (HK1.out.below b2 (Nat.le_refl _))
  clear b2 c0 c1 c2 c3 HK1 HC1
  by_cases hw : d.why = 0
  case neg =>
    obtain ⟨f, rfl⟩ := errv_some he hw
    have ho : d.out Q1 = ⟨#[]⟩ := by unfold Sg.out; rw [if_neg hw]
    rw [ho]
    clear he ho hw
    go_wp2_with fail
    go_ret
    exact ⟨rfl, HK2.out.2.1⟩
  rw [hw] at he
  obtain rfl := he.nil
  have ho : d.out Q1 = d.bytes Q1 := by unfold Sg.out; rw [if_pos hw]
  rw [ho]
  have h20 := (why_size hw).1
  have hXs : (d.bytes Q1).size = d.raw.size := form_size d _ (by omega)
  have hTs : (d.bytes Q2).size = d.raw.size := form_size d _ (by omega)
  have HP1 : Hid (∀ W, Calls Try.prog 9 #[.string (d.bytes Q1)] W fun e w' => e = .returned (.tuple #[.agg #[.int .i64 x0, .int .i64 x1, .int .i64 (byN d.raw 13 % 64 : Nat), .string (d.bytes Q1)], .nilIface]) ∧ Below W.heap.size W w') := Lib.hid (fun W => by
    have hBd := form_tans hw (d.sumN Q1 : Nat)
    refine (U.parse (d.bytes Q1) W (by omega)).mono ?_
    rintro e w' ⟨x, rfl, he, b⟩
    unfold Sg.bytes at *
    rw [form_code hw] at he
    rw [he.nil, hBd.1, hBd.2.1, hBd.2.2.1, hBd.2.2.2, HX.out.1, HX.out.2.1]
    exact ⟨rfl, b⟩)
  have HB2 : Hid (∀ W, Calls Try.prog 12 #[.agg #[.int .i64 x0, .int .i64 x1, .int .i64 (byN d.raw 13 % 64 : Nat), .string (d.bytes Q1)], .string Q2] W fun e w' => e = .returned (.tuple #[.string (d.bytes Q2), .nilIface]) ∧ Below W.heap.size W w') := Lib.hid (fun W => by
    have hw2 := re_why hw (d.sumN Q1 : Nat) (byN d.raw 13 % 64 : Nat)
    have ho : (Sg.mk d.fr d.dst (byN d.raw 13 % 64 : Nat) (d.bytes Q1)).out Q2 = d.bytes Q2 := by
      unfold Sg.out
      rw [show (Sg.mk d.fr d.dst (byN d.raw 13 % 64 : Nat) (d.bytes Q1)).why = 0 from hw2, if_pos rfl]
      exact re_bytes d _ _ Q2 h20
    have := U.bytes (Sg.mk d.fr d.dst (byN d.raw 13 % 64 : Nat) (d.bytes Q1)) Q2 W (by show (d.bytes Q1).size ≤ 70000; omega) (by have := HS2.out; omega)
    rw [HX.out.1, HX.out.2.1]
    refine this.mono ?_
    rintro e w' ⟨x, rfl, he, b⟩
    rw [show (Sg.mk d.fr d.dst (byN d.raw 13 % 64 : Nat) (d.bytes Q1)).why = 0 from hw2] at he
    rw [he.nil, ho]
    exact ⟨rfl, b⟩)
  have HU : Hid (∀ W, Calls Try.prog 19 #[.int .i64 (d.sumN Q1 : Nat), .string Q1, .string Q2] W fun e w' => e = .returned (.int .i64 (d.sumN Q2 : Nat)) ∧ Below W.heap.size W w') := Lib.hid (fun W => by
    have := update_any (d.sumN Q1 : Nat) Q1 Q2 W (by have := HS1.out; omega) (by have := HS2.out; omega)
    rwa [kept_sum hw Q1 Q2 HE1.out.even HE2.out.even] at this)
  have eA : (d.bytes Q2).extract 0 16 = (d.bytes Q1).extract 0 16 := form_head d _ _ h20
  have eB : (d.bytes Q2).extract 18 (d.bytes Q2).size = (d.bytes Q1).extract 18 (d.bytes Q1).size := by
    rw [hXs, hTs]
    exact (form_rest d _ h20).trans (form_rest d _ h20).symm
  have HWk : Hid (byN (d.bytes Q1) 16 * 256 + byN (d.bytes Q1) 17 = d.sumN Q1) := Lib.hid (by have := form_word8 d (d.sumN Q1 : Nat) h20 (by omega) (by have := sumN_le d Q1; omega); unfold Sg.bytes; omega)
  have HWl : Hid (byN (d.bytes Q2) 16 * 256 + byN (d.bytes Q2) 17 = d.sumN Q2) := Lib.hid (by have := form_word8 d (d.sumN Q2 : Nat) h20 (by omega) (by have := sumN_le d Q2; omega); unfold Sg.bytes; omega)
  have hm : ((((d.bytes Q2).size : Nat) : Int) != (((d.bytes Q1).size : Nat) : Int)) = false := by rw [hXs, hTs]; simp
  have hT20 : 20 ≤ (d.bytes Q2).size := by omega
  have hX20 : 20 ≤ (d.bytes Q1).size := by omega
  generalize ((byN d.raw 13 % 64 : Nat) : Int) = f at *
  generalize d.sumN Q1 = n1 at *
  generalize d.sumN Q2 = n2 at *
  generalize d.bytes Q1 = X at *
  generalize d.bytes Q2 = T at *
  clear h20 hXs hTs ho he hw hd7
  go_wp2_with fail
  refine (HP1.out _).mono ?_
  rintro e w3 ⟨rfl, b3⟩
  have hK4 := (HK2.out.below b3 (Nat.le_refl _)).new 23 ([.int .i64 x0, .int .i64 x1, .int .i64 f, .string X] : List Value)
  have e0 := hK4.hd.at (i := 0) rfl
  have e1 := hK4.hd.at (i := 1) rfl
  have e2 := hK4.hd.at (i := 2) rfl
  have e3 := hK4.hd.at (i := 3) rfl
  have HK4 := Lib.hid hK4
  clear b3 hK4 HK2 HP1
  generalize hw4 : w3.alloc (.cells #[.int .i64 x0, .int .i64 x1, .int .i64 f, .string X] 23) = w4 at *
  go_upto_region 11 with (fail)
  clear hw4
  go_wp2_with fail
  refine (HB2.out _).mono ?_
  rintro e w5 ⟨rfl, b5⟩
  have HB5 := Lib.hid (HK4.out.2.1.trans (b5.mono HK4.out.2.2))
  have HL5 := Lib.hid (Nat.le_trans HK4.out.2.2 b5.size)
  clear b5 HK4 HB2 e0 e1 e2 e3
  have i20 : ¬ (X.size : Int) < 20 := by omega
  have d20 := decide_eq_false i20
  have i16X : (16 : Int) ≤ (X.size : Int) := by omega
  have i18X : (18 : Int) ≤ (X.size : Int) := by omega
  have i16T : (16 : Int) ≤ (T.size : Int) := by omega
  have i18T : (18 : Int) ≤ (T.size : Int) := by omega
  obtain ⟨M1, eA3⟩ : ∃ M, X.extract 0 16 = M := ⟨_, rfl⟩
  obtain ⟨M2, eB3⟩ : ∃ M, X.extract 18 X.size = M := ⟨_, rfl⟩
  rw [eA3] at eA
  rw [eB3] at eB
  go_upto_region 12 with (fail)
  go_region
  clear i20 d20 i16X i18X i16T i18T eA eB eA3 eB3 hm
  have hik : 16 < X.size := by omega
  have hjk : 17 < X.size := by omega
  have hil : 16 < T.size := by omega
  have hjl : 17 < T.size := by omega
  rw [byN_at X 16 hik, byN_at X 17 hjk] at HWk
  rw [byN_at T 16 hil, byN_at T 17 hjl] at HWl
  have iX16 : (16 : Int) < (X.size : Int) := by omega
  have iX17 : (17 : Int) < (X.size : Int) := by omega
  have iT16 : (16 : Int) < (T.size : Int) := by omega
  have iT17 : (17 : Int) < (T.size : Int) := by omega
  have k1 : IntKind.i64.wrap (((X[16]'hik).toNat : Nat) : Int) = (((X[16]'hik).toNat : Nat) : Int) := IntWalk.i64_in _ (by have := (X[16]'hik).toNat_lt; omega)
  have k2 : IntKind.i64.wrap ((((X[16]'hik).toNat : Nat) : Int) * (256 : Int)) = (((X[16]'hik).toNat : Nat) : Int) * (256 : Int) := IntWalk.i64_in _ (by have := (X[16]'hik).toNat_lt; omega)
  have k3 : IntKind.i64.wrap (((X[17]'hjk).toNat : Nat) : Int) = (((X[17]'hjk).toNat : Nat) : Int) := IntWalk.i64_in _ (by have := (X[17]'hjk).toNat_lt; omega)
  have k4 : IntKind.i64.wrap ((((X[16]'hik).toNat : Nat) : Int) * (256 : Int) + (((X[17]'hjk).toNat : Nat) : Int)) = ((n1 : Nat) : Int) := by
    rw [IntWalk.i64_in _ (by have := (X[16]'hik).toNat_lt; have := (X[17]'hjk).toNat_lt; omega)]
    have := HWk.out
    omega
  have l1 : IntKind.i64.wrap (((T[16]'hil).toNat : Nat) : Int) = (((T[16]'hil).toNat : Nat) : Int) := IntWalk.i64_in _ (by have := (T[16]'hil).toNat_lt; omega)
  have l2 : IntKind.i64.wrap ((((T[16]'hil).toNat : Nat) : Int) * (256 : Int)) = (((T[16]'hil).toNat : Nat) : Int) * (256 : Int) := IntWalk.i64_in _ (by have := (T[16]'hil).toNat_lt; omega)
  have l3 : IntKind.i64.wrap (((T[17]'hjl).toNat : Nat) : Int) = (((T[17]'hjl).toNat : Nat) : Int) := IntWalk.i64_in _ (by have := (T[17]'hjl).toNat_lt; omega)
  have l4 : IntKind.i64.wrap ((((T[16]'hil).toNat : Nat) : Int) * (256 : Int) + (((T[17]'hjl).toNat : Nat) : Int)) = ((n2 : Nat) : Int) := by
    rw [IntWalk.i64_in _ (by have := (T[16]'hil).toNat_lt; have := (T[17]'hjl).toNat_lt; omega)]
    have := HWl.out
    omega
  go_upto_region 14 with (fail)
  go_region
  go_upto_region 15 with (fail)
  go_region
  clear k1 k2 k3 k4 l1 l2 l3 l4
  go_wp2_with fail
  refine (HU.out _).mono ?_
  rintro e w6 ⟨rfl, b6⟩
  have HB6 := Lib.hid (HB5.out.drew.drew.drew.trans (b6.mono HL5.out))
  clear b6 HB5 HL5 HU
  go_wp2_with fail
  go_ret
  exact ⟨rfl, HB6.out⟩
end Go.Proofs.Ytljlonligbheaaa
