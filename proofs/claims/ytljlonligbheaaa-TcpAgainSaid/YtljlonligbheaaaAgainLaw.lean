/-
  Proved here: the law TcpAgain answers true, given what the program's functions answer.
  Conditions: TSays.
-/
import Derived.Test.YtljlonligbheaaaMovesLaw
namespace Go.Proofs.Ytljlonligbheaaa
open Go.RowKit

theorem hiB_of (a b : UInt8) : hiB ((256 * a.toNat + b.toNat : Nat) : Int) = a := by
  unfold hiB
  have ha := a.toNat_lt
  have hb := b.toNat_lt
  rw [show (((256 * a.toNat + b.toNat : Nat) : Int) / 256).toNat = a.toNat by omega]
  exact UInt8.ofNat_toNat
theorem loB_of (a b : UInt8) : loB ((256 * a.toNat + b.toNat : Nat) : Int) = b := by
  unfold loB
  have ha := a.toNat_lt
  have hb := b.toNat_lt
  rw [show (((256 * a.toNat + b.toNat : Nat) : Int) % 256).toNat = b.toNat by omega]
  exact UInt8.ofNat_toNat
theorem self_why {s : ByteArray} (h : tcode s = 0) : (tpkt s).why = 0 := by
  have h0 := wd_le s.data.toList 0
  have h1 := wd_le s.data.toList 1
  exact why_of h (by show (0 : Int) ≤ ((wd s.data.toList 0 : Nat) : Int); omega) (by show ((wd s.data.toList 0 : Nat) : Int) ≤ 65535; omega) (by show (0 : Int) ≤ ((wd s.data.toList 1 : Nat) : Int); omega) (by show ((wd s.data.toList 1 : Nat) : Int) ≤ 65535; omega)
theorem self_list {s : ByteArray} (h : 20 ≤ s.size) (x : Int) : ((tpkt s).form x).data.toList = (s.data.toList.set 16 (hiB x)).set 17 (loB x) := by
  rw [form_list (tpkt s) x (show 18 ≤ s.size by omega)]
  show (((((s.data.toList.set 0 (hiB ((wd s.data.toList 0 : Nat) : Int))).set 1 (loB ((wd s.data.toList 0 : Nat) : Int))).set 2 (hiB ((wd s.data.toList 1 : Nat) : Int))).set 3 (loB ((wd s.data.toList 1 : Nat) : Int))).set 16 (hiB x)).set 17 (loB x) = _
  obtain ⟨a0, a1, a2, a3, a4, a5, a6, a7, a8, a9, a10, a11, a12, a13, a14, a15, a16, a17, t, e⟩ := list18 s.data.toList (by rw [ba_size]; omega)
  rw [e]
  show ((((((_ : List UInt8).set 0 (hiB ((256 * a0.toNat + a1.toNat : Nat) : Int))).set 1 (loB ((256 * a0.toNat + a1.toNat : Nat) : Int))).set 2 (hiB ((256 * a2.toNat + a3.toNat : Nat) : Int))).set 3 (loB ((256 * a2.toNat + a3.toNat : Nat) : Int))).set 16 (hiB x)).set 17 (loB x) = _
  rw [hiB_of, loB_of, hiB_of, loB_of]
  rfl
theorem self_head {s : ByteArray} (h : 20 ≤ s.size) (x : Int) : ((tpkt s).form x).extract 0 16 = s.extract 0 16 := by
  apply ba_ext
  rw [ext_list, ext_list, self_list h x]
  obtain ⟨a0, a1, a2, a3, a4, a5, a6, a7, a8, a9, a10, a11, a12, a13, a14, a15, a16, a17, t, e⟩ := list18 s.data.toList (by rw [ba_size]; omega)
  rw [e]
  rfl
theorem self_form {s : ByteArray} (h : 20 ≤ s.size) : (tpkt s).form ((byN s 16 * 256 + byN s 17 : Nat) : Int) = s := by
  apply ba_ext
  rw [self_list h]
  unfold byN
  obtain ⟨a0, a1, a2, a3, a4, a5, a6, a7, a8, a9, a10, a11, a12, a13, a14, a15, a16, a17, t, e⟩ := list18 s.data.toList (by rw [ba_size]; omega)
  rw [e]
  show ((_ : List UInt8).set 16 (hiB ((a16.toNat * 256 + a17.toNat : Nat) : Int))).set 17 (loB ((a16.toNat * 256 + a17.toNat : Nat) : Int)) = _
  rw [Nat.mul_comm a16.toNat, hiB_of, loB_of]
  rfl
theorem ports_form (p q f z y : Int) (d : Sg) (hr : 20 ≤ d.raw.size) : (Sg.mk p q f (d.form z)).form y = (Sg.mk p q f d.raw).form y := by
  have hs := form_size d z (by omega)
  show tw p ++ tw q ++ (d.form z).extract 4 16 ++ tw y ++ (d.form z).extract 18 (d.form z).size = tw p ++ tw q ++ d.raw.extract 4 16 ++ tw y ++ d.raw.extract 18 d.raw.size
  rw [form_mid d z hr, hs, form_rest d z hr]
theorem flags_form (p q f g y : Int) (s : ByteArray) : (Sg.mk p q f s).form y = (Sg.mk p q g s).form y := rfl
theorem back_bytes (p q f z : Int) (d : Sg) (ps : ByteArray) (hr : 20 ≤ d.raw.size) : (Sg.mk p q f (d.form z)).bytes ps = (Sg.mk p q f d.raw).bytes ps := by
  unfold Sg.bytes Sg.sumN
  rw [ports_form p q f z 0 d hr, ports_form p q f z _ d hr]
theorem flags_bytes (p q f g : Int) (s ps : ByteArray) : (Sg.mk p q f s).bytes ps = (Sg.mk p q g s).bytes ps := rfl
/-- What is right has its own bytes, or the sum 65535. -/
theorem own_bytes {s ps : ByteArray} (h : tcode s = 0) (he : ps.size % 2 = 0) (hk : kcode s ps = 0) : (tpkt s).bytes ps = s ∨ s.extract 16 18 = ⟨#[255, 255]⟩ := by
  have hw := self_why h
  obtain ⟨hr, _, _⟩ := why_size hw
  have hr' : 20 ≤ s.size := hr
  have hp := pre_pos hw
  have hsf := self_form hr'
  have hW : byN s 16 * 256 + byN s 17 ≤ 65535 := by have := byN_lt s 16; have := byN_lt s 17; omega
  have h0 : sumL (ps ++ s).data.toList = 0 := by
    unfold kcode at hk
    rw [if_neg (fun k => k h)] at hk
    by_cases hz : sumL (ps ++ s).data.toList = 0
    · exact hz
    · rw [if_pos hz] at hk; cases hk
  have e0 : (tpkt s).sumN ps = 65535 - fold (acc true ps.data.toList + acc true (tpkt s).pre.data.toList + acc true ((tpkt s).raw.extract 18 (tpkt s).raw.size).data.toList) := by
    unfold Sg.sumN sumL
    rw [form_acc (tpkt s) ps hr he (show (0 : Int) ≤ 0 by omega) (by omega), show (0 : Int).toNat = 0 from rfl, Nat.add_zero]
  have e1 : fold ((acc true ps.data.toList + acc true (tpkt s).pre.data.toList + acc true ((tpkt s).raw.extract 18 (tpkt s).raw.size).data.toList) + (byN s 16 * 256 + byN s 17)) = 65535 := by
    rw [sumL_zero] at h0
    have := form_acc (tpkt s) ps hr he (x := ((byN s 16 * 256 + byN s 17 : Nat) : Int)) (by omega) (by omega)
    rw [hsf] at this
    rw [this] at h0
    rwa [Int.toNat_natCast] at h0
  have hX : 0 < acc true ps.data.toList + acc true (tpkt s).pre.data.toList + acc true ((tpkt s).raw.extract 18 (tpkt s).raw.size).data.toList := by omega
  generalize acc true ps.data.toList + acc true (tpkt s).pre.data.toList + acc true ((tpkt s).raw.extract 18 (tpkt s).raw.size).data.toList = X at *
  obtain ⟨p, hp'⟩ := fold_form X
  obtain ⟨q, hq'⟩ := fold_form (X + (byN s 16 * 256 + byN s 17))
  have hf := fold_le X
  have hz := fold_zero X
  rw [e1] at hq'
  by_cases hc : byN s 16 * 256 + byN s 17 = (tpkt s).sumN ps
  · left
    unfold Sg.bytes
    rw [← hc]
    exact hsf
  · right
    have hV : byN s 16 * 256 + byN s 17 = 65535 := by omega
    have b16 := byN_lt s 16
    have b17 := byN_lt s 17
    have v16 : byN s 16 = 255 := by omega
    have v17 : byN s 17 = 255 := by omega
    apply ba_ext
    rw [ext_list]
    unfold byN at v16 v17
    obtain ⟨a0, a1, a2, a3, a4, a5, a6, a7, a8, a9, a10, a11, a12, a13, a14, a15, a16, a17, t, e⟩ := list18 s.data.toList (by rw [ba_size]; omega)
    rw [e] at v16 v17 ⊢
    have w16 : a16 = 255 := UInt8.toNat_inj.1 v16
    have w17 : a17 = 255 := UInt8.toNat_inj.1 v17
    subst w16
    subst w17
    rfl
set_option maxRecDepth 100000 in
set_option maxHeartbeats 2000000 in
theorem tcpAgain_none (U : TSays) (s ps : ByteArray) (a b : Nat) (w : World) (h1 : s.size ≤ 70000) (h2 : ps.size ≤ 1000) (hc : tcode s ≠ 0) :
    Calls Try.prog 7 #[.string s, .string ps, .int .u16 a, .int .u16 b] w fun e w' => e = .returned (.bool true) ∧ Below w.heap.size w w' := by
  have HA := Lib.hid (fun W => awake_true U W)
  obtain ⟨E1, Q, hE1⟩ : ∃ E Q, Even ps Q E := ⟨_, _, even_of ps⟩
  have HE1 := Lib.hid hE1
  have q1 := hE1.t1
  have q3 := hE1.t3
  have q5 := hE1.t5
  have hQl := hE1.le
  have i1 : ¬ (70000 : Int) < (s.size : Int) := by omega
  have d1 := decide_eq_false i1
  have i2 : ¬ (1000 : Int) < (ps.size : Int) := by omega
  have d2 := decide_eq_false i2
  have q2 : IntKind.i64.wrap ((ps.size : Int) / 2) = (ps.size : Int) / 2 := IntWalk.i64_in _ (by omega)
  have q4 : IntKind.i64.wrap (E1 : Int) = (E1 : Int) := IntWalk.i64_in _ (by omega)
  clear hE1
  have hkc : kcode s Q = tcode s := by unfold kcode; rw [if_pos hc]
  have hd : tans s = sg0 := by unfold tans; rw [if_neg hc]
  have HX : Hid ((tans s).fr = 0 ∧ (tans s).dst = 0 ∧ (tans s).fl = 0 ∧ (tans s).raw = ⟨#[]⟩) := Lib.hid (by rw [hd]; exact ⟨rfl, rfl, rfl, rfl⟩)
  have HP : Hid (∀ W, Calls Try.prog 9 #[.string s] W fun e w' => ∃ f, e = .returned (.tuple #[.agg #[.int .i64 (tans s).fr, .int .i64 (tans s).dst, .int .i64 (tans s).fl, .string (tans s).raw], .iface 67 (.pointer (some ⟨f, 0, none⟩))]) ∧ Below W.heap.size W w') := Lib.hid (fun W => by
    refine (U.parse s W h1).mono ?_
    rintro e w' ⟨x, rfl, he, bb⟩
    obtain ⟨f, rfl⟩ := errv_some he hc
    exact ⟨f, rfl, bb⟩)
  have HC : Hid (∀ W, Calls Try.prog 16 #[.string s, .string Q] W fun e w' => ∃ f, e = .returned (.iface 67 (.pointer (some ⟨f, 0, none⟩))) ∧ Below W.heap.size W w') := Lib.hid (fun W => by
    refine (U.check s Q W h1 (by omega)).mono ?_
    rintro e w' ⟨x, rfl, he, bb⟩
    obtain ⟨f, rfl⟩ := errv_some he (by rw [hkc]; exact hc)
    exact ⟨f, rfl, bb⟩)
  clear hkc hd hc h1 h2 hQl
  generalize (tans s).fr = x0 at *
  generalize (tans s).dst = x1 at *
  generalize (tans s).fl = x2 at *
  generalize (tans s).raw = x3 at *
  go_enter Try.func7, Try.ntmps7
  go_wp2_with fail
  refine (HA.out _).mono ?_
  rintro e w1 ⟨rfl, b1⟩
  have HB1 := Lib.hid b1
  have HL1 := Lib.hid b1.size
  clear b1 HA
  go_upto_region 6 with (fail)
  clear q1 q2 q3 q4 q5 d1 d2 i1 i2
  rw [← HE1.out.q]
  go_wp2_with fail
  refine (HP.out _).mono ?_
  rintro e w2 ⟨f, rfl, b2⟩
  have hbk : Bk (w2.alloc (.cells #[.int .i64 x0, .int .i64 x1, .int .i64 x2, .string x3] 23)) w2.heap.size 23 ([.int .i64 x0, .int .i64 x1, .int .i64 x2, .string x3] : List Value).toArray := bk_new _ _ _
  have HB2 : Hid (Below w.heap.size w (w2.alloc (.cells #[.int .i64 x0, .int .i64 x1, .int .i64 x2, .string x3] 23))) := Lib.hid ((HB1.out.trans (b2.mono HL1.out)).alloc (Nat.le_trans HL1.out b2.size) _)
  have HL2 := Lib.hid HB2.out.size
  have c0 := hbk.at (i := 0) rfl
  have c1 := hbk.at (i := 1) rfl
  have c2 := hbk.at (i := 2) rfl
  have c3 := hbk.at (i := 3) rfl
  clear b2 HB1 HL1 hbk HP
  generalize hw3 : w2.alloc (.cells #[.int .i64 x0, .int .i64 x1, .int .i64 x2, .string x3] 23) = w3 at *
  go_upto_region 7 with (fail)
  clear hw3
  obtain ⟨rfl, rfl, rfl, rfl⟩ := HX.out
  have hq := fun W => eqlSg 0 0 0 ⟨#[]⟩ W
  go_wp2_with fail
  refine (HC.out _).mono ?_
  rintro e w4 ⟨f, rfl, b4⟩
  have HB4 := Lib.hid (HB2.out.trans (b4.mono HL2.out))
  clear b4 HB2 HL2 HC c0 c1 c2 c3 hq
  go_wp2_with fail
  go_ret
  exact ⟨rfl, HB4.out⟩
set_option maxRecDepth 100000 in
set_option maxHeartbeats 2000000 in
theorem tcpAgain_some (U : TSays) (s ps : ByteArray) (a b : Nat) (ha : a ≤ 65535) (hb : b ≤ 65535) (w : World) (h1 : s.size ≤ 70000) (h2 : ps.size ≤ 1000) (hc : tcode s = 0) :
    Calls Try.prog 7 #[.string s, .string ps, .int .u16 a, .int .u16 b] w fun e w' => e = .returned (.bool true) ∧ Below w.heap.size w w' := by
  have HA := Lib.hid (fun W => awake_true U W)
  obtain ⟨E1, Q, hE1⟩ : ∃ E Q, Even ps Q E := ⟨_, _, even_of ps⟩
  have HE1 := Lib.hid hE1
  have q1 := hE1.t1
  have q3 := hE1.t3
  have q5 := hE1.t5
  have hQl := hE1.le
  have i1 : ¬ (70000 : Int) < (s.size : Int) := by omega
  have d1 := decide_eq_false i1
  have i2 : ¬ (1000 : Int) < (ps.size : Int) := by omega
  have d2 := decide_eq_false i2
  have q2 : IntKind.i64.wrap ((ps.size : Int) / 2) = (ps.size : Int) / 2 := IntWalk.i64_in _ (by omega)
  have q4 : IntKind.i64.wrap (E1 : Int) = (E1 : Int) := IntWalk.i64_in _ (by omega)
  clear hE1
  have hd : tans s = tpkt s := by unfold tans; rw [if_pos hc]
  have hw := self_why hc
  have h20 : 20 ≤ s.size := (tcode_ok hc).1
  have hOs : ((tpkt s).bytes Q).size = s.size := form_size (tpkt s) _ (show 18 ≤ s.size by omega)
  have hw2 : (Sg.mk (a : Nat) (b : Nat) 0 s).why = 0 := why_of hc (by show (0 : Int) ≤ (a : Int); omega) (by show (a : Int) ≤ 65535; omega) (by show (0 : Int) ≤ (b : Int); omega) (by show (b : Int) ≤ 65535; omega)
  have hTs : ((Sg.mk (a : Nat) (b : Nat) 0 s).bytes Q).size = s.size := form_size (Sg.mk (a : Nat) (b : Nat) 0 s) _ (show 18 ≤ s.size by omega)
  have HP : Hid (∀ W, Calls Try.prog 9 #[.string s] W fun e w' => e = .returned (.tuple #[.agg #[.int .i64 (tpkt s).fr, .int .i64 (tpkt s).dst, .int .i64 (tpkt s).fl, .string s], .nilIface]) ∧ Below W.heap.size W w') := Lib.hid (fun W => by
    refine (U.parse s W h1).mono ?_
    rintro e w' ⟨x, rfl, he, bb⟩
    rw [hc] at he
    rw [he.nil, hd]
    exact ⟨rfl, bb⟩)
  have HB1' : Hid (∀ W, Calls Try.prog 12 #[.agg #[.int .i64 (tpkt s).fr, .int .i64 (tpkt s).dst, .int .i64 (tpkt s).fl, .string s], .string Q] W fun e w' => e = .returned (.tuple #[.string ((tpkt s).bytes Q), .nilIface]) ∧ Below W.heap.size W w') := Lib.hid (fun W => by
    have ho : (tpkt s).out Q = (tpkt s).bytes Q := by unfold Sg.out; rw [if_pos hw]
    refine (U.bytes (tpkt s) Q W h1 (by omega)).mono ?_
    rintro e w' ⟨x, rfl, he, bb⟩
    rw [hw] at he
    rw [he.nil, ho]
    exact ⟨rfl, bb⟩)
  have HB2' : Hid (∀ W, Calls Try.prog 12 #[.agg #[.int .i64 (a : Nat), .int .i64 (b : Nat), .int .i64 0, .string s], .string Q] W fun e w' => e = .returned (.tuple #[.string ((Sg.mk (a : Nat) (b : Nat) 0 s).bytes Q), .nilIface]) ∧ Below W.heap.size W w') := Lib.hid (fun W => by
    have ho : (Sg.mk (a : Nat) (b : Nat) 0 s).out Q = (Sg.mk (a : Nat) (b : Nat) 0 s).bytes Q := by unfold Sg.out; rw [if_pos hw2]
    refine (U.bytes (Sg.mk (a : Nat) (b : Nat) 0 s) Q W h1 (by omega)).mono ?_
    rintro e w' ⟨x, rfl, he, bb⟩
    rw [hw2] at he
    rw [he.nil, ho]
    exact ⟨rfl, bb⟩)
  have HB3' : Hid (∀ W, Calls Try.prog 12 #[.agg #[.int .i64 (tpkt s).fr, .int .i64 (tpkt s).dst, .int .i64 0, .string ((Sg.mk (a : Nat) (b : Nat) 0 s).bytes Q)], .string Q] W fun e w' => e = .returned (.tuple #[.string ((tpkt s).bytes Q), .nilIface]) ∧ Below W.heap.size W w') := Lib.hid (fun W => by
    obtain ⟨_, ⟨p0, p1⟩, ⟨r0, r1⟩⟩ := why_zero hw
    have hw3 : (Sg.mk (tpkt s).fr (tpkt s).dst 0 ((Sg.mk (a : Nat) (b : Nat) 0 s).bytes Q)).why = 0 := why_of (form_code hw2 _) p0 p1 r0 r1
    have hb : (Sg.mk (tpkt s).fr (tpkt s).dst 0 ((Sg.mk (a : Nat) (b : Nat) 0 s).bytes Q)).bytes Q = (tpkt s).bytes Q := (back_bytes (tpkt s).fr (tpkt s).dst 0 _ (Sg.mk (a : Nat) (b : Nat) 0 s) Q h20).trans (flags_bytes _ _ 0 (tpkt s).fl s Q)
    have ho : (Sg.mk (tpkt s).fr (tpkt s).dst 0 ((Sg.mk (a : Nat) (b : Nat) 0 s).bytes Q)).out Q = (tpkt s).bytes Q := by unfold Sg.out; rw [if_pos hw3]; exact hb
    have := U.bytes (Sg.mk (tpkt s).fr (tpkt s).dst 0 ((Sg.mk (a : Nat) (b : Nat) 0 s).bytes Q)) Q W (by show ((Sg.mk (a : Nat) (b : Nat) 0 s).bytes Q).size ≤ 70000; omega) (by omega)
    refine this.mono ?_
    rintro e w' ⟨x, rfl, he, bb⟩
    rw [hw3] at he
    rw [he.nil, ho]
    exact ⟨rfl, bb⟩)
  have HC1 : Hid (∀ W, Calls Try.prog 16 #[.string ((Sg.mk (a : Nat) (b : Nat) 0 s).bytes Q), .string Q] W fun e w' => e = .returned (.nilIface) ∧ Below W.heap.size W w') := Lib.hid (fun W => by
    refine (U.check ((Sg.mk (a : Nat) (b : Nat) 0 s).bytes Q) Q W (by omega) (by omega)).mono ?_
    rintro e w' ⟨x, rfl, he, bb⟩
    rw [bytes_checked hw2 HE1.out.even] at he
    rw [he.nil]
    exact ⟨rfl, bb⟩)
  have HC2 := Lib.hid (fun W => U.check s Q W h1 (by omega))
  have HOw := Lib.hid (fun hk => own_bytes hc HE1.out.even hk)
  have eA : ((tpkt s).bytes Q).extract 0 16 = s.extract 0 16 := self_head h20 _
  have eB : ((tpkt s).bytes Q).extract 18 ((tpkt s).bytes Q).size = s.extract 18 s.size := by rw [hOs]; exact form_rest (tpkt s) _ h20
  have hm : (((((tpkt s).bytes Q).size : Nat) : Int) != ((s.size : Nat) : Int)) = false := by rw [hOs]; simp
  have hO20 : 20 ≤ ((tpkt s).bytes Q).size := by omega
  have w4' : IntKind.i64.wrap (a : Int) = (a : Int) := IntWalk.i64_in _ (by omega)
  have w5' : IntKind.i64.wrap (b : Int) = (b : Int) := IntWalk.i64_in _ (by omega)
  generalize (Sg.mk (a : Nat) (b : Nat) 0 s).bytes Q = T at *
  generalize (tpkt s).bytes Q = O at *
  generalize kcode s Q = kc at *
  generalize (tpkt s).fr = x0 at *
  generalize (tpkt s).dst = x1 at *
  generalize (tpkt s).fl = x2 at *
  clear hd hw hw2 hTs hOs hc h1 h2 hQl ha hb
  go_enter Try.func7, Try.ntmps7
  go_wp2_with fail
  refine (HA.out _).mono ?_
  rintro e w1 ⟨rfl, b1⟩
  have HB1 := Lib.hid b1
  have HL1 := Lib.hid b1.size
  clear b1 HA
  go_upto_region 6 with (fail)
  clear q1 q2 q3 q4 q5 d1 d2 i1 i2
  rw [← HE1.out.q]
  go_wp2_with fail
  refine (HP.out _).mono ?_
  rintro e w2 ⟨rfl, b2⟩
  have hK := (show Kp w w.heap.size [] w2 from ⟨fun x hx => (by cases hx), HB1.out.trans (b2.mono HL1.out), Nat.le_trans HL1.out b2.size⟩).new 23 ([.int .i64 x0, .int .i64 x1, .int .i64 x2, .string s] : List Value)
  have HK := Lib.hid hK
  have c0 := hK.hd.at (i := 0) rfl
  have c1 := hK.hd.at (i := 1) rfl
  have c2 := hK.hd.at (i := 2) rfl
  have c3 := hK.hd.at (i := 3) rfl
  clear b2 HB1 HL1 hK HP
  generalize hw3 : w2.alloc (.cells #[.int .i64 x0, .int .i64 x1, .int .i64 x2, .string s] 23) = w3 at *
  go_upto_region 7 with (fail)
  clear hw3
  go_wp2_with fail
  refine (HB1'.out _).mono ?_
  rintro e w4 ⟨rfl, b4⟩
  have HK4 := Lib.hid (HK.out.below b4 (Nat.le_refl _))
  clear b4 HK HB1' c0 c1 c2 c3
  go_wp2_with fail
  refine (HB2'.out _).mono ?_
  rintro e w5 ⟨rfl, b5⟩
  have hK5 := HK4.out.below b5 (Nat.le_refl _)
  have c0 := hK5.hd.at (i := 0) rfl
  have c1 := hK5.hd.at (i := 1) rfl
  have HK5 := Lib.hid hK5
  clear b5 HK4 HB2' hK5 w4' w5'
  go_wp2_with fail
  refine (HB3'.out _).mono ?_
  rintro e w6 ⟨rfl, b6⟩
  have HB6 := Lib.hid (HK5.out.2.1.trans (b6.mono HK5.out.2.2))
  have HL6 := Lib.hid (Nat.le_trans HK5.out.2.2 b6.size)
  clear b6 HK5 HB3' c0 c1
  have i20 : ¬ (s.size : Int) < 20 := by omega
  have d20 := decide_eq_false i20
  have i16s : (16 : Int) ≤ (s.size : Int) := by omega
  have i18s : (18 : Int) ≤ (s.size : Int) := by omega
  have i16O : (16 : Int) ≤ (O.size : Int) := by omega
  have i18O : (18 : Int) ≤ (O.size : Int) := by omega
  obtain ⟨M1, eA3⟩ : ∃ M, s.extract 0 16 = M := ⟨_, rfl⟩
  obtain ⟨M2, eB3⟩ : ∃ M, s.extract 18 s.size = M := ⟨_, rfl⟩
  rw [eA3] at eA
  rw [eB3] at eB
  go_upto_region 12 with (fail)
  refine wp_region_noPanic ?_
  refine wp_region_held_drew (S := fun w' => Below w.heap.size w w' ∧ w.heap.size ≤ w'.heap.size) (by kernel_rfl) (⟨HB6.out.drew, HL6.out⟩) (fun hHeld => ?_)
  refine wpAnyH_take (i := 0) (oi := { dst := some 77, op := Op.move (Operand.tmp 12), type := 25, pos := "outright.go:47", after := #[], guard := none }) (v := ?_) rfl (by kernel_rfl) (by kernel_rfl) (by kernel_rfl) (fun _ _ _ h => h) (Or.inl ⟨by rfl, ?_⟩) (by assumption) ?_
  rotate_left
  · (intro ww hSw; (try dsimp only at hSw); go_simp; try with_reducible rfl)
  (try simp only [Act.put, List.setIfInBounds_toArray, List.set_cons_zero, List.set_cons_succ])
  refine wpAnyH_take (i := 1) (oi := { dst := some 78, op := Op.binOp BinOp.neq 25 (Operand.tmp 77) (Operand.const Value.nilIface) 25, type := 4, pos := "outright.go:47", after := #[{ on := 0, ground := Ground.data }], guard := none }) (v := ?_) rfl (by kernel_rfl) (by kernel_rfl) (by kernel_rfl) (fun _ _ _ h => h) (Or.inl ⟨by rfl, ?_⟩) (by assumption) ?_
  rotate_left
  · (intro ww hSw; (try dsimp only at hSw); go_simp; try with_reducible rfl)
  (try simp only [Act.put, List.setIfInBounds_toArray, List.set_cons_zero, List.set_cons_succ])
  refine wpAnyH_take (i := 2) (oi := { dst := some 79, op := Op.move (Operand.tmp 78), type := 4, pos := "outright.go:47", after := #[{ on := 1, ground := Ground.data }], guard := none }) (v := ?_) rfl (by kernel_rfl) (by kernel_rfl) (by kernel_rfl) (fun _ _ _ h => h) (Or.inl ⟨by rfl, ?_⟩) (by assumption) ?_
  rotate_left
  · (intro ww hSw; (try dsimp only at hSw); go_simp; try with_reducible rfl)
  (try simp only [Act.put, List.setIfInBounds_toArray, List.set_cons_zero, List.set_cons_succ])
  refine wpAnyH_take (i := 3) (oi := { dst := some 80, op := Op.move (Operand.tmp 14), type := 25, pos := "outright.go:47", after := #[{ on := 2, ground := Ground.guard }], guard := some (2, false) }) (v := ?_) rfl (by kernel_rfl) (by kernel_rfl) (by kernel_rfl) (fun _ _ _ h => h) (Or.inl ⟨by rfl, ?_⟩) (by assumption) ?_
  rotate_left
  · (intro ww hSw; (try dsimp only at hSw); go_simp; try with_reducible rfl)
  (try simp only [Act.put, List.setIfInBounds_toArray, List.set_cons_zero, List.set_cons_succ])
  refine wpAnyH_take (i := 4) (oi := { dst := some 81, op := Op.binOp BinOp.neq 25 (Operand.tmp 80) (Operand.const Value.nilIface) 25, type := 4, pos := "outright.go:47", after := #[{ on := 3, ground := Ground.data }, { on := 2, ground := Ground.guard }], guard := some (2, false) }) (v := ?_) rfl (by kernel_rfl) (by kernel_rfl) (by kernel_rfl) (fun _ _ _ h => h) (Or.inl ⟨by rfl, ?_⟩) (by assumption) ?_
  rotate_left
  · (intro ww hSw; (try dsimp only at hSw); go_simp; try with_reducible rfl)
  (try simp only [Act.put, List.setIfInBounds_toArray, List.set_cons_zero, List.set_cons_succ])
  refine wpAnyH_take (i := 5) (oi := { dst := some 82, op := Op.pick (Operand.tmp 79) (Operand.const (Value.bool true)) (Operand.tmp 81), type := 4, pos := "outright.go:47", after := #[{ on := 2, ground := Ground.data }, { on := 4, ground := Ground.data }], guard := none }) (v := ?_) rfl (by kernel_rfl) (by kernel_rfl) (by kernel_rfl) (fun _ _ _ h => h) (Or.inl ⟨by rfl, ?_⟩) (by assumption) ?_
  rotate_left
  · (intro ww hSw; (try dsimp only at hSw); go_simp; try with_reducible rfl)
  (try simp only [Act.put, List.setIfInBounds_toArray, List.set_cons_zero, List.set_cons_succ])
  refine wpAnyH_take (i := 6) (oi := { dst := some 83, op := Op.move (Operand.tmp 82), type := 4, pos := "outright.go:47", after := #[{ on := 5, ground := Ground.data }, { on := 2, ground := Ground.chain }], guard := none }) (v := ?_) rfl (by kernel_rfl) (by kernel_rfl) (by kernel_rfl) (fun _ _ _ h => h) (Or.inl ⟨by rfl, ?_⟩) (by assumption) ?_
  rotate_left
  · (intro ww hSw; (try dsimp only at hSw); go_simp; try with_reducible rfl)
  (try simp only [Act.put, List.setIfInBounds_toArray, List.set_cons_zero, List.set_cons_succ])
  refine wpAnyH_take (i := 7) (oi := { dst := some 84, op := Op.move (Operand.tmp 16), type := 25, pos := "outright.go:47", after := #[{ on := 6, ground := Ground.guard }], guard := some (6, false) }) (v := ?_) rfl (by kernel_rfl) (by kernel_rfl) (by kernel_rfl) (fun _ _ _ h => h) (Or.inl ⟨by rfl, ?_⟩) (by assumption) ?_
  rotate_left
  · (intro ww hSw; (try dsimp only at hSw); go_simp; try with_reducible rfl)
  (try simp only [Act.put, List.setIfInBounds_toArray, List.set_cons_zero, List.set_cons_succ])
  refine wpAnyH_take (i := 8) (oi := { dst := some 85, op := Op.binOp BinOp.neq 25 (Operand.tmp 84) (Operand.const Value.nilIface) 25, type := 4, pos := "outright.go:47", after := #[{ on := 7, ground := Ground.data }, { on := 6, ground := Ground.guard }], guard := some (6, false) }) (v := ?_) rfl (by kernel_rfl) (by kernel_rfl) (by kernel_rfl) (fun _ _ _ h => h) (Or.inl ⟨by rfl, ?_⟩) (by assumption) ?_
  rotate_left
  · (intro ww hSw; (try dsimp only at hSw); go_simp; try with_reducible rfl)
  (try simp only [Act.put, List.setIfInBounds_toArray, List.set_cons_zero, List.set_cons_succ])
  refine wpAnyH_take (i := 9) (oi := { dst := some 86, op := Op.pick (Operand.tmp 83) (Operand.const (Value.bool true)) (Operand.tmp 85), type := 4, pos := "outright.go:47", after := #[{ on := 6, ground := Ground.data }, { on := 8, ground := Ground.data }], guard := none }) (v := ?_) rfl (by kernel_rfl) (by kernel_rfl) (by kernel_rfl) (fun _ _ _ h => h) (Or.inl ⟨by rfl, ?_⟩) (by assumption) ?_
  rotate_left
  · (intro ww hSw; (try dsimp only at hSw); go_simp; try with_reducible rfl)
  (try simp only [Act.put, List.setIfInBounds_toArray, List.set_cons_zero, List.set_cons_succ])
  refine wpAnyH_take (i := 10) (oi := { dst := some 87, op := Op.move (Operand.tmp 86), type := 4, pos := "outright.go:47", after := #[{ on := 9, ground := Ground.data }, { on := 6, ground := Ground.chain }], guard := none }) (v := ?_) rfl (by kernel_rfl) (by kernel_rfl) (by kernel_rfl) (fun _ _ _ h => h) (Or.inl ⟨by rfl, ?_⟩) (by assumption) ?_
  rotate_left
  · (intro ww hSw; (try dsimp only at hSw); go_simp; try with_reducible rfl)
  (try simp only [Act.put, List.setIfInBounds_toArray, List.set_cons_zero, List.set_cons_succ])
  refine wpAnyH_take (i := 11) (oi := { dst := some 88, op := Op.move (Operand.tmp 0), type := 9, pos := "outright.go:47", after := #[{ on := 10, ground := Ground.guard }], guard := some (10, false) }) (v := ?_) rfl (by kernel_rfl) (by kernel_rfl) (by kernel_rfl) (fun _ _ _ h => h) (Or.inl ⟨by rfl, ?_⟩) (by assumption) ?_
  rotate_left
  · (intro ww hSw; (try dsimp only at hSw); go_simp; try with_reducible rfl)
  (try simp only [Act.put, List.setIfInBounds_toArray, List.set_cons_zero, List.set_cons_succ])
  refine wpAnyH_take (i := 12) (oi := { dst := some 89, op := Op.call { callee := Callee.builtin Builtin.len, args := #[Operand.tmp 88], argTypes := #[9] }, type := 3, pos := "outright.go:47", after := #[{ on := 11, ground := Ground.data }, { on := 10, ground := Ground.guard }], guard := some (10, false) }) (v := ?_) rfl (by kernel_rfl) (by kernel_rfl) (by kernel_rfl) (fun _ _ _ h => h) (Or.inl ⟨by rfl, ?_⟩) (by assumption) ?_
  rotate_left
  · (intro ww hSw; (try dsimp only at hSw); go_simp; try with_reducible rfl)
  (try simp only [Act.put, List.setIfInBounds_toArray, List.set_cons_zero, List.set_cons_succ])
  refine wpAnyH_take (i := 13) (oi := { dst := some 90, op := Op.binOp BinOp.lss 3 (Operand.tmp 89) (Operand.const (Value.int IntKind.i64 20)) 3, type := 4, pos := "outright.go:47", after := #[{ on := 12, ground := Ground.data }, { on := 10, ground := Ground.guard }], guard := some (10, false) }) (v := ?_) rfl (by kernel_rfl) (by kernel_rfl) (by kernel_rfl) (fun _ _ _ h => h) (Or.inl ⟨by rfl, ?_⟩) (by assumption) ?_
  rotate_left
  · (intro ww hSw; (try dsimp only at hSw); go_simp; try with_reducible rfl)
  (try simp only [Act.put, List.setIfInBounds_toArray, List.set_cons_zero, List.set_cons_succ])
  refine wpAnyH_take (i := 14) (oi := { dst := some 91, op := Op.pick (Operand.tmp 87) (Operand.const (Value.bool true)) (Operand.tmp 90), type := 4, pos := "outright.go:47", after := #[{ on := 10, ground := Ground.data }, { on := 13, ground := Ground.data }], guard := none }) (v := ?_) rfl (by kernel_rfl) (by kernel_rfl) (by kernel_rfl) (fun _ _ _ h => h) (Or.inl ⟨by rfl, ?_⟩) (by assumption) ?_
  rotate_left
  · (intro ww hSw; (try dsimp only at hSw); go_simp; try with_reducible rfl)
  (try simp only [Act.put, List.setIfInBounds_toArray, List.set_cons_zero, List.set_cons_succ])
  refine wpAnyH_take (i := 15) (oi := { dst := some 92, op := Op.move (Operand.tmp 91), type := 4, pos := "outright.go:47", after := #[{ on := 14, ground := Ground.data }, { on := 10, ground := Ground.chain }], guard := none }) (v := ?_) rfl (by kernel_rfl) (by kernel_rfl) (by kernel_rfl) (fun _ _ _ h => h) (Or.inl ⟨by rfl, ?_⟩) (by assumption) ?_
  rotate_left
  · (intro ww hSw; (try dsimp only at hSw); go_simp; try with_reducible rfl)
  (try simp only [Act.put, List.setIfInBounds_toArray, List.set_cons_zero, List.set_cons_succ])
  refine wpAnyH_take (i := 16) (oi := { dst := some 93, op := Op.move (Operand.tmp 11), type := 9, pos := "outright.go:47", after := #[{ on := 15, ground := Ground.guard }], guard := some (15, false) }) (v := ?_) rfl (by kernel_rfl) (by kernel_rfl) (by kernel_rfl) (fun _ _ _ h => h) (Or.inl ⟨by rfl, ?_⟩) (by assumption) ?_
  rotate_left
  · (intro ww hSw; (try dsimp only at hSw); go_simp; try with_reducible rfl)
  (try simp only [Act.put, List.setIfInBounds_toArray, List.set_cons_zero, List.set_cons_succ])
  refine wpAnyH_take (i := 17) (oi := { dst := some 94, op := Op.call { callee := Callee.builtin Builtin.len, args := #[Operand.tmp 93], argTypes := #[9] }, type := 3, pos := "outright.go:47", after := #[{ on := 16, ground := Ground.data }, { on := 15, ground := Ground.guard }], guard := some (15, false) }) (v := ?_) rfl (by kernel_rfl) (by kernel_rfl) (by kernel_rfl) (fun _ _ _ h => h) (Or.inl ⟨by rfl, ?_⟩) (by assumption) ?_
  rotate_left
  · (intro ww hSw; (try dsimp only at hSw); go_simp; try with_reducible rfl)
  (try simp only [Act.put, List.setIfInBounds_toArray, List.set_cons_zero, List.set_cons_succ])
  refine wpAnyH_take (i := 18) (oi := { dst := some 95, op := Op.move (Operand.tmp 0), type := 9, pos := "outright.go:47", after := #[{ on := 15, ground := Ground.guard }], guard := some (15, false) }) (v := ?_) rfl (by kernel_rfl) (by kernel_rfl) (by kernel_rfl) (fun _ _ _ h => h) (Or.inl ⟨by rfl, ?_⟩) (by assumption) ?_
  rotate_left
  · (intro ww hSw; (try dsimp only at hSw); go_simp; try with_reducible rfl)
  (try simp only [Act.put, List.setIfInBounds_toArray, List.set_cons_zero, List.set_cons_succ])
  refine wpAnyH_take (i := 19) (oi := { dst := some 96, op := Op.call { callee := Callee.builtin Builtin.len, args := #[Operand.tmp 95], argTypes := #[9] }, type := 3, pos := "outright.go:47", after := #[{ on := 18, ground := Ground.data }, { on := 15, ground := Ground.guard }], guard := some (15, false) }) (v := ?_) rfl (by kernel_rfl) (by kernel_rfl) (by kernel_rfl) (fun _ _ _ h => h) (Or.inl ⟨by rfl, ?_⟩) (by assumption) ?_
  rotate_left
  · (intro ww hSw; (try dsimp only at hSw); go_simp; try with_reducible rfl)
  (try simp only [Act.put, List.setIfInBounds_toArray, List.set_cons_zero, List.set_cons_succ])
  refine wpAnyH_take (i := 20) (oi := { dst := some 97, op := Op.binOp BinOp.neq 3 (Operand.tmp 94) (Operand.tmp 96) 3, type := 4, pos := "outright.go:47", after := #[{ on := 17, ground := Ground.data }, { on := 19, ground := Ground.data }, { on := 15, ground := Ground.guard }], guard := some (15, false) }) (v := ?_) rfl (by kernel_rfl) (by kernel_rfl) (by kernel_rfl) (fun _ _ _ h => h) (Or.inl ⟨by rfl, ?_⟩) (by assumption) ?_
  rotate_left
  · (intro ww hSw; (try dsimp only at hSw); go_simp; try with_reducible rfl)
  (try simp only [Act.put, List.setIfInBounds_toArray, List.set_cons_zero, List.set_cons_succ])
  refine wpAnyH_take (i := 21) (oi := { dst := some 98, op := Op.pick (Operand.tmp 92) (Operand.const (Value.bool true)) (Operand.tmp 97), type := 4, pos := "outright.go:47", after := #[{ on := 15, ground := Ground.data }, { on := 20, ground := Ground.data }], guard := none }) (v := ?_) rfl (by kernel_rfl) (by kernel_rfl) (by kernel_rfl) (fun _ _ _ h => h) (Or.inl ⟨by rfl, ?_⟩) (by assumption) ?_
  rotate_left
  · (intro ww hSw; (try dsimp only at hSw); go_simp; try with_reducible rfl)
  (try simp only [Act.put, List.setIfInBounds_toArray, List.set_cons_zero, List.set_cons_succ])
  refine wpAnyH_take (i := 22) (oi := { dst := some 99, op := Op.move (Operand.tmp 98), type := 4, pos := "outright.go:47", after := #[{ on := 21, ground := Ground.data }, { on := 15, ground := Ground.chain }], guard := none }) (v := ?_) rfl (by kernel_rfl) (by kernel_rfl) (by kernel_rfl) (fun _ _ _ h => h) (Or.inl ⟨by rfl, ?_⟩) (by assumption) ?_
  rotate_left
  · (intro ww hSw; (try dsimp only at hSw); go_simp; try with_reducible rfl)
  (try simp only [Act.put, List.setIfInBounds_toArray, List.set_cons_zero, List.set_cons_succ])
  refine wpAnyH_take (i := 23) (oi := { dst := some 100, op := Op.move (Operand.tmp 15), type := 9, pos := "outright.go:47", after := #[{ on := 22, ground := Ground.guard }], guard := some (22, false) }) (v := ?_) rfl (by kernel_rfl) (by kernel_rfl) (by kernel_rfl) (fun _ _ _ h => h) (Or.inl ⟨by rfl, ?_⟩) (by assumption) ?_
  rotate_left
  · (intro ww hSw; (try dsimp only at hSw); go_simp; try with_reducible rfl)
  (try simp only [Act.put, List.setIfInBounds_toArray, List.set_cons_zero, List.set_cons_succ])
  refine wpAnyH_take (i := 24) (oi := { dst := some 101, op := Op.move (Operand.tmp 11), type := 9, pos := "outright.go:47", after := #[{ on := 22, ground := Ground.guard }], guard := some (22, false) }) (v := ?_) rfl (by kernel_rfl) (by kernel_rfl) (by kernel_rfl) (fun _ _ _ h => h) (Or.inl ⟨by rfl, ?_⟩) (by assumption) ?_
  rotate_left
  · (intro ww hSw; (try dsimp only at hSw); go_simp; try with_reducible rfl)
  (try simp only [Act.put, List.setIfInBounds_toArray, List.set_cons_zero, List.set_cons_succ])
  refine wpAnyH_take (i := 25) (oi := { dst := some 102, op := Op.binOp BinOp.neq 9 (Operand.tmp 100) (Operand.tmp 101) 9, type := 4, pos := "outright.go:47", after := #[{ on := 23, ground := Ground.data }, { on := 24, ground := Ground.data }, { on := 22, ground := Ground.guard }], guard := some (22, false) }) (v := ?_) rfl (by kernel_rfl) (by kernel_rfl) (by kernel_rfl) (fun _ _ _ h => h) (Or.inl ⟨by rfl, ?_⟩) (by assumption) ?_
  rotate_left
  · (intro ww hSw; (try dsimp only at hSw); go_simp; try with_reducible rfl)
  (try simp only [Act.put, List.setIfInBounds_toArray, List.set_cons_zero, List.set_cons_succ])
  refine wpAnyH_take (i := 26) (oi := { dst := some 103, op := Op.pick (Operand.tmp 99) (Operand.const (Value.bool true)) (Operand.tmp 102), type := 4, pos := "outright.go:47", after := #[{ on := 22, ground := Ground.data }, { on := 25, ground := Ground.data }], guard := none }) (v := ?_) rfl (by kernel_rfl) (by kernel_rfl) (by kernel_rfl) (fun _ _ _ h => h) (Or.inl ⟨by rfl, ?_⟩) (by assumption) ?_
  rotate_left
  · (intro ww hSw; (try dsimp only at hSw); go_simp; try with_reducible rfl)
  (try simp only [Act.put, List.setIfInBounds_toArray, List.set_cons_zero, List.set_cons_succ])
  refine wpAnyH_take (i := 27) (oi := { dst := some 104, op := Op.move (Operand.tmp 103), type := 4, pos := "outright.go:47", after := #[{ on := 26, ground := Ground.data }, { on := 22, ground := Ground.chain }], guard := none }) (v := ?_) rfl (by kernel_rfl) (by kernel_rfl) (by kernel_rfl) (fun _ _ _ h => h) (Or.inl ⟨by rfl, ?_⟩) (by assumption) ?_
  rotate_left
  · (intro ww hSw; (try dsimp only at hSw); go_simp; try with_reducible rfl)
  (try simp only [Act.put, List.setIfInBounds_toArray, List.set_cons_zero, List.set_cons_succ])
  refine wpAnyH_take (i := 28) (oi := { dst := some 105, op := Op.move (Operand.tmp 13), type := 9, pos := "outright.go:47", after := #[{ on := 27, ground := Ground.guard }], guard := some (27, false) }) (v := ?_) rfl (by kernel_rfl) (by kernel_rfl) (by kernel_rfl) (fun _ _ _ h => h) (Or.inl ⟨by rfl, ?_⟩) (by assumption) ?_
  rotate_left
  · (intro ww hSw; (try dsimp only at hSw); go_simp; try with_reducible rfl)
  (try simp only [Act.put, List.setIfInBounds_toArray, List.set_cons_zero, List.set_cons_succ])
  refine wpAnyH_take (i := 29) (oi := { dst := some 106, op := Op.move (Operand.tmp 1), type := 9, pos := "outright.go:47", after := #[{ on := 27, ground := Ground.guard }], guard := some (27, false) }) (v := ?_) rfl (by kernel_rfl) (by kernel_rfl) (by kernel_rfl) (fun _ _ _ h => h) (Or.inl ⟨by rfl, ?_⟩) (by assumption) ?_
  rotate_left
  · (intro ww hSw; (try dsimp only at hSw); go_simp; try with_reducible rfl)
  (try simp only [Act.put, List.setIfInBounds_toArray, List.set_cons_zero, List.set_cons_succ])
  refine wpAnyH_ready (rs := [30]) (by kernel_rfl) (by simp) ?_
  refine AllReadyH.cons (o := { dst := some 107, op := Op.call { callee := Callee.value (Operand.func 16), args := #[Operand.tmp 105, Operand.tmp 106], argTypes := #[9, 9] }, type := 25, pos := "outright.go:47", after := #[{ on := 28, ground := Ground.data }, { on := 29, ground := Ground.data }, { on := 27, ground := Ground.chain }, { on := 27, ground := Ground.guard }], guard := some (27, false) }) rfl (fun K hK => ?_) AllReadyH.nil
  go_simp
  ((with_reducible refine (HC1.out _).mono ?_); rintro e w9 ⟨rfl, hb9⟩)
  refine hK.out _ _ (⟨hHeld.1.trans (hb9.mono hHeld.2), Nat.le_trans hHeld.2 hb9.size⟩) (fun hHeld => ?_)
  clear hK K
  (try simp only [Act.put, List.setIfInBounds_toArray, List.set_cons_zero, List.set_cons_succ])
  refine wpAnyH_take (i := 31) (oi := { dst := some 108, op := Op.binOp BinOp.neq 25 (Operand.tmp 107) (Operand.const Value.nilIface) 25, type := 4, pos := "outright.go:47", after := #[{ on := 30, ground := Ground.data }, { on := 27, ground := Ground.guard }], guard := some (27, false) }) (v := ?_) rfl (by kernel_rfl) (by kernel_rfl) (by kernel_rfl) (fun _ _ _ h => h) (Or.inl ⟨by rfl, ?_⟩) (by assumption) ?_
  rotate_left
  · (intro ww hSw; (try dsimp only at hSw); go_simp; try with_reducible rfl)
  (try simp only [Act.put, List.setIfInBounds_toArray, List.set_cons_zero, List.set_cons_succ])
  refine wpAnyH_take (i := 32) (oi := { dst := some 109, op := Op.pick (Operand.tmp 104) (Operand.const (Value.bool true)) (Operand.tmp 108), type := 4, pos := "outright.go:47", after := #[{ on := 27, ground := Ground.data }, { on := 31, ground := Ground.data }], guard := none }) (v := ?_) rfl (by kernel_rfl) (by kernel_rfl) (by kernel_rfl) (fun _ _ _ h => h) (Or.inl ⟨by rfl, ?_⟩) (by assumption) ?_
  rotate_left
  · (intro ww hSw; (try dsimp only at hSw); go_simp; try with_reducible rfl)
  (try simp only [Act.put, List.setIfInBounds_toArray, List.set_cons_zero, List.set_cons_succ])
  refine wpAnyH_take (i := 33) (oi := { dst := some 110, op := Op.move (Operand.tmp 109), type := 4, pos := "outright.go:47", after := #[{ on := 32, ground := Ground.data }, { on := 30, ground := Ground.chain }], guard := none }) (v := ?_) rfl (by kernel_rfl) (by kernel_rfl) (by kernel_rfl) (fun _ _ _ h => h) (Or.inl ⟨by rfl, ?_⟩) (by assumption) ?_
  rotate_left
  · (intro ww hSw; (try dsimp only at hSw); go_simp; try with_reducible rfl)
  (try simp only [Act.put, List.setIfInBounds_toArray, List.set_cons_zero, List.set_cons_succ])
  refine wpAnyH_take (i := 34) (oi := { dst := some 111, op := Op.move (Operand.tmp 11), type := 9, pos := "outright.go:47", after := #[{ on := 33, ground := Ground.guard }], guard := some (33, false) }) (v := ?_) rfl (by kernel_rfl) (by kernel_rfl) (by kernel_rfl) (fun _ _ _ h => h) (Or.inl ⟨by rfl, ?_⟩) (by assumption) ?_
  rotate_left
  · (intro ww hSw; (try dsimp only at hSw); go_simp; try with_reducible rfl)
  (try simp only [Act.put, List.setIfInBounds_toArray, List.set_cons_zero, List.set_cons_succ])
  refine wpAnyH_take (i := 35) (oi := { dst := some 112, op := Op.slice 9 (Operand.tmp 111) none (some (Operand.const (Value.int IntKind.i64 16))) none, type := 9, pos := "outright.go:47", after := #[{ on := 34, ground := Ground.data }, { on := 33, ground := Ground.guard }], guard := some (33, false) }) (v := ?_) rfl (by kernel_rfl) (by kernel_rfl) (by kernel_rfl) (fun _ _ _ h => h) (Or.inl ⟨by rfl, ?_⟩) (by assumption) ?_
  rotate_left
  · (intro ww hSw; (try dsimp only at hSw); go_simp; try with_reducible rfl)
  (try simp only [Act.put, List.setIfInBounds_toArray, List.set_cons_zero, List.set_cons_succ])
  refine wpAnyH_take (i := 36) (oi := { dst := some 113, op := Op.move (Operand.tmp 0), type := 9, pos := "outright.go:47", after := #[{ on := 33, ground := Ground.guard }], guard := some (33, false) }) (v := ?_) rfl (by kernel_rfl) (by kernel_rfl) (by kernel_rfl) (fun _ _ _ h => h) (Or.inl ⟨by rfl, ?_⟩) (by assumption) ?_
  rotate_left
  · (intro ww hSw; (try dsimp only at hSw); go_simp; try with_reducible rfl)
  (try simp only [Act.put, List.setIfInBounds_toArray, List.set_cons_zero, List.set_cons_succ])
  refine wpAnyH_take (i := 37) (oi := { dst := some 114, op := Op.slice 9 (Operand.tmp 113) none (some (Operand.const (Value.int IntKind.i64 16))) none, type := 9, pos := "outright.go:47", after := #[{ on := 36, ground := Ground.data }, { on := 33, ground := Ground.guard }], guard := some (33, false) }) (v := ?_) rfl (by kernel_rfl) (by kernel_rfl) (by kernel_rfl) (fun _ _ _ h => h) (Or.inl ⟨by rfl, ?_⟩) (by assumption) ?_
  rotate_left
  · (intro ww hSw; (try dsimp only at hSw); go_simp; try with_reducible rfl)
  (try simp only [Act.put, List.setIfInBounds_toArray, List.set_cons_zero, List.set_cons_succ])
  refine wpAnyH_take (i := 38) (oi := { dst := some 115, op := Op.binOp BinOp.neq 9 (Operand.tmp 112) (Operand.tmp 114) 9, type := 4, pos := "outright.go:47", after := #[{ on := 35, ground := Ground.data }, { on := 37, ground := Ground.data }, { on := 33, ground := Ground.guard }], guard := some (33, false) }) (v := ?_) rfl (by kernel_rfl) (by kernel_rfl) (by kernel_rfl) (fun _ _ _ h => h) (Or.inl ⟨by rfl, ?_⟩) (by assumption) ?_
  rotate_left
  · (intro ww hSw; (try dsimp only at hSw); go_simp; try with_reducible rfl)
  (try simp only [Act.put, List.setIfInBounds_toArray, List.set_cons_zero, List.set_cons_succ])
  refine wpAnyH_take (i := 39) (oi := { dst := some 116, op := Op.pick (Operand.tmp 110) (Operand.const (Value.bool true)) (Operand.tmp 115), type := 4, pos := "outright.go:47", after := #[{ on := 33, ground := Ground.data }, { on := 38, ground := Ground.data }], guard := none }) (v := ?_) rfl (by kernel_rfl) (by kernel_rfl) (by kernel_rfl) (fun _ _ _ h => h) (Or.inl ⟨by rfl, ?_⟩) (by assumption) ?_
  rotate_left
  · (intro ww hSw; (try dsimp only at hSw); go_simp; try with_reducible rfl)
  (try simp only [Act.put, List.setIfInBounds_toArray, List.set_cons_zero, List.set_cons_succ])
  refine wpAnyH_take (i := 40) (oi := { dst := some 117, op := Op.move (Operand.tmp 116), type := 4, pos := "outright.go:47", after := #[{ on := 39, ground := Ground.data }, { on := 33, ground := Ground.chain }], guard := none }) (v := ?_) rfl (by kernel_rfl) (by kernel_rfl) (by kernel_rfl) (fun _ _ _ h => h) (Or.inl ⟨by rfl, ?_⟩) (by assumption) ?_
  rotate_left
  · (intro ww hSw; (try dsimp only at hSw); go_simp; try with_reducible rfl)
  (try simp only [Act.put, List.setIfInBounds_toArray, List.set_cons_zero, List.set_cons_succ])
  refine wpAnyH_take (i := 41) (oi := { dst := some 118, op := Op.move (Operand.tmp 11), type := 9, pos := "outright.go:47", after := #[{ on := 40, ground := Ground.guard }], guard := some (40, false) }) (v := ?_) rfl (by kernel_rfl) (by kernel_rfl) (by kernel_rfl) (fun _ _ _ h => h) (Or.inl ⟨by rfl, ?_⟩) (by assumption) ?_
  rotate_left
  · (intro ww hSw; (try dsimp only at hSw); go_simp; try with_reducible rfl)
  (try simp only [Act.put, List.setIfInBounds_toArray, List.set_cons_zero, List.set_cons_succ])
  refine wpAnyH_take (i := 42) (oi := { dst := some 119, op := Op.slice 9 (Operand.tmp 118) (some (Operand.const (Value.int IntKind.i64 18))) none none, type := 9, pos := "outright.go:47", after := #[{ on := 41, ground := Ground.data }, { on := 40, ground := Ground.guard }], guard := some (40, false) }) (v := ?_) rfl (by kernel_rfl) (by kernel_rfl) (by kernel_rfl) (fun _ _ _ h => h) (Or.inl ⟨by rfl, ?_⟩) (by assumption) ?_
  rotate_left
  · (intro ww hSw; (try dsimp only at hSw); go_simp; try with_reducible rfl)
  (try simp only [Act.put, List.setIfInBounds_toArray, List.set_cons_zero, List.set_cons_succ])
  refine wpAnyH_take (i := 43) (oi := { dst := some 120, op := Op.move (Operand.tmp 0), type := 9, pos := "outright.go:47", after := #[{ on := 40, ground := Ground.guard }], guard := some (40, false) }) (v := ?_) rfl (by kernel_rfl) (by kernel_rfl) (by kernel_rfl) (fun _ _ _ h => h) (Or.inl ⟨by rfl, ?_⟩) (by assumption) ?_
  rotate_left
  · (intro ww hSw; (try dsimp only at hSw); go_simp; try with_reducible rfl)
  (try simp only [Act.put, List.setIfInBounds_toArray, List.set_cons_zero, List.set_cons_succ])
  refine wpAnyH_take (i := 44) (oi := { dst := some 121, op := Op.slice 9 (Operand.tmp 120) (some (Operand.const (Value.int IntKind.i64 18))) none none, type := 9, pos := "outright.go:47", after := #[{ on := 43, ground := Ground.data }, { on := 40, ground := Ground.guard }], guard := some (40, false) }) (v := ?_) rfl (by kernel_rfl) (by kernel_rfl) (by kernel_rfl) (fun _ _ _ h => h) (Or.inl ⟨by rfl, ?_⟩) (by assumption) ?_
  rotate_left
  · (intro ww hSw; (try dsimp only at hSw); go_simp; try with_reducible rfl)
  (try simp only [Act.put, List.setIfInBounds_toArray, List.set_cons_zero, List.set_cons_succ])
  refine wpAnyH_take (i := 45) (oi := { dst := some 122, op := Op.binOp BinOp.neq 9 (Operand.tmp 119) (Operand.tmp 121) 9, type := 4, pos := "outright.go:47", after := #[{ on := 42, ground := Ground.data }, { on := 44, ground := Ground.data }, { on := 40, ground := Ground.guard }], guard := some (40, false) }) (v := ?_) rfl (by kernel_rfl) (by kernel_rfl) (by kernel_rfl) (fun _ _ _ h => h) (Or.inl ⟨by rfl, ?_⟩) (by assumption) ?_
  rotate_left
  · (intro ww hSw; (try dsimp only at hSw); go_simp; try with_reducible rfl)
  (try simp only [Act.put, List.setIfInBounds_toArray, List.set_cons_zero, List.set_cons_succ])
  refine wpAnyH_take (i := 46) (oi := { dst := some 123, op := Op.pick (Operand.tmp 117) (Operand.const (Value.bool true)) (Operand.tmp 122), type := 4, pos := "outright.go:47", after := #[{ on := 40, ground := Ground.data }, { on := 45, ground := Ground.data }], guard := none }) (v := ?_) rfl (by kernel_rfl) (by kernel_rfl) (by kernel_rfl) (fun _ _ _ h => h) (Or.inl ⟨by rfl, ?_⟩) (by assumption) ?_
  rotate_left
  · (intro ww hSw; (try dsimp only at hSw); go_simp; try with_reducible rfl)
  (try simp only [Act.put, List.setIfInBounds_toArray, List.set_cons_zero, List.set_cons_succ])
  refine wpAnyH_done (by kernel_rfl) ?_ _
  refine NoPanic.normal ?_
  have HB7 := Lib.hid hHeld.1
  have HL7 := Lib.hid hHeld.2
  clear hHeld HB6 HL6 HC1 i20 d20 i16O i18O eA eB eA3 eB3 hm
  go_wp2_with fail
  refine (HC2.out _).mono ?_
  rintro e w8 ⟨x, rfl, he, b8⟩
  have HB8 := Lib.hid (HB7.out.trans (b8.mono HL7.out))
  clear b8 HB7 HL7 HC2
  by_cases hk : kc = 0
  · obtain rfl : x = .nilIface := by rw [hk] at he; exact he.nil
    by_cases hO : O = s
    · subst hO
      clear he
      go_wp2_with fail
      go_ret
      exact ⟨rfl, HB8.out⟩
    · have eF : s.extract 16 18 = ⟨#[255, 255]⟩ := (HOw.out hk).resolve_left hO
      have o2 : decide (O = s) = false := decide_eq_false hO
      have o3 : (O.toList == s.toList) = false := by
        rw [beq_eq_false_iff_ne]
        intro hh
        rw [ByteArray.toList_eq, ByteArray.toList_eq] at hh
        exact hO (ba_ext hh)
      have o4 : ¬ O.toList = s.toList := by rw [beq_eq_false_iff_ne] at o3; exact o3
      clear he
      go_wp2_with fail
      go_ret
      exact ⟨rfl, HB8.out⟩
  · obtain ⟨f, rfl⟩ := errv_some he hk
    clear he
    go_wp2_with fail
    go_ret
    exact ⟨rfl, HB8.out⟩
theorem tcpAgain_all (U : TSays) (s ps : ByteArray) (a b : Nat) (ha : a ≤ 65535) (hb : b ≤ 65535) (w : World) :
    Calls Try.prog 7 #[.string s, .string ps, .int .u16 a, .int .u16 b] w fun e w' => e = .returned (.bool true) ∧ Below w.heap.size w w' := by
  by_cases h1 : s.size ≤ 70000
  · by_cases h2 : ps.size ≤ 1000
    · by_cases hc : tcode s = 0
      · exact tcpAgain_some U s ps a b ha hb w h1 h2 hc
      · exact tcpAgain_none U s ps a b w h1 h2 hc
    · have HA := Lib.hid (fun W => awake_true U W)
      have i1 : ¬ (70000 : Int) < (s.size : Int) := by omega
      have d1 := decide_eq_false i1
      have i2 : (1000 : Int) < (ps.size : Int) := by omega
      have d2 := decide_eq_true i2
      clear h1 h2 ha hb
      go_enter Try.func7, Try.ntmps7
      go_wp2_with fail
      refine (HA.out _).mono ?_
      rintro e w1 ⟨rfl, b1⟩
      have HB1 := Lib.hid b1
      clear b1 HA
      go_wp2_with fail
      go_ret
      exact ⟨rfl, HB1.out⟩
  · have HA := Lib.hid (fun W => awake_true U W)
    have i1 : (70000 : Int) < (s.size : Int) := by omega
    have d1 := decide_eq_true i1
    clear h1 ha hb
    go_enter Try.func7, Try.ntmps7
    go_wp2_with fail
    refine (HA.out _).mono ?_
    rintro e w1 ⟨rfl, b1⟩
    have HB1 := Lib.hid b1
    clear b1 HA
    go_wp2_with fail
    go_ret
    exact ⟨rfl, HB1.out⟩
end Go.Proofs.Ytljlonligbheaaa
