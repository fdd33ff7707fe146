/-
  Proved here: the law UdpBack answers true, given what the program's functions answer.
  Conditions: USays.
-/
import Derived.Test.YtiemapkajpfikaaAwake
import Derived.Test.YtiemapkajpfikaaBytesPlain
import Derived.Laws.BytesArg
namespace Go.Proofs.Ytiemapkajpfikaa
open Go.RowKit

/-- A row of bytes that may be written. -/
def Byt (w : World) (g : Nat) (l : List UInt8) : Prop := ∀ j (h : j < l.length), w.cell? ⟨g, j, none⟩ = some (.int .u8 (l[j].toNat : Int)) ∧ w.frozen? ⟨g, j, none⟩ = false
theorem bytes_new (s : ByteArray) (w : World) : ∃ g cap w', (convert 9 42 (.string s)).run Try.prog w = .ok (.slice (some ⟨g, 0, none⟩) s.size cap) w' ∧ (Byt w' g s.data.toList ∧ w.heap.size ≤ g) ∧ Below w.heap.size w w' := by
  refine ⟨_, _, _, run_bytes_of_string w 9 42 5 s Try.underlying9 Try.underlying42 Try.underlying5, ⟨fun j hj => ⟨?_, ?_⟩, Nat.le_refl _⟩, ?_⟩
  · rw [show w.heap.size = w.drew.heap.size from rfl, World.cell?_alloc_mark, bytesRow_at s _ j (by simpa using hj)]
    rfl
  · rw [show w.heap.size = w.drew.heap.size from rfl, World.frozen?_alloc_mark]
    have : j < (bytesRow s (grownCap w s.size 0 5)).size := by
      unfold bytesRow
      simp at hj ⊢
      omega
    simp
    omega
  · exact ((Below.refl w.heap.size w).drew).alloc (Nat.le_refl _) _
theorem byt_back {w : World} {g : Nat} {l : List UInt8} {K : Nat} (cap : Nat) (h : Byt w g l) (hK : K < l.length) (y : UInt8) (n : Nat) (hn : l.length = n) :
    (convert 42 9 (.slice (some ⟨g, 0, none⟩) n cap)).run Try.prog (w.setCell ⟨g, K, none⟩ (.int .u8 (y.toNat : Int))) = .ok (.string ⟨(l.set K y).toArray⟩) (w.setCell ⟨g, K, none⟩ (.int .u8 (y.toNat : Int))) := by
  subst hn
  have := run_convert_bytes_back (P := Try.prog) (w.setCell ⟨g, K, none⟩ (.int .u8 (y.toNat : Int))) 42 9 5 ⟨g, 0, none⟩ cap (l.set K y) Try.underlying42 Try.underlying5 Try.underlying9 (fun j hj => by
    have hj' : j < l.length := by simpa using hj
    have e : (⟨g, 0, none⟩ : Addr).add j = ⟨g, j, none⟩ := by unfold Addr.add; split <;> simp_all
    rw [e, List.getElem_set]
    split
    · rename_i hkj
      subst hkj
      exact World.cell?_setCell_same w ⟨g, K, none⟩ _ (h K hK).1
    · rename_i hkj
      rw [World.cell?_setCell_other w _ _ _ (fun he => hkj (by injection he))]
      exact (h j hj').1)
  rwa [List.length_set] at this
theorem errv_some {B : Nat} {c : Int} {v : Value} {w : World} (h : ErrV B c v w) (hc : c ≠ 0) : ∃ f, v = .iface 62 (.pointer (some ⟨f, 0, none⟩)) := by
  rcases h with ⟨h, _⟩ | ⟨_, f, h, _⟩
  · exact absurd h hc
  · exact ⟨f, h⟩
set_option maxRecDepth 100000 in
set_option maxHeartbeats 2000000 in
theorem udpBack_all (U : USays) (d : Dg) (ps : ByteArray) (a b : Nat) (ha : a ≤ 65535) (hb : b ≤ 255) (w : World) :
    Calls Try.prog 6 #[.agg #[.int .i64 d.fr, .int .i64 d.dst, .int .i64 d.sm, .string d.data], .string ps, .int .u16 a, .int .u8 b] w fun e w' => e = .returned (.bool true) ∧ Below w.heap.size w w' := by
  have HA := Lib.hid (fun W => awake_true U W)
  obtain ⟨E, hE⟩ : ∃ E : Nat, E = ps.size / 2 * 2 := ⟨_, rfl⟩
  obtain ⟨Q, hQ⟩ : ∃ Q, Q = ps.extract 0 E := ⟨_, rfl⟩
  have hQs : Q.size = E := by rw [hQ]; simp; omega
  have hQe : Q.size % 2 = 0 := by omega
  have hQ1 : Q.size ≤ ps.size := by omega
  have C1 := Lib.hid (fun (W : World) (h1 : d.data.size ≤ 70000) (h2 : ps.size ≤ 1000) => U.bytes d Q W h1 (by omega))
  have HQ := Lib.hid hQ
  have q1 : (ps.size : Int).tdiv 2 = (ps.size : Int) / 2 := Int.tdiv_eq_ediv_of_nonneg (by omega)
  have q3 : (ps.size : Int) / 2 * 2 = (E : Int) := by omega
  have q5 : (E : Int) ≤ (ps.size : Int) := by omega
  have hD : d = ⟨d.fr, d.dst, d.sm, d.data⟩ := rfl
  obtain ⟨x0, hx0⟩ : ∃ x, x = d.fr := ⟨_, rfl⟩
  obtain ⟨x1, hx1⟩ : ∃ x, x = d.dst := ⟨_, rfl⟩
  obtain ⟨x2, hx2⟩ : ∃ x, x = d.sm := ⟨_, rfl⟩
  obtain ⟨x3, hx3⟩ : ∃ x, x = d.data := ⟨_, rfl⟩
  rw [← hx0, ← hx1, ← hx2, ← hx3]
  rw [← hx0, ← hx1, ← hx2, ← hx3] at C1
  have HX := Lib.hid (And.intro hx0 (And.intro hx1 hx3))
  clear hx0 hx1 hx2 hx3 hD hQ hE
  go_enter Try.func6, Try.ntmps6
  go_wp2_with fail
  refine (HA.out _).mono ?_
  rintro e w1 ⟨rfl, b1⟩
  have HB := Lib.hid (((Below.refl w.heap.size w).alloc (Nat.le_refl _) (.cells #[.int .i64 x0, .int .i64 x1, .int .i64 x2, .string x3] 23)).trans (b1.mono (by simp)))
  have hbk : Bk w1 w.heap.size 23 ([.int .i64 x0, .int .i64 x1, .int .i64 x2, .string x3] : List Value).toArray := (bk_new w 23 ([.int .i64 x0, .int .i64 x1, .int .i64 x2, .string x3] : List Value).toArray).below b1 (by simp)
  have HK := Lib.hid hbk
  have c0 := hbk.at (i := 0) rfl
  have c1 := hbk.at (i := 1) rfl
  have c2 := hbk.at (i := 2) rfl
  have c3 := hbk.at (i := 3) rfl
  have HL := Lib.hid (Nat.le_of_lt hbk.lt)
  clear b1 hbk HA
  by_cases h1 : 70000 < x3.size
  · have i1 : (70000 : Int) < (x3.size : Int) := by omega
    have d1 := decide_eq_true i1
    clear h1
    go_wp2_with fail
    go_ret
    exact ⟨rfl, HB.out⟩
  · have i1 : ¬ (70000 : Int) < (x3.size : Int) := by omega
    have d1 := decide_eq_false i1
    by_cases h2 : 1000 < ps.size
    · have i2 : (1000 : Int) < (ps.size : Int) := by omega
      have d2 := decide_eq_true i2
      clear h1 h2
      go_wp2_with fail
      go_ret
      exact ⟨rfl, HB.out⟩
    · have i2 : ¬ (1000 : Int) < (ps.size : Int) := by omega
      have d2 := decide_eq_false i2
      have hd7 : d.data.size ≤ 70000 := by have := HX.out.2.2; rw [← this]; omega
      have HC1 := Lib.hid (fun W => C1.out W (by have := HX.out.2.2; omega) (by omega))
      have q2 : IntKind.i64.wrap ((ps.size : Int) / 2) = (ps.size : Int) / 2 := IntWalk.i64_in _ (by omega)
      have q4 : IntKind.i64.wrap (E : Int) = (E : Int) := IntWalk.i64_in _ (by omega)
      clear h1 C1
      go_upto_region 6 with (fail)
      clear q1 q2 q3 q4 q5
      rw [← HQ.out]
      go_wp2_with fail
      refine (HC1.out w1).mono ?_
      rintro e w2 ⟨x, rfl, he, b2⟩
      have HB2 := Lib.hid (HB.out.trans (b2.mono HL.out))
      have HL2 := Lib.hid (Nat.le_trans HL.out b2.size)
      have HK2 := Lib.hid (HK.out.below b2 HK.out.lt)
      clear b2 c0 c1 c2 c3 HB HL HC1 HK
      by_cases hw : d.why = 0
      · rw [hw] at he
        obtain rfl := he.nil
        have ho : d.out Q = d.bytes Q := by unfold Dg.out; rw [if_pos hw]
        rw [ho]
        have hXs := bytes_size d Q
        have hBd := bytes_dans (ps := Q) hw
        have hz := (why_zero hw).2.2
        have hs1 := sum1_pos d Q
        have HP : Hid (∀ W, Calls Try.prog 8 #[.string (d.bytes Q)] W fun e w' => e = .returned (.tuple #[.agg #[.int .i64 x0, .int .i64 x1, .int .i64 (d.sum1 Q), .string x3], .nilIface]) ∧ Below W.heap.size W w') := Lib.hid (fun W => by
          refine (U.parse (d.bytes Q) W (by omega)).mono ?_
          rintro e w' ⟨x, rfl, he, b⟩
          rw [bytes_code (ps := Q) hw] at he
          rw [he.nil, hBd.1, hBd.2.1, hBd.2.2.1, hBd.2.2.2, HX.out.1, HX.out.2.1, HX.out.2.2]
          exact ⟨rfl, b⟩)
        have HC : Hid (∀ W, Calls Try.prog 9 #[.string (d.bytes Q), .string Q] W fun e w' => e = .returned .nilIface ∧ Below W.heap.size W w') := Lib.hid (fun W => by
          refine (U.check (d.bytes Q) Q W (by omega) (by omega)).mono ?_
          rintro e w' ⟨x, rfl, he, b⟩
          rw [bytes_checked hw hQe] at he
          rw [he.nil]
          exact ⟨rfl, b⟩)
        have HT := Lib.hid (fun (W : World) (K : Nat) (hK : K < (d.bytes Q).size) (y : UInt8) (hy : y ≠ (d.bytes Q)[K]'hK) => (show Calls Try.prog 9 #[.string (setB (d.bytes Q) K y), .string Q] W fun e w' => ∃ f, e = .returned (.iface 62 (.pointer (some ⟨f, 0, none⟩))) ∧ Below W.heap.size W w' from by
          refine (U.check (setB (d.bytes Q) K y) Q W (by rw [setB_size]; omega) (by omega)).mono ?_
          rintro e w' ⟨x, rfl, he, b⟩
          obtain ⟨f, rfl⟩ := errv_some he (bytes_turned hw hQe K hK y hy)
          exact ⟨f, rfl, b⟩))
        have HS := Lib.hid (fun K y => show setB (d.bytes Q) K y = ⟨((d.bytes Q).data.toList.set K y).toArray⟩ from rfl)
        have m1 : (d.sum1 Q == 0) = false := by rw [beq_eq_false_iff_ne]; exact hs1
        obtain ⟨X, hX⟩ : ∃ X, X = d.bytes Q := ⟨_, rfl⟩
        rw [← hX] at HP HC HT HS hXs
        rw [← hX]
        have hN8 : 8 ≤ X.size := by omega
        have hN9 : X.size ≤ 70000 := by omega
        clear hX hBd hs1 he ho hXs hz hw hd7 h2
        generalize d.sum1 Q = s1 at *
        go_wp2_with fail
        refine (HP.out _).mono ?_
        rintro e w3 ⟨rfl, b3⟩
        have hbk := (HK2.out.below b3 HK2.out.lt).alloc (.cells #[.int .i64 x0, .int .i64 x1, .int .i64 s1, .string x3] 23)
        have hbk2 : Bk (w3.alloc (.cells #[.int .i64 x0, .int .i64 x1, .int .i64 s1, .string x3] 23)) w3.heap.size 23 ([.int .i64 x0, .int .i64 x1, .int .i64 s1, .string x3] : List Value).toArray := bk_new _ _ _
        have hB2 : Below w.heap.size w (w3.alloc (.cells #[.int .i64 x0, .int .i64 x1, .int .i64 s1, .string x3] 23)) := (HB2.out.trans (b3.mono HL2.out)).alloc (Nat.le_trans HL2.out b3.size) _
        have hL2 : w.heap.size ≤ (w3.alloc (.cells #[.int .i64 x0, .int .i64 x1, .int .i64 s1, .string x3] 23)).heap.size := by have := HL2.out; have := b3.size; simp; omega
        have HB4 := Lib.hid hB2
        have HL4 := Lib.hid hL2
        have c0 := hbk.at (V := [.int .i64 x0, .int .i64 x1, .int .i64 x2, .string x3]) (i := 0) rfl
        have c1 := hbk.at (V := [.int .i64 x0, .int .i64 x1, .int .i64 x2, .string x3]) (i := 1) rfl
        have c3 := hbk.at (V := [.int .i64 x0, .int .i64 x1, .int .i64 x2, .string x3]) (i := 3) rfl
        have r0 := hbk2.at (i := 0) rfl
        have r1 := hbk2.at (i := 1) rfl
        have r2 := hbk2.at (i := 2) rfl
        have r3 := hbk2.at (i := 3) rfl
        clear b3 HB2 HL2 HK2 hbk hbk2 hB2 hL2 HP
        generalize hw4 : w3.alloc (.cells #[.int .i64 x0, .int .i64 x1, .int .i64 s1, .string x3] 23) = w4 at *
        go_upto_region 10 with (fail)
        clear hw4
        go_wp2_with fail
        refine (HC.out _).mono ?_
        rintro e w5 ⟨rfl, b5⟩
        have HB5 := Lib.hid (HB4.out.trans (b5.mono HL4.out))
        have HL5 := Lib.hid (Nat.le_trans HL4.out b5.size)
        clear b5 c0 c1 c3 r0 r1 r2 r3 HB4 HL4 HC
        -- the turned byte
        obtain ⟨K, hK, hKN⟩ : ∃ K : Nat, a % X.size = K ∧ K < X.size := ⟨a % X.size, rfl, Nat.mod_lt _ (by omega)⟩
        obtain ⟨r, hr, hr8⟩ : ∃ r : Nat, b % 8 = r ∧ r < 8 := ⟨b % 8, rfl, Nat.mod_lt _ (by omega)⟩
        have hm8 : 2 ^ r < 256 := Nat.pow_lt_pow_right (by decide) hr8
        obtain ⟨y, hy, hne, hyx⟩ := turn_bit (X[K]'hKN) (2 ^ r) _ rfl hm8 (Nat.two_pow_pos r)
        have HTk := Lib.hid (fun W => HT.out W K hKN y hne)
        have HSk := Lib.hid (HS.out K y)
        obtain ⟨g, cap2, w6, hconv, hrow, hb8⟩ := bytes_new X w5
        have HB6 := Lib.hid (HB5.out.trans (hb8.mono HL5.out))
        have HL6 := Lib.hid (Nat.le_trans HL5.out hb8.size)
        have HRow := Lib.hid hrow.1
        have HG := Lib.hid (Nat.le_trans HL5.out hrow.2)
        have hcell : w6.cell? ⟨g, K, none⟩ = some (.int .u8 (X[K].toNat : Int)) := (hrow.1 K (by simpa using hKN)).1
        have hfz := (hrow.1 K (by simpa using hKN)).2
        obtain ⟨m, hm⟩ : ∃ m : Nat, 2 ^ r = m := ⟨_, rfl⟩
        rw [hm] at hy hm8
        have hsh : IntKind.u8.wrap ((2 : Int) ^ r) = (m : Int) := by
          rw [show ((2 : Int) ^ r) = ((2 ^ r : Nat) : Int) by simp, hm]
          show (m : Int) % 256 = _
          omega
        have t1 : IntKind.i64.wrap (a : Int) = (a : Int) := IntWalk.i64_in _ (by omega)
        have t2 : (a : Int).tmod (X.size : Int) = (K : Int) := by rw [Int.tmod_eq_emod_of_nonneg (by omega)]; omega
        have t3 : (b : Int).tmod 8 = (r : Int) := by rw [Int.tmod_eq_emod_of_nonneg (by omega)]; omega
        have t4 : IntKind.u8.wrap (r : Int) = (r : Int) := IntWalk.u8_in _ (by omega)
        have t5 : IntKind.i64.wrap (K : Int) = (K : Int) := IntWalk.i64_in _ (by omega)
        have t6 : ((X.size : Int) == 0) = false := by rw [beq_eq_false_iff_ne]; omega
        have t7 : (K : Int) < (X.size : Int) := by omega
        have t8 : ¬ (X.size : Int) = 0 := by omega
        clear hrow hb8 HB5 HL5 hm hK hr hne HT HS hyx
        go_upto_region 15 with (fail)
        clear hsh hy hcell hfz hconv
        have hback : (convert 42 9 (.slice (some ⟨g, 0, none⟩) X.size cap2)).run Try.prog (w6.setCell ⟨g, K, none⟩ (.int .u8 (y.toNat : Int))) = .ok (.string (setB X K y)) (w6.setCell ⟨g, K, none⟩ (.int .u8 (y.toNat : Int))) := by
          rw [HSk.out]
          exact byt_back cap2 HRow.out (by simpa using hKN) y X.size (by simp)
        have HB7 := Lib.hid (HB6.out.setCell (p := ⟨g, K, none⟩) HG.out (.int .u8 (y.toNat : Int)))
        have HL7 : Hid (w.heap.size ≤ (w6.setCell ⟨g, K, none⟩ (.int .u8 (y.toNat : Int))).heap.size) := Lib.hid (by have := HL6.out; simpa [World.setCell] using this)
        clear HB6 HL6 HRow HG
        generalize w6.setCell ⟨g, K, none⟩ (.int .u8 (y.toNat : Int)) = w7 at *
        generalize setB X K y = T at *
        go_wp2_with fail
        clear hback
        refine (HTk.out _).mono ?_
        rintro e w8 ⟨f, rfl, b8⟩
        have HB8 := Lib.hid (HB7.out.trans (b8.mono HL7.out))
        clear b8 HB7 HL7 HTk
        go_wp2_with fail
        go_ret
        exact ⟨rfl, HB8.out⟩
      · obtain ⟨f, rfl⟩ := errv_some he hw
        have ho : d.out Q = ⟨#[]⟩ := by unfold Dg.out; rw [if_neg hw]
        rw [ho]
        clear he ho hw
        go_wp2_with fail
        go_ret
        exact ⟨rfl, HB2.out⟩
end Go.Proofs.Ytiemapkajpfikaa
