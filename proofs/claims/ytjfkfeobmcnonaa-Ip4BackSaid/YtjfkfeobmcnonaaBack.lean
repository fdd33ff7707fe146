/-
  Proved here: the law Ip4Back answers true, and leaves old memory as it was.
  Conditions: none.
-/
import Derived.Test.YtjfkfeobmcnonaaBackPlain
import Derived.Test.YtjfkfeobmcnonaaLawKit
namespace Go.Proofs.Ytjfkfeobmcnonaa
open Go.RowKit

/-- A row of bytes that may be written. -/
def Byt (w : World) (g : Nat) (l : List UInt8) : Prop := ∀ j (h : j < l.length), w.cell? ⟨g, j, none⟩ = some (.int .u8 (l[j].toNat : Int)) ∧ w.frozen? ⟨g, j, none⟩ = false
theorem bytes_new (s : ByteArray) (w : World) : ∃ g cap w', (convert 9 45 (.string s)).run Try.prog w = .ok (.slice (some ⟨g, 0, none⟩) s.size cap) w' ∧ (Byt w' g s.data.toList ∧ w.heap.size ≤ g) ∧ Below w.heap.size w w' := by
  refine ⟨_, _, _, run_bytes_of_string w 9 45 5 s Try.underlying9 Try.underlying45 Try.underlying5, ⟨fun j hj => ⟨?_, ?_⟩, Nat.le_refl _⟩, ?_⟩
  · rw [show w.heap.size = w.drew.heap.size from rfl, World.cell?_alloc_mark, bytesRow_at s _ j (by simpa using hj)]
    rfl
  · rw [show w.heap.size = w.drew.heap.size from rfl, World.frozen?_alloc_mark]
    have : j < (bytesRow s (grownCap w s.size 0 5)).size := by
      unfold bytesRow
      simp at hj ⊢
      omega
    simp
    omega
  · exact ((Below.refl w.heap.size w).drew).alloc (Nat.le_refl _) _
theorem byt_back {w : World} {g : Nat} {l : List UInt8} {K : Nat} (cap : Nat) (h : Byt w g l) (hK : K < l.length) (y : UInt8) (n : Nat) (hn : l.length = n) :
    (convert 45 9 (.slice (some ⟨g, 0, none⟩) n cap)).run Try.prog (w.setCell ⟨g, K, none⟩ (.int .u8 (y.toNat : Int))) = .ok (.string ⟨(l.set K y).toArray⟩) (w.setCell ⟨g, K, none⟩ (.int .u8 (y.toNat : Int))) := by
  subst hn
  have := run_convert_bytes_back (P := Try.prog) (w.setCell ⟨g, K, none⟩ (.int .u8 (y.toNat : Int))) 45 9 5 ⟨g, 0, none⟩ cap (l.set K y) Try.underlying45 Try.underlying5 Try.underlying9 (fun j hj => by
    have hj' : j < l.length := by simpa using hj
    have e : (⟨g, 0, none⟩ : Addr).add j = ⟨g, j, none⟩ := by unfold Addr.add; split <;> simp_all
    rw [e, List.getElem_set]
    split
    · rename_i hkj
      subst hkj
      exact World.cell?_setCell_same w ⟨g, K, none⟩ _ (h K hK).1
    · rename_i hkj
      rw [World.cell?_setCell_other w _ _ _ (fun he => hkj (by injection he))]
      exact (h j hj').1)
  rwa [List.length_set] at this
theorem right1_yes (w : World) (a : ByteArray) (h : a.size ≤ 1099511627776) (h1 : rightB a.data.toList = true) :
    Calls Try.prog 24 #[.slice (some ⟨w.heap.size, 0, none⟩) 1 1] (w.alloc (.cells #[.string a] 9)).drew fun e w' => e = .returned (.bool true) ∧ Below w.heap.size w.drew w' := h1 ▸ right1 w.drew a h
/-- What comes of a text, whatever it is. -/
def SomePkt (w : World) (e : Ending) (w' : World) : Prop := ∃ (q : Pkt) (x : Value), e = .returned (.tuple #[.agg q.vals.toArray, x]) ∧ Below w.heap.size w w'
theorem parse_out (s : ByteArray) (w : World) (hs : s.size ≤ 70000) : Calls Try.prog 15 #[.string s] w (SomePkt w) := by
  by_cases h : pcode s = 0
  · exact (parse_ok s w hs h).mono fun _ _ ⟨h1, h2⟩ => ⟨_, _, h1, h2⟩
  · exact (parse_bad s w hs h).mono fun _ _ ⟨_, h1, _, _, h2⟩ => ⟨_, _, h1, h2⟩
set_option maxRecDepth 100000 in
set_option maxHeartbeats 400000 in
theorem ip4Back_long (p : Pkt) (s : ByteArray) (c d : Nat) (w : World) (h : 70000 < p.data.size) :
    Calls Try.prog 8 #[.agg p.vals.toArray, .string s, .int .u8 (c : Nat), .int .u8 (d : Nat)] w fun e w' => e = .returned (.bool true) ∧ Below w.heap.size w w' := by
  obtain ⟨V, hV⟩ : ∃ V, V = (p).vals := ⟨_, rfl⟩
  have HIV : Hid ((Try.prog.info? 29).map (·.size) = some V.length) := Lib.hid (by rw [hV]; exact Try.infoIp (p))
  have HOV : Hid (V.toArray.all (·.oneCell') = true) := Lib.hid (by rw [hV]; exact vals_one (p))
  have HPV : Hid (∀ q : Pkt, puts q.vals.toArray 0 V = V.toArray) := Lib.hid (fun q => by rw [hV]; exact puts_all q (p))
  have HSV : Hid (V.toArray.size = 17) := Lib.hid (by rw [hV]; rfl)
  have HC : Hid (V[16]? = some (.string p.data) ∧ V[15]? = some (.string p.opts)) := Lib.hid (by rw [hV]; exact ⟨rfl, rfl⟩)
  rw [← hV]
  have HV := Lib.hid hV
  clear hV
  have HQ0 := Lib.hid (QB.new w V)
  go_enter Try.func8, Try.ntmps8
  go_wp2_with fail
  refine (awake_true _).mono ?_
  rintro e w1 ⟨rfl, b1⟩
  have HQw1 := Lib.hid (HQ0.out.below b1 (Nat.le_refl _))
  clear b1 HQ0
  have c16 := HQw1.out.at HC.out.1
  have c15 := HQw1.out.at HC.out.2
  go_wp2_with fail
  go_ret
  exact ⟨rfl, HQw1.out.2.1⟩
set_option maxRecDepth 100000 in
set_option maxHeartbeats 400000 in
theorem ip4Back_wide (p : Pkt) (s : ByteArray) (c d : Nat) (w : World) (h : p.data.size ≤ 70000) (h2 : 1000 < p.opts.size) :
    Calls Try.prog 8 #[.agg p.vals.toArray, .string s, .int .u8 (c : Nat), .int .u8 (d : Nat)] w fun e w' => e = .returned (.bool true) ∧ Below w.heap.size w w' := by
  obtain ⟨V, hV⟩ : ∃ V, V = (p).vals := ⟨_, rfl⟩
  have HIV : Hid ((Try.prog.info? 29).map (·.size) = some V.length) := Lib.hid (by rw [hV]; exact Try.infoIp (p))
  have HOV : Hid (V.toArray.all (·.oneCell') = true) := Lib.hid (by rw [hV]; exact vals_one (p))
  have HPV : Hid (∀ q : Pkt, puts q.vals.toArray 0 V = V.toArray) := Lib.hid (fun q => by rw [hV]; exact puts_all q (p))
  have HSV : Hid (V.toArray.size = 17) := Lib.hid (by rw [hV]; rfl)
  have HC : Hid (V[16]? = some (.string p.data) ∧ V[15]? = some (.string p.opts)) := Lib.hid (by rw [hV]; exact ⟨rfl, rfl⟩)
  rw [← hV]
  have HV := Lib.hid hV
  clear hV
  have HQ0 := Lib.hid (QB.new w V)
  go_enter Try.func8, Try.ntmps8
  go_wp2_with fail
  refine (awake_true _).mono ?_
  rintro e w1 ⟨rfl, b1⟩
  have HQw1 := Lib.hid (HQ0.out.below b1 (Nat.le_refl _))
  clear b1 HQ0
  have c16 := HQw1.out.at HC.out.1
  have c15 := HQw1.out.at HC.out.2
  go_wp2_with fail
  go_ret
  exact ⟨rfl, HQw1.out.2.1⟩
set_option maxRecDepth 100000 in
set_option maxHeartbeats 400000 in
theorem ip4Back_much (p : Pkt) (s : ByteArray) (c d : Nat) (w : World) (h : p.data.size ≤ 70000) (h2 : p.opts.size ≤ 1000) (h3 : 1000 < s.size) :
    Calls Try.prog 8 #[.agg p.vals.toArray, .string s, .int .u8 (c : Nat), .int .u8 (d : Nat)] w fun e w' => e = .returned (.bool true) ∧ Below w.heap.size w w' := by
  obtain ⟨V, hV⟩ : ∃ V, V = (p).vals := ⟨_, rfl⟩
  have HIV : Hid ((Try.prog.info? 29).map (·.size) = some V.length) := Lib.hid (by rw [hV]; exact Try.infoIp (p))
  have HOV : Hid (V.toArray.all (·.oneCell') = true) := Lib.hid (by rw [hV]; exact vals_one (p))
  have HPV : Hid (∀ q : Pkt, puts q.vals.toArray 0 V = V.toArray) := Lib.hid (fun q => by rw [hV]; exact puts_all q (p))
  have HSV : Hid (V.toArray.size = 17) := Lib.hid (by rw [hV]; rfl)
  have HC : Hid (V[16]? = some (.string p.data) ∧ V[15]? = some (.string p.opts)) := Lib.hid (by rw [hV]; exact ⟨rfl, rfl⟩)
  rw [← hV]
  have HV := Lib.hid hV
  clear hV
  have HQ0 := Lib.hid (QB.new w V)
  go_enter Try.func8, Try.ntmps8
  go_wp2_with fail
  refine (awake_true _).mono ?_
  rintro e w1 ⟨rfl, b1⟩
  have HQw1 := Lib.hid (HQ0.out.below b1 (Nat.le_refl _))
  clear b1 HQ0
  have c16 := HQw1.out.at HC.out.1
  have c15 := HQw1.out.at HC.out.2
  go_wp2_with fail
  go_ret
  exact ⟨rfl, HQw1.out.2.1⟩
set_option maxRecDepth 100000 in
set_option maxHeartbeats 400000 in
theorem ip4Back_none (p : Pkt) (s : ByteArray) (c d : Nat) (w : World) (hd : p.data.size ≤ 70000) (ho : p.opts.size ≤ 1000) (hs : s.size ≤ 1000) (hw : p.why ≠ 0) :
    Calls Try.prog 8 #[.agg p.vals.toArray, .string s, .int .u8 (c : Nat), .int .u8 (d : Nat)] w fun e w' => e = .returned (.bool true) ∧ Below w.heap.size w w' := by
  obtain ⟨V, hV⟩ : ∃ V, V = (p).vals := ⟨_, rfl⟩
  have HIV : Hid ((Try.prog.info? 29).map (·.size) = some V.length) := Lib.hid (by rw [hV]; exact Try.infoIp (p))
  have HOV : Hid (V.toArray.all (·.oneCell') = true) := Lib.hid (by rw [hV]; exact vals_one (p))
  have HPV : Hid (∀ q : Pkt, puts q.vals.toArray 0 V = V.toArray) := Lib.hid (fun q => by rw [hV]; exact puts_all q (p))
  have HSV : Hid (V.toArray.size = 17) := Lib.hid (by rw [hV]; rfl)
  have HC : Hid (V[16]? = some (.string p.data) ∧ V[15]? = some (.string p.opts)) := Lib.hid (by rw [hV]; exact ⟨rfl, rfl⟩)
  have HBy : Hid (∀ W, Calls Try.prog 13 #[.agg V.toArray] W (Bad (.string ⟨#[]⟩) p.why W)) := Lib.hid (fun W => by rw [hV]; exact bytes_bad p W hd (bne_iff_ne.2 hw))
  clear hw
  generalize p.why = cc at *
  rw [← hV]
  have HV := Lib.hid hV
  clear hV
  have HQ0 := Lib.hid (QB.new w V)
  go_enter Try.func8, Try.ntmps8
  go_wp2_with fail
  refine (awake_true _).mono ?_
  rintro e w1 ⟨rfl, b1⟩
  have HQw1 := Lib.hid (HQ0.out.below b1 (Nat.le_refl _))
  clear b1 HQ0
  have c16 := HQw1.out.at HC.out.1
  have c15 := HQw1.out.at HC.out.2
  have hr : w1.rangeAt w.heap.size 0 V := HQw1.out.1.range
  go_wp2_with (refine wpList_load_mid rfl 29 _ rfl w.heap.size 0 rfl V _ hr Try.underlying29 rfl HIV.out ?_)
  clear hr c15 c16
  refine (HBy.out _).mono ?_
  rintro e w2 ⟨fb, rfl, hfl, hfb, bb⟩
  have HQw2 := Lib.hid (HQw1.out.below bb (Nat.le_refl _))
  clear bb hfl hfb HQw1
  go_wp2_with fail
  go_ret
  exact ⟨rfl, HQw2.out.2.1⟩
set_option maxRecDepth 100000 in
set_option maxHeartbeats 2000000 in
theorem ip4Back_told (p : Pkt) (s : ByteArray) (c d : Nat) (w : World) (hd : p.data.size ≤ 70000) (ho : p.opts.size ≤ 1000) (hs : s.size ≤ 1000) (hw : p.why = 0) (ha : p.byt) (hc : c < 256) (hd8 : d < 256) (hK4 : c % (20 + p.opts.size) = 0 → 4 ≤ d % 8) :
    Calls Try.prog 8 #[.agg p.vals.toArray, .string s, .int .u8 (c : Nat), .int .u8 (d : Nat)] w fun e w' => e = .returned (.bool true) ∧ Below w.heap.size w w' := by
  obtain ⟨V, hV⟩ : ∃ V, V = (p).vals := ⟨_, rfl⟩
  have HIV : Hid ((Try.prog.info? 29).map (·.size) = some V.length) := Lib.hid (by rw [hV]; exact Try.infoIp (p))
  have HOV : Hid (V.toArray.all (·.oneCell') = true) := Lib.hid (by rw [hV]; exact vals_one (p))
  have HPV : Hid (∀ q : Pkt, puts q.vals.toArray 0 V = V.toArray) := Lib.hid (fun q => by rw [hV]; exact puts_all q (p))
  have HSV : Hid (V.toArray.size = 17) := Lib.hid (by rw [hV]; rfl)
  have HEV : Hid (∀ W, (binOp .eql 29 (.agg V.toArray) (.agg V.toArray)).run Try.prog W = .ok (.bool true) W) := Lib.hid (fun W => by rw [hV]; exact eqlP (p) W)
  have HC : Hid (V[16]? = some (.string p.data) ∧ V[15]? = some (.string p.opts)) := Lib.hid (by rw [hV]; exact ⟨rfl, rfl⟩)
  obtain ⟨VZ, hVZ⟩ : ∃ V, V = (pkt0).vals := ⟨_, rfl⟩
  have HIVZ : Hid ((Try.prog.info? 29).map (·.size) = some VZ.length) := Lib.hid (by rw [hVZ]; exact Try.infoIp (pkt0))
  have HOVZ : Hid (VZ.toArray.all (·.oneCell') = true) := Lib.hid (by rw [hVZ]; exact vals_one (pkt0))
  have HPVZ : Hid (∀ q : Pkt, puts q.vals.toArray 0 VZ = VZ.toArray) := Lib.hid (fun q => by rw [hVZ]; exact puts_all q (pkt0))
  have HSVZ : Hid (VZ.toArray.size = 17) := Lib.hid (by rw [hVZ]; rfl)
  have HEVZ : Hid (∀ W, (binOp .eql 29 (.agg VZ.toArray) (.agg VZ.toArray)).run Try.prog W = .ok (.bool true) W) := Lib.hid (fun W => by rw [hVZ]; exact eqlP (pkt0) W)
  have HBD : Hid (∀ (ρ : Operand → Value) (d : Option Tmp) (ty : TypeId) (ps : String) (af : Array Edge) (gd : Option (Nat × Bool)) (W : World), (execOp ρ { dst := d, op := .build 29 #[], type := ty, pos := ps, after := af, guard := gd }).run Try.prog W = .ok (.value (.agg VZ.toArray)) W) := Lib.hid (fun ρ d ty ps af gd W => by rw [hVZ]; exact Try.execZg ρ d ty ps af gd W)
  have hz := bytes_size p
  have hopt := (why_ok hw).2.1
  have hwl := (why_ok hw).2.2.2.2
  have hpl : 0 ≤ p.pl := by
    obtain ⟨_, _, _, _, _, _, _, _, p0, p1, _⟩ := bnd_pl (why_bnd hw)
    exact p0
  have hzl : p.bytes.size ≤ 65535 := by omega
  have B := begins p hw ⟨#[]⟩
  rw [ba_nil] at B
  obtain ⟨N, hNN⟩ : ∃ N : Nat, 20 + p.opts.size = N := ⟨_, rfl⟩
  have e1 : rightB (p.bytes.extract 0 N).data.toList = true := by
    rw [← hNN, ← B.hd, B.head]
    exact head_right p hopt
  have e2 : p.bytes.extract N p.bytes.size = p.data := by
    apply ba_ext
    rw [ext_end, bytes_list, ← List.append_assoc, List.drop_append, List.drop_of_length_le (by rw [List.length_append, ba_size]; show 20 + _ ≤ _; omega)]
    rw [List.nil_append, show N - (p.fix p.sum ++ p.opts.data.toList).length = 0 by rw [List.length_append, ba_size]; show N - (20 + _) = 0; omega]
    rfl
  have e3 : p.bytes.extract 20 N = p.opts := by
    apply ba_ext
    rw [ext_list, bytes_list, ← List.append_assoc, List.take_append_of_le_length (by rw [List.length_append, ba_size]; show _ ≤ 20 + _; omega), List.take_of_length_le (by rw [List.length_append, ba_size]; show 20 + _ ≤ _; omega)]
    rfl
  have hb := parse_back p hw ha s
  have HBy : Hid (∀ W, Calls Try.prog 13 #[.agg V.toArray] W fun e w' => e = .returned (.tuple #[.string p.bytes, .nilIface]) ∧ Below W.heap.size W w') := Lib.hid (fun W => by rw [hV]; exact bytes_ok p W hw)
  have HPs : Hid (∀ W, Calls Try.prog 15 #[.string (p.bytes ++ s)] W fun e w' => e = .returned (.tuple #[.agg V.toArray, .nilIface]) ∧ Below W.heap.size W w') := Lib.hid (fun W => by
    have := parse_ok (p.bytes ++ s) W (by rw [ByteArray.size_append]; omega) hb.1
    rw [hb.2] at this
    rw [hV]
    exact this)
  have HCC := Lib.hid (fun k (hk : k < p.bytes.size) => cut_code hw k hk)
  have HPa : Hid (∀ k W, k < p.bytes.size → Calls Try.prog 15 #[.string (p.bytes.extract 0 k)] W (Bad (.agg VZ.toArray) (pcode (p.bytes.extract 0 k)) W)) := Lib.hid (fun k W hk => by rw [hVZ]; exact parse_bad _ W (by simp; omega) (HCC.out k hk))
  obtain ⟨K, hK, hKN⟩ : ∃ K : Nat, c % N = K ∧ K < N := ⟨c % N, rfl, Nat.mod_lt _ (by omega)⟩
  obtain ⟨r, hr, hr8⟩ : ∃ r : Nat, d % 8 = r ∧ r < 8 := ⟨d % 8, rfl, Nat.mod_lt _ (by omega)⟩
  have hKX : K < p.bytes.size := by omega
  have hm8 : 2 ^ r < 256 := Nat.pow_lt_pow_right (by decide) hr8
  obtain ⟨y, hy, hne, hyx⟩ := turn_bit (p.bytes[K]'hKX) (2 ^ r) _ rfl hm8 (Nat.two_pow_pos r)
  have hT : pcode (setB p.bytes K y) ≠ 0 := turn_code hw K (by omega) hKX y hne (fun h0 => by
    have hr4 : 4 ≤ r := by rw [← hr]; exact hK4 (by rw [hNN, hK, h0])
    have h16 : (p.bytes[K]'hKX).toNat / 16 = 4 := by
      rw [← byN_at p.bytes K hKX, h0]
      exact B.kind
    rw [hyx]
    exact high_turned _ r (p.bytes[K]'hKX).toNat_lt hr8 hr4 h16)
  have HPt : Hid (∀ W, Calls Try.prog 15 #[.string (setB p.bytes K y)] W (Bad (.agg VZ.toArray) (pcode (setB p.bytes K y)) W)) := Lib.hid (fun W => by rw [hVZ]; exact parse_bad _ W (by rw [setB_size]; omega) hT)
  have hlong : K = 0 ∧ 4 ≤ r ∨ 0 < K := by
    rcases Nat.eq_zero_or_pos K with h0 | h0
    · exact .inl ⟨h0, by rw [← hr]; exact hK4 (by rw [hNN, hK, h0])⟩
    · exact .inr h0
  clear hT hK4
  have HTB : Hid (setB p.bytes K y = ⟨(p.bytes.data.toList.set K y).toArray⟩) := Lib.hid rfl
  clear hne hyx hw ha hb HCC hVZ B
  generalize p.bytes = X at *
  generalize hTT : setB X K y = T at *
  clear hTT
  have hK' : (c : Int) % (N : Int) = (K : Int) := by rw [← hK]; simp
  have hr' : (d : Int) % 8 = (r : Int) := by rw [← hr]; simp
  have HX := Lib.hid (And.intro hz (And.intro hNN (And.intro hzl hopt)))
  have HE := Lib.hid (And.intro e1 (And.intro e2 e3))
  have HY := Lib.hid hy
  have HKR := Lib.hid (And.intro hK' (And.intro hr' (And.intro hKN hKX)))
  have HL := Lib.hid hlong
  have HM8 := Lib.hid hm8
  clear hz hNN hzl hopt e1 e2 e3 hy hK' hr' hKN hlong hK hr hm8 hwl hpl
  rw [← hV]
  have HV := Lib.hid hV
  clear hV
  have HQ0 := Lib.hid (QB.new w V)
  go_enter Try.func8, Try.ntmps8
  go_wp2_with fail
  refine (awake_true _).mono ?_
  rintro e w1 ⟨rfl, b1⟩
  have HQw1 := Lib.hid (HQ0.out.below b1 (Nat.le_refl _))
  clear b1 HQ0
  have c16 := HQw1.out.at HC.out.1
  have c15 := HQw1.out.at HC.out.2
  have hr : w1.rangeAt w.heap.size 0 V := HQw1.out.1.range
  go_wp2_with (refine wpList_load_mid rfl 29 _ rfl w.heap.size 0 rfl V _ hr Try.underlying29 rfl HIV.out ?_)
  clear hr c15 c16
  refine (HBy.out _).mono ?_
  rintro e w2 ⟨rfl, bb⟩
  have HQw2 := Lib.hid (HQw1.out.below bb (Nat.le_refl _))
  clear bb HQw1
  have c16 := HQw2.out.at HC.out.1
  have c15 := HQw2.out.at HC.out.2
  have hN : (20 : Int) + (p.opts.size : Int) = (N : Int) := by have := HX.out.2.1; omega
  go_upto_region 9 with (fail)
  clear hN
  obtain ⟨_, e2, e3⟩ := HE.out
  obtain ⟨hz, hNN, hzl, hopt⟩ := HX.out
  have k7 : ((X.size : Int) != (N : Int) + (p.data.size : Int)) = false := by
    rw [bne_eq_false_iff_eq]
    omega
  have k8 : IntKind.i64.wrap ((N : Int) + (p.data.size : Int)) = (N : Int) + (p.data.size : Int) := IntWalk.i64_in _ (by omega)
  have y1 : (N : Int) ≤ (X.size : Int) := by omega
  have y2 : (20 : Int) ≤ (N : Int) := by omega
  have y3 : (0 : Int) ≤ (N : Int) := by omega
  have hSZ : (X.extract 0 N).size ≤ 1099511627776 := by simp; omega
  have HSZ := Lib.hid hSZ
  obtain ⟨B, hBd⟩ : ∃ B, B = w.heap.size := ⟨_, rfl⟩
  have hQ2 : QB w B w.heap.size V w2 := by rw [hBd]; exact HQw2.out
  have HBd := Lib.hid hBd
  clear hBd HQw2 hz hNN hzl hopt hSZ
  generalize hgb : w.heap.size = b4 at *
  have HGB := Lib.hid hgb
  clear hgb
  refine wp_region_noPanic ?_
  refine wp_region_held_drew (S := fun w' => QB w B b4 V w' ∧ w'.cell? ⟨b4, 16, none⟩ = some (.string p.data) ∧ w'.cell? ⟨b4, 15, none⟩ = some (.string p.opts)) (by kernel_rfl) ((fun q => And.intro q (And.intro (QB.at q HC.out.1) (QB.at q HC.out.2))) hQ2.drew) (fun hHeld => ?_)
  refine wpAnyH_take (i := 0) (oi := { dst := some 51, op := Op.move (Operand.tmp 9), type := 9, pos := "outright.go:22", after := #[], guard := none }) (v := ?_) rfl (by kernel_rfl) (by kernel_rfl) (by kernel_rfl) (fun _ _ _ h => h) (Or.inl ⟨by rfl, ?_⟩) (by assumption) ?_
  rotate_left
  · (intro ww hSw; (try dsimp only at hSw); go_simp; try with_reducible rfl)
  (try simp only [Act.put, List.setIfInBounds_toArray, List.set_cons_zero, List.set_cons_succ])
  refine wpAnyH_take (i := 1) (oi := { dst := some 52, op := Op.call { callee := Callee.builtin Builtin.len, args := #[Operand.tmp 51], argTypes := #[9] }, type := 3, pos := "outright.go:22", after := #[{ on := 0, ground := Ground.data }], guard := none }) (v := ?_) rfl (by kernel_rfl) (by kernel_rfl) (by kernel_rfl) (fun _ _ _ h => h) (Or.inl ⟨by rfl, ?_⟩) (by assumption) ?_
  rotate_left
  · (intro ww hSw; (try dsimp only at hSw); go_simp; try with_reducible rfl)
  (try simp only [Act.put, List.setIfInBounds_toArray, List.set_cons_zero, List.set_cons_succ])
  refine wpAnyH_take (i := 2) (oi := { dst := some 53, op := Op.move (Operand.tmp 11), type := 3, pos := "outright.go:22", after := #[], guard := none }) (v := ?_) rfl (by kernel_rfl) (by kernel_rfl) (by kernel_rfl) (fun _ _ _ h => h) (Or.inl ⟨by rfl, ?_⟩) (by assumption) ?_
  rotate_left
  · (intro ww hSw; (try dsimp only at hSw); go_simp; try with_reducible rfl)
  (try simp only [Act.put, List.setIfInBounds_toArray, List.set_cons_zero, List.set_cons_succ])
  refine wpAnyH_take (i := 3) (oi := { dst := some 54, op := Op.fieldAddr 29 (Operand.tmp 4) 10, type := 0, pos := "outright.go:22", after := #[], guard := none }) (v := ?_) rfl (by kernel_rfl) (by kernel_rfl) (by kernel_rfl) (fun _ _ _ h => h) (Or.inl ⟨by rfl, ?_⟩) (by assumption) ?_
  rotate_left
  · (intro ww hSw; (try dsimp only at hSw); go_simp; try with_reducible rfl)
  (try simp only [Act.put, List.setIfInBounds_toArray, List.set_cons_zero, List.set_cons_succ])
  refine wpAnyH_take (i := 4) (oi := { dst := some 55, op := Op.load 9 (Operand.tmp 54), type := 9, pos := "outright.go:22", after := #[{ on := 3, ground := Ground.data }], guard := none }) (v := ?_) rfl (by kernel_rfl) (by kernel_rfl) (by kernel_rfl) (fun _ _ _ h => h) (Or.inl ⟨by rfl, ?_⟩) (by assumption) ?_
  rotate_left
  · (intro ww hSw; (try dsimp only at hSw); go_simp; try with_reducible rfl)
  (try simp only [Act.put, List.setIfInBounds_toArray, List.set_cons_zero, List.set_cons_succ])
  refine wpAnyH_take (i := 5) (oi := { dst := some 56, op := Op.call { callee := Callee.builtin Builtin.len, args := #[Operand.tmp 55], argTypes := #[9] }, type := 3, pos := "outright.go:22", after := #[{ on := 4, ground := Ground.data }], guard := none }) (v := ?_) rfl (by kernel_rfl) (by kernel_rfl) (by kernel_rfl) (fun _ _ _ h => h) (Or.inl ⟨by rfl, ?_⟩) (by assumption) ?_
  rotate_left
  · (intro ww hSw; (try dsimp only at hSw); go_simp; try with_reducible rfl)
  (try simp only [Act.put, List.setIfInBounds_toArray, List.set_cons_zero, List.set_cons_succ])
  refine wpAnyH_take (i := 6) (oi := { dst := some 57, op := Op.binOp BinOp.add 3 (Operand.tmp 53) (Operand.tmp 56) 3, type := 3, pos := "outright.go:22", after := #[{ on := 2, ground := Ground.data }, { on := 5, ground := Ground.data }], guard := none }) (v := ?_) rfl (by kernel_rfl) (by kernel_rfl) (by kernel_rfl) (fun _ _ _ h => h) (Or.inl ⟨by rfl, ?_⟩) (by assumption) ?_
  rotate_left
  · (intro ww hSw; (try dsimp only at hSw); go_simp; try with_reducible rfl)
  (try simp only [Act.put, List.setIfInBounds_toArray, List.set_cons_zero, List.set_cons_succ])
  refine wpAnyH_take (i := 7) (oi := { dst := some 58, op := Op.binOp BinOp.neq 3 (Operand.tmp 52) (Operand.tmp 57) 3, type := 4, pos := "outright.go:22", after := #[{ on := 1, ground := Ground.data }, { on := 6, ground := Ground.data }], guard := none }) (v := ?_) rfl (by kernel_rfl) (by kernel_rfl) (by kernel_rfl) (fun _ _ _ h => h) (Or.inl ⟨by rfl, ?_⟩) (by assumption) ?_
  rotate_left
  · (intro ww hSw; (try dsimp only at hSw); go_simp; try with_reducible rfl)
  (try simp only [Act.put, List.setIfInBounds_toArray, List.set_cons_zero, List.set_cons_succ])
  refine wpAnyH_take (i := 8) (oi := { dst := some 59, op := Op.move (Operand.tmp 58), type := 4, pos := "outright.go:22", after := #[{ on := 7, ground := Ground.data }], guard := none }) (v := ?_) rfl (by kernel_rfl) (by kernel_rfl) (by kernel_rfl) (fun _ _ _ h => h) (Or.inl ⟨by rfl, ?_⟩) (by assumption) ?_
  rotate_left
  · (intro ww hSw; (try dsimp only at hSw); go_simp; try with_reducible rfl)
  (try simp only [Act.put, List.setIfInBounds_toArray, List.set_cons_zero, List.set_cons_succ])
  refine wpAnyH_take (i := 9) (oi := { dst := some 60, op := Op.move (Operand.tmp 9), type := 9, pos := "outright.go:22", after := #[{ on := 8, ground := Ground.guard }], guard := some (8, false) }) (v := ?_) rfl (by kernel_rfl) (by kernel_rfl) (by kernel_rfl) (fun _ _ _ h => h) (Or.inl ⟨by rfl, ?_⟩) (by assumption) ?_
  rotate_left
  · (intro ww hSw; (try dsimp only at hSw); go_simp; try with_reducible rfl)
  (try simp only [Act.put, List.setIfInBounds_toArray, List.set_cons_zero, List.set_cons_succ])
  refine wpAnyH_take (i := 10) (oi := { dst := some 61, op := Op.move (Operand.tmp 11), type := 3, pos := "outright.go:22", after := #[{ on := 8, ground := Ground.guard }], guard := some (8, false) }) (v := ?_) rfl (by kernel_rfl) (by kernel_rfl) (by kernel_rfl) (fun _ _ _ h => h) (Or.inl ⟨by rfl, ?_⟩) (by assumption) ?_
  rotate_left
  · (intro ww hSw; (try dsimp only at hSw); go_simp; try with_reducible rfl)
  (try simp only [Act.put, List.setIfInBounds_toArray, List.set_cons_zero, List.set_cons_succ])
  refine wpAnyH_take (i := 11) (oi := { dst := some 62, op := Op.slice 9 (Operand.tmp 60) none (some (Operand.tmp 61)) none, type := 9, pos := "outright.go:22", after := #[{ on := 9, ground := Ground.data }, { on := 10, ground := Ground.data }, { on := 8, ground := Ground.guard }], guard := some (8, false) }) (v := ?_) rfl (by kernel_rfl) (by kernel_rfl) (by kernel_rfl) (fun _ _ _ h => h) (Or.inl ⟨by rfl, ?_⟩) (by assumption) ?_
  rotate_left
  · (intro ww hSw; (try dsimp only at hSw); go_simp; try with_reducible rfl)
  (try simp only [Act.put, List.setIfInBounds_toArray, List.set_cons_zero, List.set_cons_succ])
  have hH3 := And.left hHeld
  refine wpAnyH_ready (rs := [12]) (by kernel_rfl) (by simp) ?_
  refine AllReadyH.cons (o := { dst := some 63, op := Op.buildSlice 86 1 #[(0, Operand.tmp 62)], type := 86, pos := "outright.go:22", after := #[{ on := 11, ground := Ground.data }, { on := 8, ground := Ground.guard }], guard := some (8, false) }) rfl (fun K hK => ?_) AllReadyH.nil
  go_simp
  refine hK.out _ _ ((fun q => And.intro q (And.intro (QB.at q HC.out.1) (QB.at q HC.out.2))) (QB.alloc (And.left hHeld) _)) (fun hHeld => ?_)
  clear hK K
  (try simp only [Act.put, List.setIfInBounds_toArray, List.set_cons_zero, List.set_cons_succ])
  refine wpAnyH_ready (rs := [13]) (by kernel_rfl) (by simp) ?_
  refine AllReadyH.cons (o := { dst := some 64, op := Op.call { callee := Callee.value (Operand.func 24), args := #[Operand.tmp 63], argTypes := #[86] }, type := 4, pos := "outright.go:22", after := #[{ on := 12, ground := Ground.data }, { on := 8, ground := Ground.chain }, { on := 8, ground := Ground.guard }], guard := some (8, false) }) rfl (fun K hK => ?_) AllReadyH.nil
  go_simp
  ((with_reducible refine (right1_yes _ _ HSZ.out HE.out.1).mono ?_); rintro e w9 ⟨rfl, hb9⟩)
  refine hK.out _ _ ((fun q => And.intro q (And.intro (QB.at q HC.out.1) (QB.at q HC.out.2))) (QB.below hH3 hb9 (Nat.le_refl _))) (fun hHeld => ?_)
  clear hK K
  (try simp only [Act.put, List.setIfInBounds_toArray, List.set_cons_zero, List.set_cons_succ])
  refine wpAnyH_take (i := 14) (oi := { dst := some 65, op := Op.unOp UnOp.not 4 (Operand.tmp 64), type := 4, pos := "outright.go:22", after := #[{ on := 13, ground := Ground.data }, { on := 8, ground := Ground.guard }], guard := some (8, false) }) (v := ?_) rfl (by kernel_rfl) (by kernel_rfl) (by kernel_rfl) (fun _ _ _ h => h) (Or.inl ⟨by rfl, ?_⟩) (by assumption) ?_
  rotate_left
  · (intro ww hSw; (try dsimp only at hSw); go_simp; try with_reducible rfl)
  (try simp only [Act.put, List.setIfInBounds_toArray, List.set_cons_zero, List.set_cons_succ])
  refine wpAnyH_take (i := 15) (oi := { dst := some 66, op := Op.pick (Operand.tmp 59) (Operand.const (Value.bool true)) (Operand.tmp 65), type := 4, pos := "outright.go:22", after := #[{ on := 8, ground := Ground.data }, { on := 14, ground := Ground.data }], guard := none }) (v := ?_) rfl (by kernel_rfl) (by kernel_rfl) (by kernel_rfl) (fun _ _ _ h => h) (Or.inl ⟨by rfl, ?_⟩) (by assumption) ?_
  rotate_left
  · (intro ww hSw; (try dsimp only at hSw); go_simp; try with_reducible rfl)
  (try simp only [Act.put, List.setIfInBounds_toArray, List.set_cons_zero, List.set_cons_succ])
  refine wpAnyH_take (i := 16) (oi := { dst := some 67, op := Op.move (Operand.tmp 66), type := 4, pos := "outright.go:22", after := #[{ on := 15, ground := Ground.data }, { on := 13, ground := Ground.chain }], guard := none }) (v := ?_) rfl (by kernel_rfl) (by kernel_rfl) (by kernel_rfl) (fun _ _ _ h => h) (Or.inl ⟨by rfl, ?_⟩) (by assumption) ?_
  rotate_left
  · (intro ww hSw; (try dsimp only at hSw); go_simp; try with_reducible rfl)
  (try simp only [Act.put, List.setIfInBounds_toArray, List.set_cons_zero, List.set_cons_succ])
  refine wpAnyH_take (i := 17) (oi := { dst := some 68, op := Op.move (Operand.tmp 9), type := 9, pos := "outright.go:22", after := #[{ on := 16, ground := Ground.guard }], guard := some (16, false) }) (v := ?_) rfl (by kernel_rfl) (by kernel_rfl) (by kernel_rfl) (fun _ _ _ h => h) (Or.inl ⟨by rfl, ?_⟩) (by assumption) ?_
  rotate_left
  · (intro ww hSw; (try dsimp only at hSw); go_simp; try with_reducible rfl)
  (try simp only [Act.put, List.setIfInBounds_toArray, List.set_cons_zero, List.set_cons_succ])
  refine wpAnyH_take (i := 18) (oi := { dst := some 69, op := Op.move (Operand.tmp 11), type := 3, pos := "outright.go:22", after := #[{ on := 16, ground := Ground.guard }], guard := some (16, false) }) (v := ?_) rfl (by kernel_rfl) (by kernel_rfl) (by kernel_rfl) (fun _ _ _ h => h) (Or.inl ⟨by rfl, ?_⟩) (by assumption) ?_
  rotate_left
  · (intro ww hSw; (try dsimp only at hSw); go_simp; try with_reducible rfl)
  (try simp only [Act.put, List.setIfInBounds_toArray, List.set_cons_zero, List.set_cons_succ])
  refine wpAnyH_take (i := 19) (oi := { dst := some 70, op := Op.slice 9 (Operand.tmp 68) (some (Operand.tmp 69)) none none, type := 9, pos := "outright.go:22", after := #[{ on := 17, ground := Ground.data }, { on := 18, ground := Ground.data }, { on := 16, ground := Ground.guard }], guard := some (16, false) }) (v := ?_) rfl (by kernel_rfl) (by kernel_rfl) (by kernel_rfl) (fun _ _ _ h => h) (Or.inl ⟨by rfl, ?_⟩) (by assumption) ?_
  rotate_left
  · (intro ww hSw; (try dsimp only at hSw); go_simp; try with_reducible rfl)
  (try simp only [Act.put, List.setIfInBounds_toArray, List.set_cons_zero, List.set_cons_succ])
  refine wpAnyH_take (i := 20) (oi := { dst := some 71, op := Op.fieldAddr 29 (Operand.tmp 4) 10, type := 0, pos := "outright.go:22", after := #[{ on := 16, ground := Ground.guard }], guard := some (16, false) }) (v := ?_) rfl (by kernel_rfl) (by kernel_rfl) (by kernel_rfl) (fun _ _ _ h => h) (Or.inl ⟨by rfl, ?_⟩) (by assumption) ?_
  rotate_left
  · (intro ww hSw; (try dsimp only at hSw); go_simp; try with_reducible rfl)
  (try simp only [Act.put, List.setIfInBounds_toArray, List.set_cons_zero, List.set_cons_succ])
  refine wpAnyH_take (i := 21) (oi := { dst := some 72, op := Op.load 9 (Operand.tmp 71), type := 9, pos := "outright.go:22", after := #[{ on := 20, ground := Ground.data }, { on := 16, ground := Ground.guard }], guard := some (16, false) }) (v := ?_) rfl (by kernel_rfl) (by kernel_rfl) (by kernel_rfl) (fun _ _ _ h => h) (Or.inl ⟨by rfl, ?_⟩) (by assumption) ?_
  rotate_left
  · (intro ww hSw; (try dsimp only at hSw); go_simp; try with_reducible rfl)
  (try simp only [Act.put, List.setIfInBounds_toArray, List.set_cons_zero, List.set_cons_succ])
  refine wpAnyH_take (i := 22) (oi := { dst := some 73, op := Op.binOp BinOp.neq 9 (Operand.tmp 70) (Operand.tmp 72) 9, type := 4, pos := "outright.go:22", after := #[{ on := 19, ground := Ground.data }, { on := 21, ground := Ground.data }, { on := 16, ground := Ground.guard }], guard := some (16, false) }) (v := ?_) rfl (by kernel_rfl) (by kernel_rfl) (by kernel_rfl) (fun _ _ _ h => h) (Or.inl ⟨by rfl, ?_⟩) (by assumption) ?_
  rotate_left
  · (intro ww hSw; (try dsimp only at hSw); go_simp; try with_reducible rfl)
  (try simp only [Act.put, List.setIfInBounds_toArray, List.set_cons_zero, List.set_cons_succ])
  refine wpAnyH_take (i := 23) (oi := { dst := some 74, op := Op.pick (Operand.tmp 67) (Operand.const (Value.bool true)) (Operand.tmp 73), type := 4, pos := "outright.go:22", after := #[{ on := 16, ground := Ground.data }, { on := 22, ground := Ground.data }], guard := none }) (v := ?_) rfl (by kernel_rfl) (by kernel_rfl) (by kernel_rfl) (fun _ _ _ h => h) (Or.inl ⟨by rfl, ?_⟩) (by assumption) ?_
  rotate_left
  · (intro ww hSw; (try dsimp only at hSw); go_simp; try with_reducible rfl)
  (try simp only [Act.put, List.setIfInBounds_toArray, List.set_cons_zero, List.set_cons_succ])
  refine wpAnyH_take (i := 24) (oi := { dst := some 75, op := Op.move (Operand.tmp 74), type := 4, pos := "outright.go:22", after := #[{ on := 23, ground := Ground.data }, { on := 16, ground := Ground.chain }], guard := none }) (v := ?_) rfl (by kernel_rfl) (by kernel_rfl) (by kernel_rfl) (fun _ _ _ h => h) (Or.inl ⟨by rfl, ?_⟩) (by assumption) ?_
  rotate_left
  · (intro ww hSw; (try dsimp only at hSw); go_simp; try with_reducible rfl)
  (try simp only [Act.put, List.setIfInBounds_toArray, List.set_cons_zero, List.set_cons_succ])
  refine wpAnyH_take (i := 25) (oi := { dst := some 76, op := Op.move (Operand.tmp 9), type := 9, pos := "outright.go:22", after := #[{ on := 24, ground := Ground.guard }], guard := some (24, false) }) (v := ?_) rfl (by kernel_rfl) (by kernel_rfl) (by kernel_rfl) (fun _ _ _ h => h) (Or.inl ⟨by rfl, ?_⟩) (by assumption) ?_
  rotate_left
  · (intro ww hSw; (try dsimp only at hSw); go_simp; try with_reducible rfl)
  (try simp only [Act.put, List.setIfInBounds_toArray, List.set_cons_zero, List.set_cons_succ])
  refine wpAnyH_take (i := 26) (oi := { dst := some 77, op := Op.move (Operand.tmp 11), type := 3, pos := "outright.go:22", after := #[{ on := 24, ground := Ground.guard }], guard := some (24, false) }) (v := ?_) rfl (by kernel_rfl) (by kernel_rfl) (by kernel_rfl) (fun _ _ _ h => h) (Or.inl ⟨by rfl, ?_⟩) (by assumption) ?_
  rotate_left
  · (intro ww hSw; (try dsimp only at hSw); go_simp; try with_reducible rfl)
  (try simp only [Act.put, List.setIfInBounds_toArray, List.set_cons_zero, List.set_cons_succ])
  refine wpAnyH_take (i := 27) (oi := { dst := some 78, op := Op.slice 9 (Operand.tmp 76) (some (Operand.const (Value.int IntKind.i64 20))) (some (Operand.tmp 77)) none, type := 9, pos := "outright.go:22", after := #[{ on := 25, ground := Ground.data }, { on := 26, ground := Ground.data }, { on := 24, ground := Ground.guard }], guard := some (24, false) }) (v := ?_) rfl (by kernel_rfl) (by kernel_rfl) (by kernel_rfl) (fun _ _ _ h => h) (Or.inl ⟨by rfl, ?_⟩) (by assumption) ?_
  rotate_left
  · (intro ww hSw; (try dsimp only at hSw); go_simp; try with_reducible rfl)
  (try simp only [Act.put, List.setIfInBounds_toArray, List.set_cons_zero, List.set_cons_succ])
  refine wpAnyH_take (i := 28) (oi := { dst := some 79, op := Op.fieldAddr 29 (Operand.tmp 4) 9, type := 0, pos := "outright.go:22", after := #[{ on := 24, ground := Ground.guard }], guard := some (24, false) }) (v := ?_) rfl (by kernel_rfl) (by kernel_rfl) (by kernel_rfl) (fun _ _ _ h => h) (Or.inl ⟨by rfl, ?_⟩) (by assumption) ?_
  rotate_left
  · (intro ww hSw; (try dsimp only at hSw); go_simp; try with_reducible rfl)
  (try simp only [Act.put, List.setIfInBounds_toArray, List.set_cons_zero, List.set_cons_succ])
  refine wpAnyH_take (i := 29) (oi := { dst := some 80, op := Op.load 9 (Operand.tmp 79), type := 9, pos := "outright.go:22", after := #[{ on := 28, ground := Ground.data }, { on := 24, ground := Ground.guard }], guard := some (24, false) }) (v := ?_) rfl (by kernel_rfl) (by kernel_rfl) (by kernel_rfl) (fun _ _ _ h => h) (Or.inl ⟨by rfl, ?_⟩) (by assumption) ?_
  rotate_left
  · (intro ww hSw; (try dsimp only at hSw); go_simp; try with_reducible rfl)
  (try simp only [Act.put, List.setIfInBounds_toArray, List.set_cons_zero, List.set_cons_succ])
  refine wpAnyH_take (i := 30) (oi := { dst := some 81, op := Op.binOp BinOp.neq 9 (Operand.tmp 78) (Operand.tmp 80) 9, type := 4, pos := "outright.go:22", after := #[{ on := 27, ground := Ground.data }, { on := 29, ground := Ground.data }, { on := 24, ground := Ground.guard }], guard := some (24, false) }) (v := ?_) rfl (by kernel_rfl) (by kernel_rfl) (by kernel_rfl) (fun _ _ _ h => h) (Or.inl ⟨by rfl, ?_⟩) (by assumption) ?_
  rotate_left
  · (intro ww hSw; (try dsimp only at hSw); go_simp; try with_reducible rfl)
  (try simp only [Act.put, List.setIfInBounds_toArray, List.set_cons_zero, List.set_cons_succ])
  refine wpAnyH_take (i := 31) (oi := { dst := some 82, op := Op.pick (Operand.tmp 75) (Operand.const (Value.bool true)) (Operand.tmp 81), type := 4, pos := "outright.go:22", after := #[{ on := 24, ground := Ground.data }, { on := 30, ground := Ground.data }], guard := none }) (v := ?_) rfl (by kernel_rfl) (by kernel_rfl) (by kernel_rfl) (fun _ _ _ h => h) (Or.inl ⟨by rfl, ?_⟩) (by assumption) ?_
  rotate_left
  · (intro ww hSw; (try dsimp only at hSw); go_simp; try with_reducible rfl)
  (try simp only [Act.put, List.setIfInBounds_toArray, List.set_cons_zero, List.set_cons_succ])
  refine wpAnyH_done (by kernel_rfl) ?_ _
  refine NoPanic.normal ?_
  have HQw9 := Lib.hid (And.left hHeld)
  clear hHeld hH3 hQ2 c15 c16 e2 e3 k7 k8 y1 y2 y3
  have zc := cat_len
  have zo : ¬ 9223372036854775807 < X.size + s.size := by have := HX.out.2.2.1; omega
  go_wp2_with fail
  clear zc zo
  refine (HPs.out _).mono ?_
  rintro e w10 ⟨rfl, bb⟩
  have HQw10 := Lib.hid (HQw9.out.below bb (Nat.le_refl _))
  clear bb HQw9
  have ht : (w10.alloc (.cells #[.int .i64 0, .int .i64 0, .int .i64 0, .int .i64 0, .int .i64 0, .bool false, .bool false, .int .u8 0, .int .u8 0, .int .u8 0, .int .u8 0, .int .u8 0, .int .u8 0, .int .u8 0, .int .u8 0, .string ⟨#[]⟩, .string ⟨#[]⟩] 29)).there w10.heap.size 0 V.toArray.size := by rw [HSV.out]; exact (bk_new w10 29 #[.int .i64 0, .int .i64 0, .int .i64 0, .int .i64 0, .int .i64 0, .bool false, .bool false, .int .u8 0, .int .u8 0, .int .u8 0, .int .u8 0, .int .u8 0, .int .u8 0, .int .u8 0, .int .u8 0, .string ⟨#[]⟩, .string ⟨#[]⟩]).there 17 (Nat.le_refl _)
  go_upto_region 12 with (refine wpList_store_mid rfl 29 _ _ rfl w10.heap.size 0 V.toArray rfl rfl ht HIV.out HOV.out ?_)
  have HQw11 := Lib.hid ((HQw10.out.alloc (.cells #[.int .i64 0, .int .i64 0, .int .i64 0, .int .i64 0, .int .i64 0, .bool false, .bool false, .int .u8 0, .int .u8 0, .int .u8 0, .int .u8 0, .int .u8 0, .int .u8 0, .int .u8 0, .int .u8 0, .string ⟨#[]⟩, .string ⟨#[]⟩] 29)).sets (c := w10.heap.size) (Nat.ne_of_lt HQw10.out.1.lt) HQw10.out.2.2 0 V)
  have hK := Bk.sets V 0 _ _ (show Bk _ w10.heap.size 29 pkt0.vals.toArray from bk_new w10 29 #[.int .i64 0, .int .i64 0, .int .i64 0, .int .i64 0, .int .i64 0, .bool false, .bool false, .int .u8 0, .int .u8 0, .int .u8 0, .int .u8 0, .int .u8 0, .int .u8 0, .int .u8 0, .int .u8 0, .string ⟨#[]⟩, .string ⟨#[]⟩])
  rw [HPV.out] at hK
  have HK12 := Lib.hid hK
  clear hK
  clear ht HQw10
  generalize (w10.alloc (.cells #[.int .i64 0, .int .i64 0, .int .i64 0, .int .i64 0, .int .i64 0, .bool false, .bool false, .int .u8 0, .int .u8 0, .int .u8 0, .int .u8 0, .int .u8 0, .int .u8 0, .int .u8 0, .int .u8 0, .string ⟨#[]⟩, .string ⟨#[]⟩] 29)).setCells w10.heap.size 0 V = w11 at *
  have hM : (X.size : Int) - 1 = ((X.size - 1 : Nat) : Int) := by have := HX.out; omega
  have hM2 : ((X.size - 1 : Nat) : Int) ≤ (X.size : Int) := by omega
  have hM3 : X.size - 1 < X.size := by have := HX.out; omega
  have hM4 : X.size - 1 ≤ 65535 := by have := HX.out; omega
  generalize X.size - 1 = M at *
  go_wp2_with fail
  with_reducible refine (HPa.out M _ hM3).mono ?_
  rintro e w12 ⟨fb, rfl, hfl, hfb, bb⟩
  have HQw12 := Lib.hid (HQw11.out.below bb (Nat.le_refl _))
  have HK12' := Lib.hid (HK12.out.below bb HK12.out.lt)
  clear bb hfl hfb HQw11 HK12 hM hM2 hM3 hM4
  have ht : (w12.alloc (.cells #[.int .i64 0, .int .i64 0, .int .i64 0, .int .i64 0, .int .i64 0, .bool false, .bool false, .int .u8 0, .int .u8 0, .int .u8 0, .int .u8 0, .int .u8 0, .int .u8 0, .int .u8 0, .int .u8 0, .string ⟨#[]⟩, .string ⟨#[]⟩] 29)).there w12.heap.size 0 VZ.toArray.size := by rw [HSVZ.out]; exact (bk_new w12 29 #[.int .i64 0, .int .i64 0, .int .i64 0, .int .i64 0, .int .i64 0, .bool false, .bool false, .int .u8 0, .int .u8 0, .int .u8 0, .int .u8 0, .int .u8 0, .int .u8 0, .int .u8 0, .int .u8 0, .string ⟨#[]⟩, .string ⟨#[]⟩]).there 17 (Nat.le_refl _)
  go_upto_region 13 with (refine wpList_store_mid rfl 29 _ _ rfl w12.heap.size 0 VZ.toArray rfl rfl ht HIVZ.out HOVZ.out ?_)
  have HQw13 := Lib.hid ((HQw12.out.alloc (.cells #[.int .i64 0, .int .i64 0, .int .i64 0, .int .i64 0, .int .i64 0, .bool false, .bool false, .int .u8 0, .int .u8 0, .int .u8 0, .int .u8 0, .int .u8 0, .int .u8 0, .int .u8 0, .int .u8 0, .string ⟨#[]⟩, .string ⟨#[]⟩] 29)).sets (c := w12.heap.size) (Nat.ne_of_lt HQw12.out.1.lt) HQw12.out.2.2 0 VZ)
  have HK12 := Lib.hid ((HK12'.out.alloc (.cells #[.int .i64 0, .int .i64 0, .int .i64 0, .int .i64 0, .int .i64 0, .bool false, .bool false, .int .u8 0, .int .u8 0, .int .u8 0, .int .u8 0, .int .u8 0, .int .u8 0, .int .u8 0, .int .u8 0, .string ⟨#[]⟩, .string ⟨#[]⟩] 29)).sets_other (b := w12.heap.size) (Nat.ne_of_lt HK12'.out.lt) 0 VZ)
  clear ht HQw12 HK12'
  generalize (w12.alloc (.cells #[.int .i64 0, .int .i64 0, .int .i64 0, .int .i64 0, .int .i64 0, .bool false, .bool false, .int .u8 0, .int .u8 0, .int .u8 0, .int .u8 0, .int .u8 0, .int .u8 0, .int .u8 0, .int .u8 0, .string ⟨#[]⟩, .string ⟨#[]⟩] 29)).setCells w12.heap.size 0 VZ = w13 at *
  obtain ⟨g, cap2, w14, hconv, hrow, hb8⟩ := bytes_new X w13
  have HQw14 := Lib.hid (HQw13.out.below hb8 (Nat.le_refl _))
  have HK12' := Lib.hid (HK12.out.below hb8 HK12.out.lt)
  have HRow := Lib.hid hrow
  have HG4 := Lib.hid (Nat.ne_of_lt (Nat.lt_of_lt_of_le HQw13.out.1.lt hrow.2))
  have HG12 := Lib.hid (Nat.ne_of_lt (Nat.lt_of_lt_of_le HK12.out.lt hrow.2))
  have HGB2 := Lib.hid (Nat.le_trans HQw13.out.2.2 hrow.2)
  clear hrow hb8 HK12 HQw13
  obtain ⟨hK', hr', hKN, _⟩ := HKR.out
  have hcell : w14.cell? ⟨g, K, none⟩ = some (.int .u8 (X[K].toNat : Int)) := (HRow.out.1 K (by simpa using hKX)).1
  have hfz := (HRow.out.1 K (by simpa using hKX)).2
  have hy := HY.out
  have hN0 : 0 < N := by have := HX.out; omega
  have hm8 := HM8.out
  obtain ⟨m, hm⟩ : ∃ m : Nat, 2 ^ r = m := ⟨_, rfl⟩
  rw [hm] at hy hm8
  have hsh : IntKind.u8.wrap ((2 : Int) ^ r) = (m : Int) := by
    rw [show ((2 : Int) ^ r) = ((2 ^ r : Nat) : Int) by simp, hm]
    show (m : Int) % 256 = _
    omega
  clear hm
  go_upto_region 16 with (fail)
  clear hsh hy hcell hfz hconv
  have hback : (convert 45 9 (.slice (some ⟨g, 0, none⟩) X.size cap2)).run Try.prog (w14.setCell ⟨g, K, none⟩ (.int .u8 (y.toNat : Int))) = .ok (.string T) (w14.setCell ⟨g, K, none⟩ (.int .u8 (y.toNat : Int))) := by
    rw [HTB.out]
    exact byt_back cap2 HRow.out.1 (by simpa using hKX) y X.size (by simp)
  have HQw15 := Lib.hid (HQw14.out.set (c := g) HG4.out HGB2.out K (.int .u8 (y.toNat : Int)))
  have HK12 := Lib.hid (HK12'.out.set_other HG12.out K (.int .u8 (y.toNat : Int)))
  clear HQw14 HK12' HRow HG4 HG12 HGB2
  generalize w14.setCell ⟨g, K, none⟩ (.int .u8 (y.toNat : Int)) = w15 at *
  go_wp2_with fail
  clear hback
  refine (HPt.out _).mono ?_
  rintro e w16 ⟨fd, rfl, hfl, hfb, bb⟩
  have HQw16 := Lib.hid (HQw15.out.below bb (Nat.le_refl _))
  have HK12' := Lib.hid (HK12.out.below bb HK12.out.lt)
  clear bb hfl hfb HQw15 HK12
  have ht : (w16.alloc (.cells #[.int .i64 0, .int .i64 0, .int .i64 0, .int .i64 0, .int .i64 0, .bool false, .bool false, .int .u8 0, .int .u8 0, .int .u8 0, .int .u8 0, .int .u8 0, .int .u8 0, .int .u8 0, .int .u8 0, .string ⟨#[]⟩, .string ⟨#[]⟩] 29)).there w16.heap.size 0 VZ.toArray.size := by rw [HSVZ.out]; exact (bk_new w16 29 #[.int .i64 0, .int .i64 0, .int .i64 0, .int .i64 0, .int .i64 0, .bool false, .bool false, .int .u8 0, .int .u8 0, .int .u8 0, .int .u8 0, .int .u8 0, .int .u8 0, .int .u8 0, .int .u8 0, .string ⟨#[]⟩, .string ⟨#[]⟩]).there 17 (Nat.le_refl _)
  go_upto_region 17 with (refine wpList_store_mid rfl 29 _ _ rfl w16.heap.size 0 VZ.toArray rfl rfl ht HIVZ.out HOVZ.out ?_)
  have HQw17 := Lib.hid ((HQw16.out.alloc (.cells #[.int .i64 0, .int .i64 0, .int .i64 0, .int .i64 0, .int .i64 0, .bool false, .bool false, .int .u8 0, .int .u8 0, .int .u8 0, .int .u8 0, .int .u8 0, .int .u8 0, .int .u8 0, .int .u8 0, .string ⟨#[]⟩, .string ⟨#[]⟩] 29)).sets (c := w16.heap.size) (Nat.ne_of_lt HQw16.out.1.lt) HQw16.out.2.2 0 VZ)
  have HK12 := Lib.hid ((HK12'.out.alloc (.cells #[.int .i64 0, .int .i64 0, .int .i64 0, .int .i64 0, .int .i64 0, .bool false, .bool false, .int .u8 0, .int .u8 0, .int .u8 0, .int .u8 0, .int .u8 0, .int .u8 0, .int .u8 0, .int .u8 0, .string ⟨#[]⟩, .string ⟨#[]⟩] 29)).sets_other (b := w16.heap.size) (Nat.ne_of_lt HK12'.out.lt) 0 VZ)
  have hK := Bk.sets VZ 0 _ _ (show Bk _ w16.heap.size 29 pkt0.vals.toArray from bk_new w16 29 #[.int .i64 0, .int .i64 0, .int .i64 0, .int .i64 0, .int .i64 0, .bool false, .bool false, .int .u8 0, .int .u8 0, .int .u8 0, .int .u8 0, .int .u8 0, .int .u8 0, .int .u8 0, .int .u8 0, .string ⟨#[]⟩, .string ⟨#[]⟩])
  rw [HPVZ.out] at hK
  have HK18 := Lib.hid hK
  clear hK
  clear ht HQw16 HK12'
  generalize (w16.alloc (.cells #[.int .i64 0, .int .i64 0, .int .i64 0, .int .i64 0, .int .i64 0, .bool false, .bool false, .int .u8 0, .int .u8 0, .int .u8 0, .int .u8 0, .int .u8 0, .int .u8 0, .int .u8 0, .int .u8 0, .string ⟨#[]⟩, .string ⟨#[]⟩] 29)).setCells w16.heap.size 0 VZ = w17 at *
  have hr4 : w17.rangeAt b4 0 V := HQw17.out.1.range
  have hr12 : w17.rangeAt w10.heap.size 0 V := HK12.out.range
  have hr18 : w17.rangeAt w16.heap.size 0 VZ := HK18.out.range
  have heq := HEV.out
  have hez := HEVZ.out
  have hgu := Try.guardIp
  rcases HL.out with ⟨h0, h4⟩ | h0
  · have k0 : ((K : Int) == 0) = true := by rw [h0]; rfl
    have k4 : decide ((r : Int) < 4) = false := by simp; omega
    clear h0 h4
    go_wp2_with (first | (refine wpList_load_if (by rfl) 29 _ rfl b4 0 rfl V _ hr4 Try.underlying29 rfl HIV.out ?_) | (refine wpList_load_if (by rfl) 29 _ rfl w10.heap.size 0 rfl V _ hr12 Try.underlying29 rfl HIV.out ?_) | (refine wpList_load_if (by rfl) 29 _ rfl w16.heap.size 0 rfl VZ _ hr18 Try.underlying29 rfl HIVZ.out ?_) | (refine wpList_exec_if (op := ⟨_, .build 29 #[], _, _, _, _⟩) (by rfl) (.agg VZ.toArray) (HBD.out _ _ _ _ _ _ _) ?_))
    clear hr4 hr12 hr18 heq hez hgu
    go_ret
    rw [HGB.out]
    exact ⟨rfl, HBd.out ▸ HQw17.out.2.1⟩
  · have k0 : ((K : Int) == 0) = false := by rw [beq_eq_false_iff_ne]; omega
    clear h0
    go_wp2_with (first | (refine wpList_load_if (by rfl) 29 _ rfl b4 0 rfl V _ hr4 Try.underlying29 rfl HIV.out ?_) | (refine wpList_load_if (by rfl) 29 _ rfl w10.heap.size 0 rfl V _ hr12 Try.underlying29 rfl HIV.out ?_) | (refine wpList_load_if (by rfl) 29 _ rfl w16.heap.size 0 rfl VZ _ hr18 Try.underlying29 rfl HIVZ.out ?_) | (refine wpList_exec_if (op := ⟨_, .build 29 #[], _, _, _, _⟩) (by rfl) (.agg VZ.toArray) (HBD.out _ _ _ _ _ _ _) ?_))
    clear hr4 hr12 hr18 heq hez hgu
    go_ret
    rw [HGB.out]
    exact ⟨rfl, HBd.out ▸ HQw17.out.2.1⟩
set_option maxRecDepth 100000 in
set_option maxHeartbeats 2000000 in
theorem ip4Back_long2 (p : Pkt) (s : ByteArray) (c d : Nat) (w : World) (hd : p.data.size ≤ 70000) (ho : p.opts.size ≤ 1000) (hs : s.size ≤ 1000) (hw : p.why = 0) (ha : p.byt) (hc : c < 256) (hd8 : d < 256) (hK0 : c % (20 + p.opts.size) = 0) (hK4 : d % 8 < 4) :
    Calls Try.prog 8 #[.agg p.vals.toArray, .string s, .int .u8 (c : Nat), .int .u8 (d : Nat)] w fun e w' => e = .returned (.bool true) ∧ Below w.heap.size w w' := by
  obtain ⟨V, hV⟩ : ∃ V, V = (p).vals := ⟨_, rfl⟩
  have HIV : Hid ((Try.prog.info? 29).map (·.size) = some V.length) := Lib.hid (by rw [hV]; exact Try.infoIp (p))
  have HOV : Hid (V.toArray.all (·.oneCell') = true) := Lib.hid (by rw [hV]; exact vals_one (p))
  have HPV : Hid (∀ q : Pkt, puts q.vals.toArray 0 V = V.toArray) := Lib.hid (fun q => by rw [hV]; exact puts_all q (p))
  have HSV : Hid (V.toArray.size = 17) := Lib.hid (by rw [hV]; rfl)
  have HEV : Hid (∀ W, (binOp .eql 29 (.agg V.toArray) (.agg V.toArray)).run Try.prog W = .ok (.bool true) W) := Lib.hid (fun W => by rw [hV]; exact eqlP (p) W)
  have HC : Hid (V[16]? = some (.string p.data) ∧ V[15]? = some (.string p.opts)) := Lib.hid (by rw [hV]; exact ⟨rfl, rfl⟩)
  obtain ⟨VZ, hVZ⟩ : ∃ V, V = (pkt0).vals := ⟨_, rfl⟩
  have HIVZ : Hid ((Try.prog.info? 29).map (·.size) = some VZ.length) := Lib.hid (by rw [hVZ]; exact Try.infoIp (pkt0))
  have HOVZ : Hid (VZ.toArray.all (·.oneCell') = true) := Lib.hid (by rw [hVZ]; exact vals_one (pkt0))
  have HPVZ : Hid (∀ q : Pkt, puts q.vals.toArray 0 VZ = VZ.toArray) := Lib.hid (fun q => by rw [hVZ]; exact puts_all q (pkt0))
  have HSVZ : Hid (VZ.toArray.size = 17) := Lib.hid (by rw [hVZ]; rfl)
  have HEVZ : Hid (∀ W, (binOp .eql 29 (.agg VZ.toArray) (.agg VZ.toArray)).run Try.prog W = .ok (.bool true) W) := Lib.hid (fun W => by rw [hVZ]; exact eqlP (pkt0) W)
  have HBD : Hid (∀ (ρ : Operand → Value) (d : Option Tmp) (ty : TypeId) (ps : String) (af : Array Edge) (gd : Option (Nat × Bool)) (W : World), (execOp ρ { dst := d, op := .build 29 #[], type := ty, pos := ps, after := af, guard := gd }).run Try.prog W = .ok (.value (.agg VZ.toArray)) W) := Lib.hid (fun ρ d ty ps af gd W => by rw [hVZ]; exact Try.execZg ρ d ty ps af gd W)
  have hz := bytes_size p
  have hopt := (why_ok hw).2.1
  have hwl := (why_ok hw).2.2.2.2
  have hpl : 0 ≤ p.pl := by
    obtain ⟨_, _, _, _, _, _, _, _, p0, p1, _⟩ := bnd_pl (why_bnd hw)
    exact p0
  have hzl : p.bytes.size ≤ 65535 := by omega
  have B := begins p hw ⟨#[]⟩
  rw [ba_nil] at B
  obtain ⟨N, hNN⟩ : ∃ N : Nat, 20 + p.opts.size = N := ⟨_, rfl⟩
  have e1 : rightB (p.bytes.extract 0 N).data.toList = true := by
    rw [← hNN, ← B.hd, B.head]
    exact head_right p hopt
  have e2 : p.bytes.extract N p.bytes.size = p.data := by
    apply ba_ext
    rw [ext_end, bytes_list, ← List.append_assoc, List.drop_append, List.drop_of_length_le (by rw [List.length_append, ba_size]; show 20 + _ ≤ _; omega)]
    rw [List.nil_append, show N - (p.fix p.sum ++ p.opts.data.toList).length = 0 by rw [List.length_append, ba_size]; show N - (20 + _) = 0; omega]
    rfl
  have e3 : p.bytes.extract 20 N = p.opts := by
    apply ba_ext
    rw [ext_list, bytes_list, ← List.append_assoc, List.take_append_of_le_length (by rw [List.length_append, ba_size]; show _ ≤ 20 + _; omega), List.take_of_length_le (by rw [List.length_append, ba_size]; show 20 + _ ≤ _; omega)]
    rfl
  have hb := parse_back p hw ha s
  have HBy : Hid (∀ W, Calls Try.prog 13 #[.agg V.toArray] W fun e w' => e = .returned (.tuple #[.string p.bytes, .nilIface]) ∧ Below W.heap.size W w') := Lib.hid (fun W => by rw [hV]; exact bytes_ok p W hw)
  have HPs : Hid (∀ W, Calls Try.prog 15 #[.string (p.bytes ++ s)] W fun e w' => e = .returned (.tuple #[.agg V.toArray, .nilIface]) ∧ Below W.heap.size W w') := Lib.hid (fun W => by
    have := parse_ok (p.bytes ++ s) W (by rw [ByteArray.size_append]; omega) hb.1
    rw [hb.2] at this
    rw [hV]
    exact this)
  have HCC := Lib.hid (fun k (hk : k < p.bytes.size) => cut_code hw k hk)
  have HPa : Hid (∀ k W, k < p.bytes.size → Calls Try.prog 15 #[.string (p.bytes.extract 0 k)] W (Bad (.agg VZ.toArray) (pcode (p.bytes.extract 0 k)) W)) := Lib.hid (fun k W hk => by rw [hVZ]; exact parse_bad _ W (by simp; omega) (HCC.out k hk))
  obtain ⟨K, hK, hKN⟩ : ∃ K : Nat, c % N = K ∧ K < N := ⟨c % N, rfl, Nat.mod_lt _ (by omega)⟩
  obtain ⟨r, hr, hr8⟩ : ∃ r : Nat, d % 8 = r ∧ r < 8 := ⟨d % 8, rfl, Nat.mod_lt _ (by omega)⟩
  have hKX : K < p.bytes.size := by omega
  have hm8 : 2 ^ r < 256 := Nat.pow_lt_pow_right (by decide) hr8
  obtain ⟨y, hy, hne, hyx⟩ := turn_bit (p.bytes[K]'hKX) (2 ^ r) _ rfl hm8 (Nat.two_pow_pos r)
  have HPt : Hid (∀ W, Calls Try.prog 15 #[.string (setB p.bytes K y)] W (SomePkt W)) := Lib.hid (fun W => parse_out _ W (by rw [setB_size]; omega))
  have hlong : K = 0 ∧ r < 4 := ⟨by rw [← hK, ← hNN]; exact hK0, by rw [← hr]; exact hK4⟩
  clear hK4 hK0
  have HTB : Hid (setB p.bytes K y = ⟨(p.bytes.data.toList.set K y).toArray⟩) := Lib.hid rfl
  clear hne hyx hw ha hb HCC hVZ B
  generalize p.bytes = X at *
  generalize hTT : setB X K y = T at *
  clear hTT
  have hK' : (c : Int) % (N : Int) = (K : Int) := by rw [← hK]; simp
  have hr' : (d : Int) % 8 = (r : Int) := by rw [← hr]; simp
  have HX := Lib.hid (And.intro hz (And.intro hNN (And.intro hzl hopt)))
  have HE := Lib.hid (And.intro e1 (And.intro e2 e3))
  have HY := Lib.hid hy
  have HKR := Lib.hid (And.intro hK' (And.intro hr' (And.intro hKN hKX)))
  have HL := Lib.hid hlong
  have HM8 := Lib.hid hm8
  clear hz hNN hzl hopt e1 e2 e3 hy hK' hr' hKN hlong hK hr hm8 hwl hpl
  rw [← hV]
  have HV := Lib.hid hV
  clear hV
  have HQ0 := Lib.hid (QB.new w V)
  go_enter Try.func8, Try.ntmps8
  go_wp2_with fail
  refine (awake_true _).mono ?_
  rintro e w1 ⟨rfl, b1⟩
  have HQw1 := Lib.hid (HQ0.out.below b1 (Nat.le_refl _))
  clear b1 HQ0
  have c16 := HQw1.out.at HC.out.1
  have c15 := HQw1.out.at HC.out.2
  have hr : w1.rangeAt w.heap.size 0 V := HQw1.out.1.range
  go_wp2_with (refine wpList_load_mid rfl 29 _ rfl w.heap.size 0 rfl V _ hr Try.underlying29 rfl HIV.out ?_)
  clear hr c15 c16
  refine (HBy.out _).mono ?_
  rintro e w2 ⟨rfl, bb⟩
  have HQw2 := Lib.hid (HQw1.out.below bb (Nat.le_refl _))
  clear bb HQw1
  have c16 := HQw2.out.at HC.out.1
  have c15 := HQw2.out.at HC.out.2
  have hN : (20 : Int) + (p.opts.size : Int) = (N : Int) := by have := HX.out.2.1; omega
  go_upto_region 9 with (fail)
  clear hN
  obtain ⟨_, e2, e3⟩ := HE.out
  obtain ⟨hz, hNN, hzl, hopt⟩ := HX.out
  have k7 : ((X.size : Int) != (N : Int) + (p.data.size : Int)) = false := by
    rw [bne_eq_false_iff_eq]
    omega
  have k8 : IntKind.i64.wrap ((N : Int) + (p.data.size : Int)) = (N : Int) + (p.data.size : Int) := IntWalk.i64_in _ (by omega)
  have y1 : (N : Int) ≤ (X.size : Int) := by omega
  have y2 : (20 : Int) ≤ (N : Int) := by omega
  have y3 : (0 : Int) ≤ (N : Int) := by omega
  have hSZ : (X.extract 0 N).size ≤ 1099511627776 := by simp; omega
  have HSZ := Lib.hid hSZ
  obtain ⟨B, hBd⟩ : ∃ B, B = w.heap.size := ⟨_, rfl⟩
  have hQ2 : QB w B w.heap.size V w2 := by rw [hBd]; exact HQw2.out
  have HBd := Lib.hid hBd
  clear hBd HQw2 hz hNN hzl hopt hSZ
  generalize hgb : w.heap.size = b4 at *
  have HGB := Lib.hid hgb
  clear hgb
  refine wp_region_noPanic ?_
  refine wp_region_held_drew (S := fun w' => QB w B b4 V w' ∧ w'.cell? ⟨b4, 16, none⟩ = some (.string p.data) ∧ w'.cell? ⟨b4, 15, none⟩ = some (.string p.opts)) (by kernel_rfl) ((fun q => And.intro q (And.intro (QB.at q HC.out.1) (QB.at q HC.out.2))) hQ2.drew) (fun hHeld => ?_)
  refine wpAnyH_take (i := 0) (oi := { dst := some 51, op := Op.move (Operand.tmp 9), type := 9, pos := "outright.go:22", after := #[], guard := none }) (v := ?_) rfl (by kernel_rfl) (by kernel_rfl) (by kernel_rfl) (fun _ _ _ h => h) (Or.inl ⟨by rfl, ?_⟩) (by assumption) ?_
  rotate_left
  · (intro ww hSw; (try dsimp only at hSw); go_simp; try with_reducible rfl)
  (try simp only [Act.put, List.setIfInBounds_toArray, List.set_cons_zero, List.set_cons_succ])
  refine wpAnyH_take (i := 1) (oi := { dst := some 52, op := Op.call { callee := Callee.builtin Builtin.len, args := #[Operand.tmp 51], argTypes := #[9] }, type := 3, pos := "outright.go:22", after := #[{ on := 0, ground := Ground.data }], guard := none }) (v := ?_) rfl (by kernel_rfl) (by kernel_rfl) (by kernel_rfl) (fun _ _ _ h => h) (Or.inl ⟨by rfl, ?_⟩) (by assumption) ?_
  rotate_left
  · (intro ww hSw; (try dsimp only at hSw); go_simp; try with_reducible rfl)
  (try simp only [Act.put, List.setIfInBounds_toArray, List.set_cons_zero, List.set_cons_succ])
  refine wpAnyH_take (i := 2) (oi := { dst := some 53, op := Op.move (Operand.tmp 11), type := 3, pos := "outright.go:22", after := #[], guard := none }) (v := ?_) rfl (by kernel_rfl) (by kernel_rfl) (by kernel_rfl) (fun _ _ _ h => h) (Or.inl ⟨by rfl, ?_⟩) (by assumption) ?_
  rotate_left
  · (intro ww hSw; (try dsimp only at hSw); go_simp; try with_reducible rfl)
  (try simp only [Act.put, List.setIfInBounds_toArray, List.set_cons_zero, List.set_cons_succ])
  refine wpAnyH_take (i := 3) (oi := { dst := some 54, op := Op.fieldAddr 29 (Operand.tmp 4) 10, type := 0, pos := "outright.go:22", after := #[], guard := none }) (v := ?_) rfl (by kernel_rfl) (by kernel_rfl) (by kernel_rfl) (fun _ _ _ h => h) (Or.inl ⟨by rfl, ?_⟩) (by assumption) ?_
  rotate_left
  · (intro ww hSw; (try dsimp only at hSw); go_simp; try with_reducible rfl)
  (try simp only [Act.put, List.setIfInBounds_toArray, List.set_cons_zero, List.set_cons_succ])
  refine wpAnyH_take (i := 4) (oi := { dst := some 55, op := Op.load 9 (Operand.tmp 54), type := 9, pos := "outright.go:22", after := #[{ on := 3, ground := Ground.data }], guard := none }) (v := ?_) rfl (by kernel_rfl) (by kernel_rfl) (by kernel_rfl) (fun _ _ _ h => h) (Or.inl ⟨by rfl, ?_⟩) (by assumption) ?_
  rotate_left
  · (intro ww hSw; (try dsimp only at hSw); go_simp; try with_reducible rfl)
  (try simp only [Act.put, List.setIfInBounds_toArray, List.set_cons_zero, List.set_cons_succ])
  refine wpAnyH_take (i := 5) (oi := { dst := some 56, op := Op.call { callee := Callee.builtin Builtin.len, args := #[Operand.tmp 55], argTypes := #[9] }, type := 3, pos := "outright.go:22", after := #[{ on := 4, ground := Ground.data }], guard := none }) (v := ?_) rfl (by kernel_rfl) (by kernel_rfl) (by kernel_rfl) (fun _ _ _ h => h) (Or.inl ⟨by rfl, ?_⟩) (by assumption) ?_
  rotate_left
  · (intro ww hSw; (try dsimp only at hSw); go_simp; try with_reducible rfl)
  (try simp only [Act.put, List.setIfInBounds_toArray, List.set_cons_zero, List.set_cons_succ])
  refine wpAnyH_take (i := 6) (oi := { dst := some 57, op := Op.binOp BinOp.add 3 (Operand.tmp 53) (Operand.tmp 56) 3, type := 3, pos := "outright.go:22", after := #[{ on := 2, ground := Ground.data }, { on := 5, ground := Ground.data }], guard := none }) (v := ?_) rfl (by kernel_rfl) (by kernel_rfl) (by kernel_rfl) (fun _ _ _ h => h) (Or.inl ⟨by rfl, ?_⟩) (by assumption) ?_
  rotate_left
  · (intro ww hSw; (try dsimp only at hSw); go_simp; try with_reducible rfl)
  (try simp only [Act.put, List.setIfInBounds_toArray, List.set_cons_zero, List.set_cons_succ])
  refine wpAnyH_take (i := 7) (oi := { dst := some 58, op := Op.binOp BinOp.neq 3 (Operand.tmp 52) (Operand.tmp 57) 3, type := 4, pos := "outright.go:22", after := #[{ on := 1, ground := Ground.data }, { on := 6, ground := Ground.data }], guard := none }) (v := ?_) rfl (by kernel_rfl) (by kernel_rfl) (by kernel_rfl) (fun _ _ _ h => h) (Or.inl ⟨by rfl, ?_⟩) (by assumption) ?_
  rotate_left
  · (intro ww hSw; (try dsimp only at hSw); go_simp; try with_reducible rfl)
  (try simp only [Act.put, List.setIfInBounds_toArray, List.set_cons_zero, List.set_cons_succ])
  refine wpAnyH_take (i := 8) (oi := { dst := some 59, op := Op.move (Operand.tmp 58), type := 4, pos := "outright.go:22", after := #[{ on := 7, ground := Ground.data }], guard := none }) (v := ?_) rfl (by kernel_rfl) (by kernel_rfl) (by kernel_rfl) (fun _ _ _ h => h) (Or.inl ⟨by rfl, ?_⟩) (by assumption) ?_
  rotate_left
  · (intro ww hSw; (try dsimp only at hSw); go_simp; try with_reducible rfl)
  (try simp only [Act.put, List.setIfInBounds_toArray, List.set_cons_zero, List.set_cons_succ])
  refine wpAnyH_take (i := 9) (oi := { dst := some 60, op := Op.move (Operand.tmp 9), type := 9, pos := "outright.go:22", after := #[{ on := 8, ground := Ground.guard }], guard := some (8, false) }) (v := ?_) rfl (by kernel_rfl) (by kernel_rfl) (by kernel_rfl) (fun _ _ _ h => h) (Or.inl ⟨by rfl, ?_⟩) (by assumption) ?_
  rotate_left
  · (intro ww hSw; (try dsimp only at hSw); go_simp; try with_reducible rfl)
  (try simp only [Act.put, List.setIfInBounds_toArray, List.set_cons_zero, List.set_cons_succ])
  refine wpAnyH_take (i := 10) (oi := { dst := some 61, op := Op.move (Operand.tmp 11), type := 3, pos := "outright.go:22", after := #[{ on := 8, ground := Ground.guard }], guard := some (8, false) }) (v := ?_) rfl (by kernel_rfl) (by kernel_rfl) (by kernel_rfl) (fun _ _ _ h => h) (Or.inl ⟨by rfl, ?_⟩) (by assumption) ?_
  rotate_left
  · (intro ww hSw; (try dsimp only at hSw); go_simp; try with_reducible rfl)
  (try simp only [Act.put, List.setIfInBounds_toArray, List.set_cons_zero, List.set_cons_succ])
  refine wpAnyH_take (i := 11) (oi := { dst := some 62, op := Op.slice 9 (Operand.tmp 60) none (some (Operand.tmp 61)) none, type := 9, pos := "outright.go:22", after := #[{ on := 9, ground := Ground.data }, { on := 10, ground := Ground.data }, { on := 8, ground := Ground.guard }], guard := some (8, false) }) (v := ?_) rfl (by kernel_rfl) (by kernel_rfl) (by kernel_rfl) (fun _ _ _ h => h) (Or.inl ⟨by rfl, ?_⟩) (by assumption) ?_
  rotate_left
  · (intro ww hSw; (try dsimp only at hSw); go_simp; try with_reducible rfl)
  (try simp only [Act.put, List.setIfInBounds_toArray, List.set_cons_zero, List.set_cons_succ])
  have hH3 := And.left hHeld
  refine wpAnyH_ready (rs := [12]) (by kernel_rfl) (by simp) ?_
  refine AllReadyH.cons (o := { dst := some 63, op := Op.buildSlice 86 1 #[(0, Operand.tmp 62)], type := 86, pos := "outright.go:22", after := #[{ on := 11, ground := Ground.data }, { on := 8, ground := Ground.guard }], guard := some (8, false) }) rfl (fun K hK => ?_) AllReadyH.nil
  go_simp
  refine hK.out _ _ ((fun q => And.intro q (And.intro (QB.at q HC.out.1) (QB.at q HC.out.2))) (QB.alloc (And.left hHeld) _)) (fun hHeld => ?_)
  clear hK K
  (try simp only [Act.put, List.setIfInBounds_toArray, List.set_cons_zero, List.set_cons_succ])
  refine wpAnyH_ready (rs := [13]) (by kernel_rfl) (by simp) ?_
  refine AllReadyH.cons (o := { dst := some 64, op := Op.call { callee := Callee.value (Operand.func 24), args := #[Operand.tmp 63], argTypes := #[86] }, type := 4, pos := "outright.go:22", after := #[{ on := 12, ground := Ground.data }, { on := 8, ground := Ground.chain }, { on := 8, ground := Ground.guard }], guard := some (8, false) }) rfl (fun K hK => ?_) AllReadyH.nil
  go_simp
  ((with_reducible refine (right1_yes _ _ HSZ.out HE.out.1).mono ?_); rintro e w9 ⟨rfl, hb9⟩)
  refine hK.out _ _ ((fun q => And.intro q (And.intro (QB.at q HC.out.1) (QB.at q HC.out.2))) (QB.below hH3 hb9 (Nat.le_refl _))) (fun hHeld => ?_)
  clear hK K
  (try simp only [Act.put, List.setIfInBounds_toArray, List.set_cons_zero, List.set_cons_succ])
  refine wpAnyH_take (i := 14) (oi := { dst := some 65, op := Op.unOp UnOp.not 4 (Operand.tmp 64), type := 4, pos := "outright.go:22", after := #[{ on := 13, ground := Ground.data }, { on := 8, ground := Ground.guard }], guard := some (8, false) }) (v := ?_) rfl (by kernel_rfl) (by kernel_rfl) (by kernel_rfl) (fun _ _ _ h => h) (Or.inl ⟨by rfl, ?_⟩) (by assumption) ?_
  rotate_left
  · (intro ww hSw; (try dsimp only at hSw); go_simp; try with_reducible rfl)
  (try simp only [Act.put, List.setIfInBounds_toArray, List.set_cons_zero, List.set_cons_succ])
  refine wpAnyH_take (i := 15) (oi := { dst := some 66, op := Op.pick (Operand.tmp 59) (Operand.const (Value.bool true)) (Operand.tmp 65), type := 4, pos := "outright.go:22", after := #[{ on := 8, ground := Ground.data }, { on := 14, ground := Ground.data }], guard := none }) (v := ?_) rfl (by kernel_rfl) (by kernel_rfl) (by kernel_rfl) (fun _ _ _ h => h) (Or.inl ⟨by rfl, ?_⟩) (by assumption) ?_
  rotate_left
  · (intro ww hSw; (try dsimp only at hSw); go_simp; try with_reducible rfl)
  (try simp only [Act.put, List.setIfInBounds_toArray, List.set_cons_zero, List.set_cons_succ])
  refine wpAnyH_take (i := 16) (oi := { dst := some 67, op := Op.move (Operand.tmp 66), type := 4, pos := "outright.go:22", after := #[{ on := 15, ground := Ground.data }, { on := 13, ground := Ground.chain }], guard := none }) (v := ?_) rfl (by kernel_rfl) (by kernel_rfl) (by kernel_rfl) (fun _ _ _ h => h) (Or.inl ⟨by rfl, ?_⟩) (by assumption) ?_
  rotate_left
  · (intro ww hSw; (try dsimp only at hSw); go_simp; try with_reducible rfl)
  (try simp only [Act.put, List.setIfInBounds_toArray, List.set_cons_zero, List.set_cons_succ])
  refine wpAnyH_take (i := 17) (oi := { dst := some 68, op := Op.move (Operand.tmp 9), type := 9, pos := "outright.go:22", after := #[{ on := 16, ground := Ground.guard }], guard := some (16, false) }) (v := ?_) rfl (by kernel_rfl) (by kernel_rfl) (by kernel_rfl) (fun _ _ _ h => h) (Or.inl ⟨by rfl, ?_⟩) (by assumption) ?_
  rotate_left
  · (intro ww hSw; (try dsimp only at hSw); go_simp; try with_reducible rfl)
  (try simp only [Act.put, List.setIfInBounds_toArray, List.set_cons_zero, List.set_cons_succ])
  refine wpAnyH_take (i := 18) (oi := { dst := some 69, op := Op.move (Operand.tmp 11), type := 3, pos := "outright.go:22", after := #[{ on := 16, ground := Ground.guard }], guard := some (16, false) }) (v := ?_) rfl (by kernel_rfl) (by kernel_rfl) (by kernel_rfl) (fun _ _ _ h => h) (Or.inl ⟨by rfl, ?_⟩) (by assumption) ?_
  rotate_left
  · (intro ww hSw; (try dsimp only at hSw); go_simp; try with_reducible rfl)
  (try simp only [Act.put, List.setIfInBounds_toArray, List.set_cons_zero, List.set_cons_succ])
  refine wpAnyH_take (i := 19) (oi := { dst := some 70, op := Op.slice 9 (Operand.tmp 68) (some (Operand.tmp 69)) none none, type := 9, pos := "outright.go:22", after := #[{ on := 17, ground := Ground.data }, { on := 18, ground := Ground.data }, { on := 16, ground := Ground.guard }], guard := some (16, false) }) (v := ?_) rfl (by kernel_rfl) (by kernel_rfl) (by kernel_rfl) (fun _ _ _ h => h) (Or.inl ⟨by rfl, ?_⟩) (by assumption) ?_
  rotate_left
  · (intro ww hSw; (try dsimp only at hSw); go_simp; try with_reducible rfl)
  (try simp only [Act.put, List.setIfInBounds_toArray, List.set_cons_zero, List.set_cons_succ])
  refine wpAnyH_take (i := 20) (oi := { dst := some 71, op := Op.fieldAddr 29 (Operand.tmp 4) 10, type := 0, pos := "outright.go:22", after := #[{ on := 16, ground := Ground.guard }], guard := some (16, false) }) (v := ?_) rfl (by kernel_rfl) (by kernel_rfl) (by kernel_rfl) (fun _ _ _ h => h) (Or.inl ⟨by rfl, ?_⟩) (by assumption) ?_
  rotate_left
  · (intro ww hSw; (try dsimp only at hSw); go_simp; try with_reducible rfl)
  (try simp only [Act.put, List.setIfInBounds_toArray, List.set_cons_zero, List.set_cons_succ])
  refine wpAnyH_take (i := 21) (oi := { dst := some 72, op := Op.load 9 (Operand.tmp 71), type := 9, pos := "outright.go:22", after := #[{ on := 20, ground := Ground.data }, { on := 16, ground := Ground.guard }], guard := some (16, false) }) (v := ?_) rfl (by kernel_rfl) (by kernel_rfl) (by kernel_rfl) (fun _ _ _ h => h) (Or.inl ⟨by rfl, ?_⟩) (by assumption) ?_
  rotate_left
  · (intro ww hSw; (try dsimp only at hSw); go_simp; try with_reducible rfl)
  (try simp only [Act.put, List.setIfInBounds_toArray, List.set_cons_zero, List.set_cons_succ])
  refine wpAnyH_take (i := 22) (oi := { dst := some 73, op := Op.binOp BinOp.neq 9 (Operand.tmp 70) (Operand.tmp 72) 9, type := 4, pos := "outright.go:22", after := #[{ on := 19, ground := Ground.data }, { on := 21, ground := Ground.data }, { on := 16, ground := Ground.guard }], guard := some (16, false) }) (v := ?_) rfl (by kernel_rfl) (by kernel_rfl) (by kernel_rfl) (fun _ _ _ h => h) (Or.inl ⟨by rfl, ?_⟩) (by assumption) ?_
  rotate_left
  · (intro ww hSw; (try dsimp only at hSw); go_simp; try with_reducible rfl)
  (try simp only [Act.put, List.setIfInBounds_toArray, List.set_cons_zero, List.set_cons_succ])
  refine wpAnyH_take (i := 23) (oi := { dst := some 74, op := Op.pick (Operand.tmp 67) (Operand.const (Value.bool true)) (Operand.tmp 73), type := 4, pos := "outright.go:22", after := #[{ on := 16, ground := Ground.data }, { on := 22, ground := Ground.data }], guard := none }) (v := ?_) rfl (by kernel_rfl) (by kernel_rfl) (by kernel_rfl) (fun _ _ _ h => h) (Or.inl ⟨by rfl, ?_⟩) (by assumption) ?_
  rotate_left
  · (intro ww hSw; (try dsimp only at hSw); go_simp; try with_reducible rfl)
  (try simp only [Act.put, List.setIfInBounds_toArray, List.set_cons_zero, List.set_cons_succ])
  refine wpAnyH_take (i := 24) (oi := { dst := some 75, op := Op.move (Operand.tmp 74), type := 4, pos := "outright.go:22", after := #[{ on := 23, ground := Ground.data }, { on := 16, ground := Ground.chain }], guard := none }) (v := ?_) rfl (by kernel_rfl) (by kernel_rfl) (by kernel_rfl) (fun _ _ _ h => h) (Or.inl ⟨by rfl, ?_⟩) (by assumption) ?_
  rotate_left
  · (intro ww hSw; (try dsimp only at hSw); go_simp; try with_reducible rfl)
  (try simp only [Act.put, List.setIfInBounds_toArray, List.set_cons_zero, List.set_cons_succ])
  refine wpAnyH_take (i := 25) (oi := { dst := some 76, op := Op.move (Operand.tmp 9), type := 9, pos := "outright.go:22", after := #[{ on := 24, ground := Ground.guard }], guard := some (24, false) }) (v := ?_) rfl (by kernel_rfl) (by kernel_rfl) (by kernel_rfl) (fun _ _ _ h => h) (Or.inl ⟨by rfl, ?_⟩) (by assumption) ?_
  rotate_left
  · (intro ww hSw; (try dsimp only at hSw); go_simp; try with_reducible rfl)
  (try simp only [Act.put, List.setIfInBounds_toArray, List.set_cons_zero, List.set_cons_succ])
  refine wpAnyH_take (i := 26) (oi := { dst := some 77, op := Op.move (Operand.tmp 11), type := 3, pos := "outright.go:22", after := #[{ on := 24, ground := Ground.guard }], guard := some (24, false) }) (v := ?_) rfl (by kernel_rfl) (by kernel_rfl) (by kernel_rfl) (fun _ _ _ h => h) (Or.inl ⟨by rfl, ?_⟩) (by assumption) ?_
  rotate_left
  · (intro ww hSw; (try dsimp only at hSw); go_simp; try with_reducible rfl)
  (try simp only [Act.put, List.setIfInBounds_toArray, List.set_cons_zero, List.set_cons_succ])
  refine wpAnyH_take (i := 27) (oi := { dst := some 78, op := Op.slice 9 (Operand.tmp 76) (some (Operand.const (Value.int IntKind.i64 20))) (some (Operand.tmp 77)) none, type := 9, pos := "outright.go:22", after := #[{ on := 25, ground := Ground.data }, { on := 26, ground := Ground.data }, { on := 24, ground := Ground.guard }], guard := some (24, false) }) (v := ?_) rfl (by kernel_rfl) (by kernel_rfl) (by kernel_rfl) (fun _ _ _ h => h) (Or.inl ⟨by rfl, ?_⟩) (by assumption) ?_
  rotate_left
  · (intro ww hSw; (try dsimp only at hSw); go_simp; try with_reducible rfl)
  (try simp only [Act.put, List.setIfInBounds_toArray, List.set_cons_zero, List.set_cons_succ])
  refine wpAnyH_take (i := 28) (oi := { dst := some 79, op := Op.fieldAddr 29 (Operand.tmp 4) 9, type := 0, pos := "outright.go:22", after := #[{ on := 24, ground := Ground.guard }], guard := some (24, false) }) (v := ?_) rfl (by kernel_rfl) (by kernel_rfl) (by kernel_rfl) (fun _ _ _ h => h) (Or.inl ⟨by rfl, ?_⟩) (by assumption) ?_
  rotate_left
  · (intro ww hSw; (try dsimp only at hSw); go_simp; try with_reducible rfl)
  (try simp only [Act.put, List.setIfInBounds_toArray, List.set_cons_zero, List.set_cons_succ])
  refine wpAnyH_take (i := 29) (oi := { dst := some 80, op := Op.load 9 (Operand.tmp 79), type := 9, pos := "outright.go:22", after := #[{ on := 28, ground := Ground.data }, { on := 24, ground := Ground.guard }], guard := some (24, false) }) (v := ?_) rfl (by kernel_rfl) (by kernel_rfl) (by kernel_rfl) (fun _ _ _ h => h) (Or.inl ⟨by rfl, ?_⟩) (by assumption) ?_
  rotate_left
  · (intro ww hSw; (try dsimp only at hSw); go_simp; try with_reducible rfl)
  (try simp only [Act.put, List.setIfInBounds_toArray, List.set_cons_zero, List.set_cons_succ])
  refine wpAnyH_take (i := 30) (oi := { dst := some 81, op := Op.binOp BinOp.neq 9 (Operand.tmp 78) (Operand.tmp 80) 9, type := 4, pos := "outright.go:22", after := #[{ on := 27, ground := Ground.data }, { on := 29, ground := Ground.data }, { on := 24, ground := Ground.guard }], guard := some (24, false) }) (v := ?_) rfl (by kernel_rfl) (by kernel_rfl) (by kernel_rfl) (fun _ _ _ h => h) (Or.inl ⟨by rfl, ?_⟩) (by assumption) ?_
  rotate_left
  · (intro ww hSw; (try dsimp only at hSw); go_simp; try with_reducible rfl)
  (try simp only [Act.put, List.setIfInBounds_toArray, List.set_cons_zero, List.set_cons_succ])
  refine wpAnyH_take (i := 31) (oi := { dst := some 82, op := Op.pick (Operand.tmp 75) (Operand.const (Value.bool true)) (Operand.tmp 81), type := 4, pos := "outright.go:22", after := #[{ on := 24, ground := Ground.data }, { on := 30, ground := Ground.data }], guard := none }) (v := ?_) rfl (by kernel_rfl) (by kernel_rfl) (by kernel_rfl) (fun _ _ _ h => h) (Or.inl ⟨by rfl, ?_⟩) (by assumption) ?_
  rotate_left
  · (intro ww hSw; (try dsimp only at hSw); go_simp; try with_reducible rfl)
  (try simp only [Act.put, List.setIfInBounds_toArray, List.set_cons_zero, List.set_cons_succ])
  refine wpAnyH_done (by kernel_rfl) ?_ _
  refine NoPanic.normal ?_
  have HQw9 := Lib.hid (And.left hHeld)
  clear hHeld hH3 hQ2 c15 c16 e2 e3 k7 k8 y1 y2 y3
  have zc := cat_len
  have zo : ¬ 9223372036854775807 < X.size + s.size := by have := HX.out.2.2.1; omega
  go_wp2_with fail
  clear zc zo
  refine (HPs.out _).mono ?_
  rintro e w10 ⟨rfl, bb⟩
  have HQw10 := Lib.hid (HQw9.out.below bb (Nat.le_refl _))
  clear bb HQw9
  have ht : (w10.alloc (.cells #[.int .i64 0, .int .i64 0, .int .i64 0, .int .i64 0, .int .i64 0, .bool false, .bool false, .int .u8 0, .int .u8 0, .int .u8 0, .int .u8 0, .int .u8 0, .int .u8 0, .int .u8 0, .int .u8 0, .string ⟨#[]⟩, .string ⟨#[]⟩] 29)).there w10.heap.size 0 V.toArray.size := by rw [HSV.out]; exact (bk_new w10 29 #[.int .i64 0, .int .i64 0, .int .i64 0, .int .i64 0, .int .i64 0, .bool false, .bool false, .int .u8 0, .int .u8 0, .int .u8 0, .int .u8 0, .int .u8 0, .int .u8 0, .int .u8 0, .int .u8 0, .string ⟨#[]⟩, .string ⟨#[]⟩]).there 17 (Nat.le_refl _)
  go_upto_region 12 with (refine wpList_store_mid rfl 29 _ _ rfl w10.heap.size 0 V.toArray rfl rfl ht HIV.out HOV.out ?_)
  have HQw11 := Lib.hid ((HQw10.out.alloc (.cells #[.int .i64 0, .int .i64 0, .int .i64 0, .int .i64 0, .int .i64 0, .bool false, .bool false, .int .u8 0, .int .u8 0, .int .u8 0, .int .u8 0, .int .u8 0, .int .u8 0, .int .u8 0, .int .u8 0, .string ⟨#[]⟩, .string ⟨#[]⟩] 29)).sets (c := w10.heap.size) (Nat.ne_of_lt HQw10.out.1.lt) HQw10.out.2.2 0 V)
  have hK := Bk.sets V 0 _ _ (show Bk _ w10.heap.size 29 pkt0.vals.toArray from bk_new w10 29 #[.int .i64 0, .int .i64 0, .int .i64 0, .int .i64 0, .int .i64 0, .bool false, .bool false, .int .u8 0, .int .u8 0, .int .u8 0, .int .u8 0, .int .u8 0, .int .u8 0, .int .u8 0, .int .u8 0, .string ⟨#[]⟩, .string ⟨#[]⟩])
  rw [HPV.out] at hK
  have HK12 := Lib.hid hK
  clear hK
  clear ht HQw10
  generalize (w10.alloc (.cells #[.int .i64 0, .int .i64 0, .int .i64 0, .int .i64 0, .int .i64 0, .bool false, .bool false, .int .u8 0, .int .u8 0, .int .u8 0, .int .u8 0, .int .u8 0, .int .u8 0, .int .u8 0, .int .u8 0, .string ⟨#[]⟩, .string ⟨#[]⟩] 29)).setCells w10.heap.size 0 V = w11 at *
  have hM : (X.size : Int) - 1 = ((X.size - 1 : Nat) : Int) := by have := HX.out; omega
  have hM2 : ((X.size - 1 : Nat) : Int) ≤ (X.size : Int) := by omega
  have hM3 : X.size - 1 < X.size := by have := HX.out; omega
  have hM4 : X.size - 1 ≤ 65535 := by have := HX.out; omega
  generalize X.size - 1 = M at *
  go_wp2_with fail
  with_reducible refine (HPa.out M _ hM3).mono ?_
  rintro e w12 ⟨fb, rfl, hfl, hfb, bb⟩
  have HQw12 := Lib.hid (HQw11.out.below bb (Nat.le_refl _))
  have HK12' := Lib.hid (HK12.out.below bb HK12.out.lt)
  clear bb hfl hfb HQw11 HK12 hM hM2 hM3 hM4
  have ht : (w12.alloc (.cells #[.int .i64 0, .int .i64 0, .int .i64 0, .int .i64 0, .int .i64 0, .bool false, .bool false, .int .u8 0, .int .u8 0, .int .u8 0, .int .u8 0, .int .u8 0, .int .u8 0, .int .u8 0, .int .u8 0, .string ⟨#[]⟩, .string ⟨#[]⟩] 29)).there w12.heap.size 0 VZ.toArray.size := by rw [HSVZ.out]; exact (bk_new w12 29 #[.int .i64 0, .int .i64 0, .int .i64 0, .int .i64 0, .int .i64 0, .bool false, .bool false, .int .u8 0, .int .u8 0, .int .u8 0, .int .u8 0, .int .u8 0, .int .u8 0, .int .u8 0, .int .u8 0, .string ⟨#[]⟩, .string ⟨#[]⟩]).there 17 (Nat.le_refl _)
  go_upto_region 13 with (refine wpList_store_mid rfl 29 _ _ rfl w12.heap.size 0 VZ.toArray rfl rfl ht HIVZ.out HOVZ.out ?_)
  have HQw13 := Lib.hid ((HQw12.out.alloc (.cells #[.int .i64 0, .int .i64 0, .int .i64 0, .int .i64 0, .int .i64 0, .bool false, .bool false, .int .u8 0, .int .u8 0, .int .u8 0, .int .u8 0, .int .u8 0, .int .u8 0, .int .u8 0, .int .u8 0, .string ⟨#[]⟩, .string ⟨#[]⟩] 29)).sets (c := w12.heap.size) (Nat.ne_of_lt HQw12.out.1.lt) HQw12.out.2.2 0 VZ)
  have HK12 := Lib.hid ((HK12'.out.alloc (.cells #[.int .i64 0, .int .i64 0, .int .i64 0, .int .i64 0, .int .i64 0, .bool false, .bool false, .int .u8 0, .int .u8 0, .int .u8 0, .int .u8 0, .int .u8 0, .int .u8 0, .int .u8 0, .int .u8 0, .string ⟨#[]⟩, .string ⟨#[]⟩] 29)).sets_other (b := w12.heap.size) (Nat.ne_of_lt HK12'.out.lt) 0 VZ)
  clear ht HQw12 HK12'
  generalize (w12.alloc (.cells #[.int .i64 0, .int .i64 0, .int .i64 0, .int .i64 0, .int .i64 0, .bool false, .bool false, .int .u8 0, .int .u8 0, .int .u8 0, .int .u8 0, .int .u8 0, .int .u8 0, .int .u8 0, .int .u8 0, .string ⟨#[]⟩, .string ⟨#[]⟩] 29)).setCells w12.heap.size 0 VZ = w13 at *
  obtain ⟨g, cap2, w14, hconv, hrow, hb8⟩ := bytes_new X w13
  have HQw14 := Lib.hid (HQw13.out.below hb8 (Nat.le_refl _))
  have HK12' := Lib.hid (HK12.out.below hb8 HK12.out.lt)
  have HRow := Lib.hid hrow
  have HG4 := Lib.hid (Nat.ne_of_lt (Nat.lt_of_lt_of_le HQw13.out.1.lt hrow.2))
  have HG12 := Lib.hid (Nat.ne_of_lt (Nat.lt_of_lt_of_le HK12.out.lt hrow.2))
  have HGB2 := Lib.hid (Nat.le_trans HQw13.out.2.2 hrow.2)
  clear hrow hb8 HK12 HQw13
  obtain ⟨hK', hr', hKN, _⟩ := HKR.out
  have hcell : w14.cell? ⟨g, K, none⟩ = some (.int .u8 (X[K].toNat : Int)) := (HRow.out.1 K (by simpa using hKX)).1
  have hfz := (HRow.out.1 K (by simpa using hKX)).2
  have hy := HY.out
  have hN0 : 0 < N := by have := HX.out; omega
  have hm8 := HM8.out
  obtain ⟨m, hm⟩ : ∃ m : Nat, 2 ^ r = m := ⟨_, rfl⟩
  rw [hm] at hy hm8
  have hsh : IntKind.u8.wrap ((2 : Int) ^ r) = (m : Int) := by
    rw [show ((2 : Int) ^ r) = ((2 ^ r : Nat) : Int) by simp, hm]
    show (m : Int) % 256 = _
    omega
  clear hm
  go_upto_region 16 with (fail)
  clear hsh hy hcell hfz hconv
  have hback : (convert 45 9 (.slice (some ⟨g, 0, none⟩) X.size cap2)).run Try.prog (w14.setCell ⟨g, K, none⟩ (.int .u8 (y.toNat : Int))) = .ok (.string T) (w14.setCell ⟨g, K, none⟩ (.int .u8 (y.toNat : Int))) := by
    rw [HTB.out]
    exact byt_back cap2 HRow.out.1 (by simpa using hKX) y X.size (by simp)
  have HQw15 := Lib.hid (HQw14.out.set (c := g) HG4.out HGB2.out K (.int .u8 (y.toNat : Int)))
  have HK12 := Lib.hid (HK12'.out.set_other HG12.out K (.int .u8 (y.toNat : Int)))
  clear HQw14 HK12' HRow HG4 HG12 HGB2
  generalize w14.setCell ⟨g, K, none⟩ (.int .u8 (y.toNat : Int)) = w15 at *
  go_wp2_with fail
  clear hback
  refine (HPt.out _).mono ?_
  rintro e w16 ⟨pq, xx, rfl, bb⟩
  have HQw16 := Lib.hid (HQw15.out.below bb (Nat.le_refl _))
  have HK12' := Lib.hid (HK12.out.below bb HK12.out.lt)
  clear bb HQw15 HK12
  obtain ⟨VX, hVX⟩ : ∃ V, V = (pq).vals := ⟨_, rfl⟩
  have HIVX : Hid ((Try.prog.info? 29).map (·.size) = some VX.length) := Lib.hid (by rw [hVX]; exact Try.infoIp (pq))
  have HOVX : Hid (VX.toArray.all (·.oneCell') = true) := Lib.hid (by rw [hVX]; exact vals_one (pq))
  have HPVX : Hid (∀ q : Pkt, puts q.vals.toArray 0 VX = VX.toArray) := Lib.hid (fun q => by rw [hVX]; exact puts_all q (pq))
  have HSVX : Hid (VX.toArray.size = 17) := Lib.hid (by rw [hVX]; rfl)
  rw [← hVX]
  clear hVX
  have ht : (w16.alloc (.cells #[.int .i64 0, .int .i64 0, .int .i64 0, .int .i64 0, .int .i64 0, .bool false, .bool false, .int .u8 0, .int .u8 0, .int .u8 0, .int .u8 0, .int .u8 0, .int .u8 0, .int .u8 0, .int .u8 0, .string ⟨#[]⟩, .string ⟨#[]⟩] 29)).there w16.heap.size 0 VX.toArray.size := by rw [HSVX.out]; exact (bk_new w16 29 #[.int .i64 0, .int .i64 0, .int .i64 0, .int .i64 0, .int .i64 0, .bool false, .bool false, .int .u8 0, .int .u8 0, .int .u8 0, .int .u8 0, .int .u8 0, .int .u8 0, .int .u8 0, .int .u8 0, .string ⟨#[]⟩, .string ⟨#[]⟩]).there 17 (Nat.le_refl _)
  go_upto_region 17 with (refine wpList_store_mid rfl 29 _ _ rfl w16.heap.size 0 VX.toArray rfl rfl ht HIVX.out HOVX.out ?_)
  have HQw17 := Lib.hid ((HQw16.out.alloc (.cells #[.int .i64 0, .int .i64 0, .int .i64 0, .int .i64 0, .int .i64 0, .bool false, .bool false, .int .u8 0, .int .u8 0, .int .u8 0, .int .u8 0, .int .u8 0, .int .u8 0, .int .u8 0, .int .u8 0, .string ⟨#[]⟩, .string ⟨#[]⟩] 29)).sets (c := w16.heap.size) (Nat.ne_of_lt HQw16.out.1.lt) HQw16.out.2.2 0 VX)
  have HK12 := Lib.hid ((HK12'.out.alloc (.cells #[.int .i64 0, .int .i64 0, .int .i64 0, .int .i64 0, .int .i64 0, .bool false, .bool false, .int .u8 0, .int .u8 0, .int .u8 0, .int .u8 0, .int .u8 0, .int .u8 0, .int .u8 0, .int .u8 0, .string ⟨#[]⟩, .string ⟨#[]⟩] 29)).sets_other (b := w16.heap.size) (Nat.ne_of_lt HK12'.out.lt) 0 VX)
  have hK := Bk.sets VX 0 _ _ (show Bk _ w16.heap.size 29 pkt0.vals.toArray from bk_new w16 29 #[.int .i64 0, .int .i64 0, .int .i64 0, .int .i64 0, .int .i64 0, .bool false, .bool false, .int .u8 0, .int .u8 0, .int .u8 0, .int .u8 0, .int .u8 0, .int .u8 0, .int .u8 0, .int .u8 0, .string ⟨#[]⟩, .string ⟨#[]⟩])
  rw [HPVX.out] at hK
  have HK18 := Lib.hid hK
  clear hK
  clear ht HQw16 HK12'
  generalize (w16.alloc (.cells #[.int .i64 0, .int .i64 0, .int .i64 0, .int .i64 0, .int .i64 0, .bool false, .bool false, .int .u8 0, .int .u8 0, .int .u8 0, .int .u8 0, .int .u8 0, .int .u8 0, .int .u8 0, .int .u8 0, .string ⟨#[]⟩, .string ⟨#[]⟩] 29)).setCells w16.heap.size 0 VX = w17 at *
  have hr4 : w17.rangeAt b4 0 V := HQw17.out.1.range
  have hr12 : w17.rangeAt w10.heap.size 0 V := HK12.out.range
  have hr18 : w17.rangeAt w16.heap.size 0 VX := HK18.out.range
  have heq := HEV.out
  have hez := HEVZ.out
  have hgu := Try.guardIp
  have k0 : ((K : Int) == 0) = true := by rw [HL.out.1]; rfl
  have k4 : decide ((r : Int) < 4) = true := by have := HL.out.2; simp; omega
  go_wp2_with (first | (refine wpList_load_if (by rfl) 29 _ rfl b4 0 rfl V _ hr4 Try.underlying29 rfl HIV.out ?_) | (refine wpList_load_if (by rfl) 29 _ rfl w10.heap.size 0 rfl V _ hr12 Try.underlying29 rfl HIV.out ?_) | (refine wpList_load_if (by rfl) 29 _ rfl w16.heap.size 0 rfl VX _ hr18 Try.underlying29 rfl HIVX.out ?_) | (refine wpList_exec_if (op := ⟨_, .build 29 #[], _, _, _, _⟩) (by rfl) (.agg VZ.toArray) (HBD.out _ _ _ _ _ _ _) ?_))
  clear hr4 hr12 hr18 heq hez hgu
  go_ret
  rw [HGB.out]
  exact ⟨rfl, HBd.out ▸ HQw17.out.2.1⟩
theorem ip4Back_any (p : Pkt) (s : ByteArray) (at_ bit : Int) (w : World) (ha : p.byt) (h1 : (Lit.int .u8 at_).wf = true) (h2 : (Lit.int .u8 bit).wf = true) :
    Calls Try.prog 8 #[.agg p.vals.toArray, .string s, .int .u8 at_, .int .u8 bit] w fun e w' => e = .returned (.bool true) ∧ Below w.heap.size w w' := by
  have g1 : 0 ≤ at_ ∧ at_ ≤ 255 := by simpa [Lit.wf, IntKind.min, IntKind.max, IntKind.signed, IntKind.bits] using h1
  have g2 : 0 ≤ bit ∧ bit ≤ 255 := by simpa [Lit.wf, IntKind.min, IntKind.max, IntKind.signed, IntKind.bits] using h2
  obtain ⟨c, rfl⟩ : ∃ c : Nat, at_ = c := ⟨at_.toNat, by omega⟩
  obtain ⟨d, rfl⟩ : ∃ d : Nat, bit = d := ⟨bit.toNat, by omega⟩
  by_cases hd : p.data.size ≤ 70000
  · by_cases ho : p.opts.size ≤ 1000
    · by_cases hs : s.size ≤ 1000
      · by_cases hw : p.why = 0
        · by_cases hk : c % (20 + p.opts.size) = 0 ∧ d % 8 < 4
          · exact ip4Back_long2 p s c d w hd ho hs hw ha (by omega) (by omega) hk.1 hk.2
          · exact ip4Back_told p s c d w hd ho hs hw ha (by omega) (by omega) (fun h0 => by
              rcases Nat.lt_or_ge (d % 8) 4 with h4 | h4
              · exact absurd ⟨h0, h4⟩ hk
              · exact h4)
        · exact ip4Back_none p s c d w hd ho hs hw
      · exact ip4Back_much p s c d w hd ho (by omega)
    · exact ip4Back_wide p s c d w hd (by omega)
  · exact ip4Back_long p s c d w (by omega)
end Go.Proofs.Ytjfkfeobmcnonaa
