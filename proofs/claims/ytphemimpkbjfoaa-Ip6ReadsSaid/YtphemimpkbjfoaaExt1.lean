/-
  Proved here: what ip6.isExt, ip6.inPlace, ip6.fault and ip6.extension do and answer.
  Conditions: the reader's block is whole; texts of at most 2^40 bytes.
-/
import Derived.Test.YtphemimpkbjfoaaLow
import Derived.Test.YtphemimpkbjfoaaRefChain
namespace Go.Proofs.Ytphemimpkbjfoaa
open Go.RowKit

theorem isExt_yes (n : Int) (h : isEx n) (w : World) : Calls Try.prog 26 #[.int .i64 n] w fun e w' => e = .returned (.bool true) ∧ w = w' := by
  rcases h with rfl | rfl | rfl
  all_goals
    go_enter Try.func26, Try.ntmps26
    go_wp2_with fail
    go_ret
    exact ⟨rfl, rfl⟩
theorem isExt_no (n : Int) (h : ¬ isEx n) (w : World) : Calls Try.prog 26 #[.int .i64 n] w fun e w' => e = .returned (.bool false) ∧ w = w' := by
  have k1 : (n == 0) = false := by rw [beq_eq_false_iff_ne]; exact fun hh => h (.inl hh)
  have k2 : (n == 43) = false := by rw [beq_eq_false_iff_ne]; exact fun hh => h (.inr (.inl hh))
  have k3 : (n == 60) = false := by rw [beq_eq_false_iff_ne]; exact fun hh => h (.inr (.inr hh))
  clear h
  go_enter Try.func26, Try.ntmps26
  go_wp2_with fail
  go_ret
  exact ⟨rfl, rfl⟩
theorem isExt_at (n : Int) (b : Bool) (h : decide (isEx n) = b) (w : World) : Calls Try.prog 26 #[.int .i64 n] w fun e w' => e = .returned (.bool b) ∧ w = w' := by
  subst h
  by_cases hx : isEx n
  · rw [decide_eq_true hx]; exact isExt_yes n hx w
  · rw [decide_eq_false hx]; exact isExt_no n hx w
/-- May an extension of a Kind have so many ahead of it? -/
def inPl (k a : Int) : Bool := k != 0 || a == 0
theorem inPlace_any (k a : Int) (w : World) : Calls Try.prog 44 #[.int .i64 k, .int .i64 a] w fun e w' => e = .returned (.bool (inPl k a)) ∧ w = w' := by
  unfold inPl
  cases h1 : (k != 0)
  · cases h2 : (a == 0)
    all_goals
      go_enter Try.func44, Try.ntmps44
      go_wp2_with fail
      go_ret
      exact ⟨rfl, rfl⟩
  · go_enter Try.func44, Try.ntmps44
    go_wp2_with fail
    go_ret
    exact ⟨rfl, rfl⟩
theorem fault_any (c : Int) (w : World) : Calls Try.prog 28 #[.int .i64 c] w fun e w' => e = .returned (.iface 83 (.pointer (some ⟨w.heap.size, 0, none⟩))) ∧ w' = w.alloc (.cells #[.int .i64 c, .int .i64 0] 86) := by
  go_enter Try.func28, Try.ntmps28
  go_wp2_with fail
  go_ret
  exact ⟨rfl, rfl⟩
/-- What extension answers. -/
def RExt (b : Nat) (k : Int) (t : ByteArray) (nx c : Int) (w : World) (e : Ending) (w' : World) : Prop :=
  e = .returned (.tuple #[.agg #[.int .i64 k, .string t], .int .i64 nx, .int .i64 c]) ∧ w.grownBy w' (some b)
theorem results_cell3 {P : Program} {fn : Func} {t u y : Tmp} {T : TypeId} {tmps : Array Value} {w : World} {b o : Nat} {v x z : Value} (h : fn.results = #[.cell t T, .tmp u, .tmp y]) (hv : tmps.getD t undef = .pointer (some ⟨b, o, none⟩)) (hx : tmps.getD u undef = x) (hz : tmps.getD y undef = z) (hl : (loadVar T ⟨b, o, none⟩).run P w = .ok v w) :
    (results fn tmps).run P w = .ok (.tuple #[v, x, z]) w := by
  have hv' : tmps[t]?.getD undef = .pointer (some ⟨b, o, none⟩) := by simpa using hv
  have hx' : tmps[u]?.getD undef = x := by simpa using hx
  have hz' : tmps[y]?.getD undef = z := by simpa using hz
  simp [results, h, hv', hx', hz', asAddr, hl]
theorem Try.sizeExt : (Try.prog.info? 40).map (·.size) = some 2 := by kernel_rfl
theorem loadExt {w : World} {b : Nat} {k : Int} {t : ByteArray} (h : Bk w b 40 [.int .i64 k, .string t].toArray) : (loadVar 40 ⟨b, 0, none⟩).run Try.prog w = .ok (.agg #[.int .i64 k, .string t]) w :=
  run_loadVar_mid _ b 0 40 [.int .i64 k, .string t] _ h.range Try.underlying40 rfl Try.sizeExt
theorem up_setNew {w w' : World} {r : Option Nat} {c : Nat} (h : w.grownBy w' r) (hc : w.heap.size ≤ c) (o : Nat) (v : Value) : w.grownBy (w'.setCell ⟨c, o, none⟩ v) r :=
  ⟨h.os, h.tape, h.output, by simpa [World.setCell] using h.size, fun k hk hn => (Below.heap_setCell _ _ _ _ (by show k ≠ c; omega)).trans (h.block k hk hn)⟩
theorem Bk.set2 {w : World} {b : Nat} {T : TypeId} {A : Array Value} (h : Bk w b T A) (hz : A.size = 2) (u v : Value) : Bk ((w.setCell ⟨b, 0, none⟩ u).setCell ⟨b, 1, none⟩ v) b T [u, v].toArray := by
  have h1 := (h.set 0 u).set 1 v
  have e : (A.setIfInBounds 0 u).setIfInBounds 1 v = [u, v].toArray := by
    obtain ⟨l⟩ := A
    match l, hz with
    | [x, y], _ => rfl
  rw [e] at h1
  exact h1
set_option maxRecDepth 100000 in
theorem ext_form (b : Nat) (k a : Int) (w : World) (h : inPl k a = false) :
    Calls Try.prog 27 #[.pointer (some ⟨b, 0, none⟩), .int .i64 k, .int .i64 a] w (RExt b 0 ⟨#[]⟩ 0 8 w) := by
  have HP : Hid (∀ W, Calls Try.prog 44 #[.int .i64 k, .int .i64 a] W fun e w' => e = .returned (.bool false) ∧ W = w') := Lib.hid (fun W => h ▸ inPlace_any k a W)
  clear h
  go_enter Try.func27, Try.ntmps27
  go_wp2_with fail
  refine (HP.out _).mono ?_
  rintro e w1 ⟨rfl, rfl⟩
  go_wp2_with fail
  refine bodyPost_ret (v := .tuple #[.agg #[.int .i64 0, .string ⟨#[]⟩], .int .i64 0, .int .i64 8]) ?_ rfl ?_
  · exact results_cell3 rfl rfl rfl rfl (loadExt (bk_new w 40 #[.int .i64 0, .string ⟨#[]⟩]))
  · exact ⟨rfl, up_alloc (up_refl _ _) _⟩
set_option maxRecDepth 100000 in
theorem ext_long (b : Nat) (k : Int) (w : World) (h : inPl k 8 = true) :
    Calls Try.prog 27 #[.pointer (some ⟨b, 0, none⟩), .int .i64 k, .int .i64 8] w (RExt b 0 ⟨#[]⟩ 0 3 w) := by
  have HP : Hid (∀ W, Calls Try.prog 44 #[.int .i64 k, .int .i64 8] W fun e w' => e = .returned (.bool true) ∧ W = w') := Lib.hid (fun W => h ▸ inPlace_any k 8 W)
  clear h
  go_enter Try.func27, Try.ntmps27
  go_wp2_with fail
  refine (HP.out _).mono ?_
  rintro e w1 ⟨rfl, rfl⟩
  go_wp2_with fail
  refine bodyPost_ret (v := .tuple #[.agg #[.int .i64 0, .string ⟨#[]⟩], .int .i64 0, .int .i64 3]) ?_ rfl ?_
  · exact results_cell3 rfl rfl rfl rfl (loadExt (bk_new w 40 #[.int .i64 0, .string ⟨#[]⟩]))
  · exact ⟨rfl, up_alloc (up_refl _ _) _⟩
/-- A reader's number of one byte, or its fault. -/
def U8Out (b : Nat) (s : ByteArray) (_p : Nat) (x : Nat) (p' : Nat) (c : Int) (w : World) (e : Ending) (w' : World) : Prop :=
  (∃ y, e = .returned (.tuple #[.int .i64 x, y])) ∧ Rd w' b s p' c ∧ w.grownBy w' (some b)
section
variable {w : World} {b : Nat} {s : ByteArray} {p : Nat}
theorem u8_ok (h : Rd w b s p 0) (hs : s.size ≤ 1099511627776) (hl : p < s.size) :
    Calls Try.prog 45 #[.pointer (some ⟨b, 0, none⟩)] w (U8Out b s p (byN s p) (p + 1) 0 w) := by
  refine (u8_of (some ⟨b, 0, none⟩) w (number_ok h (by unfold maxLen; omega) 1 (by omega) (by omega)) two_read).mono ?_
  rintro e w' ⟨rfl, h1, h2⟩
  have hn : numOf (s.extract p (p + 1)).data.toList = byN s p := by
    rw [ext_list, take_snoc s p hl, List.drop_left' (by simp; omega)]
    unfold numOf
    rw [byN_at s p hl]
    simp
  exact ⟨⟨.nilIface, by rw [hn]⟩, h1, h2⟩
theorem u8_end (h : Rd w b s s.size 0) (hs : s.size ≤ 1099511627776) :
    Calls Try.prog 45 #[.pointer (some ⟨b, 0, none⟩)] w (U8Out b s s.size 0 s.size 7 w) := by
  refine (u8_of (some ⟨b, 0, none⟩) w (number_told 1 (text_short h (Nat.le_refl _) (by unfold maxLen; omega) 1 (by omega) (by omega))) two_told).mono ?_
  rintro e w' ⟨rfl, h0, h1, h2⟩
  exact ⟨⟨_, rfl⟩, h1, h2⟩
theorem u8_had (h : Rd w b s p 7) :
    Calls Try.prog 45 #[.pointer (some ⟨b, 0, none⟩)] w (U8Out b s p 0 p 7 w) := by
  refine (u8_of (some ⟨b, 0, none⟩) w (number_told 1 (text_had h 1 rfl rfl)) two_told).mono ?_
  rintro e w' ⟨rfl, h0, h1, h2⟩
  exact ⟨⟨_, rfl⟩, h1, h2⟩
/-- A reader's text that is refused as too short. -/
def TextNo (b : Nat) (w : World) (e : Ending) (w' : World) : Prop :=
  (∃ f : Nat, e = .returned (.tuple #[.string ⟨#[]⟩, .iface 83 (.pointer (some ⟨f, 0, none⟩))])) ∧ w.grownBy w' (some b)
theorem text_no7 (h : Rd w b s p 7) (n : Int) :
    Calls Try.prog 46 #[.pointer (some ⟨b, 0, none⟩), .int .i64 n] w (TextNo b w) := by
  refine (text_had h n rfl rfl).mono ?_
  rintro e w' ⟨rfl, h0, h1, h2⟩
  exact ⟨⟨_, rfl⟩, h2⟩
theorem text_no (h : Rd w b s p 0) (hp : p ≤ s.size) (hs : s.size ≤ 1099511627776) (n : Int) (hn : 0 ≤ n) (hl : ((s.size - p : Nat) : Int) < n) :
    Calls Try.prog 46 #[.pointer (some ⟨b, 0, none⟩), .int .i64 n] w (TextNo b w) := by
  refine (text_short h hp (by unfold maxLen; omega) n hn hl).mono ?_
  rintro e w' ⟨rfl, h0, h1, h2⟩
  exact ⟨⟨_, rfl⟩, h2⟩
set_option maxRecDepth 100000 in
set_option maxHeartbeats 400000 in
/-- The walk of what is too short: two numbers, whatever they are, and a text that is refused. -/
theorem ext_refused (k a : Int) (hb : b < w.heap.size) (h : inPl k a = true) (ha : (a == 8) = false) (x y p1 p2 : Nat) (c1 c2 : Int) (hy : y < 256)
    (h1 : ∀ W, w.grownBy W (some b) → Rd W b s p 0 → Calls Try.prog 45 #[.pointer (some ⟨b, 0, none⟩)] W (U8Out b s p x p1 c1 W))
    (h2 : ∀ W, Rd W b s p1 c1 → Calls Try.prog 45 #[.pointer (some ⟨b, 0, none⟩)] W (U8Out b s p1 y p2 c2 W))
    (h3 : ∀ W, Rd W b s p2 c2 → Calls Try.prog 46 #[.pointer (some ⟨b, 0, none⟩), .int .i64 (6 + 8 * (y : Int))] W (TextNo b W)) (hR : Rd w b s p 0) :
    Calls Try.prog 27 #[.pointer (some ⟨b, 0, none⟩), .int .i64 k, .int .i64 a] w (RExt b 0 ⟨#[]⟩ 0 7 w) := by
  have HP : Hid (∀ W, Calls Try.prog 44 #[.int .i64 k, .int .i64 a] W fun e w' => e = .returned (.bool true) ∧ W = w') := Lib.hid (fun W => h ▸ inPlace_any k a W)
  have H1 := Lib.hid h1
  have H2 := Lib.hid h2
  have H3 := Lib.hid h3
  have HR := Lib.hid hR
  clear h h1 h2 h3 hR
  go_enter Try.func27, Try.ntmps27
  go_wp2_with fail
  refine (HP.out _).mono ?_
  rintro e w1 ⟨rfl, rfl⟩
  have HB := Lib.hid (bk_new w 40 #[.int .i64 0, .string ⟨#[]⟩])
  go_wp2_with fail
  refine (H1.out _ (up_alloc (up_refl _ _) _) (HR.out.alloc _)).mono ?_
  rintro e w1 ⟨⟨_, rfl⟩, r1, g1⟩
  have R1 := Lib.hid r1
  have G1 := Lib.hid (up_trans (up_alloc (up_refl w (some b)) _) g1)
  have B1 := Lib.hid (HB.out.grown g1 (by simp; omega))
  clear r1 g1 HB H1
  go_wp2_with fail
  refine (H2.out _ R1.out).mono ?_
  rintro e w2 ⟨⟨_, rfl⟩, r1, g1⟩
  have R2 := Lib.hid r1
  have G2 := Lib.hid (up_trans G1.out g1)
  have B2 := Lib.hid (B1.out.grown g1 (by simp; omega))
  clear r1 g1 B1 H2 R1
  go_wp2_with fail
  refine (H3.out _ R2.out).mono ?_
  rintro e w3 ⟨⟨_, rfl⟩, g1⟩
  have hB3 := B2.out.grown g1 (by simp; omega)
  have B3 := Lib.hid hB3
  have G3 := Lib.hid (up_trans G2.out g1)
  have c0 := hB3.c 0 _ rfl
  have c1 := hB3.c 1 _ rfl
  have z0 := hB3.z 0
  have z1 := hB3.z 1
  clear g1 B2 H3 R2 hB3
  go_wp2_with fail
  refine bodyPost_ret (v := .tuple #[.agg #[.int .i64 0, .string ⟨#[]⟩], .int .i64 0, .int .i64 7]) ?_ rfl ?_
  · exact results_cell3 rfl rfl rfl rfl (loadExt (B3.out.set2 rfl _ _))
  · exact ⟨rfl, up_setNew (up_setNew G3.out (Nat.le_refl _) _ _) (Nat.le_refl _) _ _⟩
/-- What extension does where there is one. -/
def OExt (b : Nat) (s : ByteArray) (k : Int) (t : ByteArray) (nx : Int) (p' : Nat) (w : World) (e : Ending) (w' : World) : Prop :=
  e = .returned (.tuple #[.agg #[.int .i64 k, .string t], .int .i64 nx, .int .i64 0]) ∧ Rd w' b s p' 0 ∧ w.grownBy w' (some b)
set_option maxRecDepth 100000 in
set_option maxHeartbeats 400000 in
theorem ext_read (k a : Int) (h : inPl k a = true) (ha : (a == 8) = false) (hs : s.size ≤ 1099511627776) (hR : Rd w b s p 0) (y : Nat) (hy : y < 256) (hye : byN s (p + 1) = y) (hz : p + (8 + 8 * y) ≤ s.size) :
    Calls Try.prog 27 #[.pointer (some ⟨b, 0, none⟩), .int .i64 k, .int .i64 a] w (OExt b s k (s.extract (p + 2) (p + (8 + 8 * y))) (byN s p) (p + (8 + 8 * y)) w) := by
  have HP : Hid (∀ W, Calls Try.prog 44 #[.int .i64 k, .int .i64 a] W fun e w' => e = .returned (.bool true) ∧ W = w') := Lib.hid (fun W => h ▸ inPlace_any k a W)
  have hlt := hR.lt
  have hx : byN s p < 256 := byN_lt s p
  have h1 : ∀ W, Rd W b s p 0 → Calls Try.prog 45 #[.pointer (some ⟨b, 0, none⟩)] W (U8Out b s p (byN s p) (p + 1) 0 W) := fun W hW => u8_ok hW hs (by omega)
  have h2 : ∀ W, Rd W b s (p + 1) 0 → Calls Try.prog 45 #[.pointer (some ⟨b, 0, none⟩)] W (U8Out b s (p + 1) y (p + 2) 0 W) := fun W hW => by
    have := u8_ok hW hs (by omega)
    rw [hye] at this
    exact this
  have h3 : ∀ W, Rd W b s (p + 2) 0 → Calls Try.prog 46 #[.pointer (some ⟨b, 0, none⟩), .int .i64 (6 + 8 * (y : Int))] W (Read b s (p + 2) (6 + 8 * y) (.string (s.extract (p + 2) (p + (8 + 8 * y)))) W) := fun W hW => by
    have := text_ok hW (by unfold maxLen; omega) (6 + 8 * y) (by omega)
    rw [show p + 2 + (6 + 8 * y) = p + (8 + 8 * y) by omega] at this
    rw [show (6 + 8 * (y : Int)) = ((6 + 8 * y : Nat) : Int) by omega]
    exact this
  have HE : Hid (p + 2 + (6 + 8 * y) = p + (8 + 8 * y)) := Lib.hid (by omega)
  have H1 := Lib.hid h1
  have H2 := Lib.hid h2
  have H3 := Lib.hid h3
  have HR := Lib.hid hR
  clear h h1 h2 h3 hR hye hz hs
  generalize byN s p = x at *
  generalize s.extract (p + 2) (p + (8 + 8 * y)) = t at *
  go_enter Try.func27, Try.ntmps27
  go_wp2_with fail
  refine (HP.out _).mono ?_
  rintro e w1 ⟨rfl, rfl⟩
  have HB := Lib.hid (bk_new w 40 #[.int .i64 0, .string ⟨#[]⟩])
  go_wp2_with fail
  refine (H1.out _ (HR.out.alloc _)).mono ?_
  rintro e w1 ⟨⟨_, rfl⟩, r1, g1⟩
  have R1 := Lib.hid r1
  have G1 := Lib.hid (up_trans (up_alloc (up_refl w (some b)) _) g1)
  have B1 := Lib.hid (HB.out.grown g1 (by simp; omega))
  clear r1 g1 HB H1
  go_wp2_with fail
  refine (H2.out _ R1.out).mono ?_
  rintro e w2 ⟨⟨_, rfl⟩, r1, g1⟩
  have R2 := Lib.hid r1
  have G2 := Lib.hid (up_trans G1.out g1)
  have B2 := Lib.hid (B1.out.grown g1 (by simp; omega))
  clear r1 g1 B1 H2 R1
  go_wp2_with fail
  refine (H3.out _ R2.out).mono ?_
  rintro e w3 ⟨rfl, r1, g1⟩
  rw [HE.out] at r1
  have hB3 := B2.out.grown g1 (by simp; omega)
  have B3 := Lib.hid hB3
  have R3 := Lib.hid r1
  have G3 := Lib.hid (up_trans G2.out g1)
  have c0 := hB3.c 0 _ rfl
  have c1 := hB3.c 1 _ rfl
  have z0 := hB3.z 0
  have z1 := hB3.z 1
  clear g1 B2 H3 R2 hB3 r1
  go_wp2_with fail
  refine bodyPost_ret (v := .tuple #[.agg #[.int .i64 k, .string t], .int .i64 x, .int .i64 0]) ?_ rfl ?_
  · exact results_cell3 rfl rfl rfl rfl (loadExt (B3.out.set2 rfl _ _))
  · have hne : b ≠ w.heap.size := by omega
    have q : ∀ (W : World) (o : Nat) (v : Value), Rd W b s (p + (8 + 8 * y)) 0 → Rd (W.setCell ⟨w.heap.size, o, none⟩ v) b s (p + (8 + 8 * y)) 0 := fun W o v hW => (Below.heap_setCell _ _ _ _ hne).trans hW
    exact ⟨rfl, q _ _ _ (q _ _ _ R3.out), up_setNew (up_setNew G3.out (Nat.le_refl _) _ _) (Nat.le_refl _) _ _⟩
theorem byN_ext (s : ByteArray) (p i : Nat) : byN (s.extract p s.size) i = byN s (p + i) := by
  unfold byN
  rw [ext_end, List.getD_eq_getElem?_getD, List.getD_eq_getElem?_getD, List.getElem?_drop]
theorem ext_size (s : ByteArray) (p : Nat) : (s.extract p s.size).size = s.size - p := by simp
/-- One of which not all bytes are there. -/
theorem ext_short (k a : Int) (hp : p ≤ s.size) (h : inPl k a = true) (ha : (a == 8) = false) (hs : s.size ≤ 1099511627776) (hR : Rd w b s p 0)
    (hz : (s.extract p s.size).size < 8 ∨ (s.extract p s.size).size < exN (s.extract p s.size)) :
    Calls Try.prog 27 #[.pointer (some ⟨b, 0, none⟩), .int .i64 k, .int .i64 a] w (RExt b 0 ⟨#[]⟩ 0 7 w) := by
  have hlt := hR.lt
  unfold exN at hz
  rw [byN_ext, ext_size] at hz
  by_cases h0 : p = s.size
  · subst h0
    exact ext_refused k a hlt h ha 0 0 s.size s.size 7 7 (by omega) (fun W _ hW => u8_end hW hs) (fun W hW => u8_had hW) (fun W hW => text_no7 hW _) hR
  · by_cases h1 : p + 1 = s.size
    · refine ext_refused k a hlt h ha (byN s p) 0 (p + 1) (p + 1) 0 7 (by omega) (fun W _ hW => u8_ok hW hs (by omega)) (fun W hW => ?_) (fun W hW => text_no7 hW _) hR
      rw [h1] at hW ⊢
      exact u8_end hW hs
    · exact ext_refused k a hlt h ha (byN s p) (byN s (p + 1)) (p + 1) (p + 2) 0 0 (byN_lt s (p + 1)) (fun W _ hW => u8_ok hW hs (by omega)) (fun W hW => u8_ok hW hs (by omega)) (fun W hW => text_no hW (by omega) hs _ (by omega) (by omega)) hR
/-- One that is there. -/
theorem ext_ok (k a : Int) (h : inPl k a = true) (ha : (a == 8) = false) (hs : s.size ≤ 1099511627776) (hR : Rd w b s p 0)
    (hz : ¬ ((s.extract p s.size).size < 8 ∨ (s.extract p s.size).size < exN (s.extract p s.size))) :
    Calls Try.prog 27 #[.pointer (some ⟨b, 0, none⟩), .int .i64 k, .int .i64 a] w (OExt b s k (s.extract (p + 2) (p + exN (s.extract p s.size))) (byN (s.extract p s.size) 0) (p + exN (s.extract p s.size)) w) := by
  unfold exN at hz ⊢
  rw [byN_ext, ext_size] at hz
  rw [byN_ext, byN_ext, Nat.add_zero]
  have := ext_read k a h ha hs hR (byN s (p + 1)) (byN_lt s _) rfl (by omega)
  rw [show 8 * (1 + byN s (p + 1)) = 8 + 8 * byN s (p + 1) by omega]
  exact this
end
end Go.Proofs.Ytphemimpkbjfoaa
