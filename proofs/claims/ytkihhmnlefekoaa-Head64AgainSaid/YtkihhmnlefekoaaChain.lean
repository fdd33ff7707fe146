/-
  Proved here: what the document's Chain answers.
  Conditions: a text of at most 70000 bytes.
  Proved here: what ip6.isExt, ip6.inPlace, ip6.fault and ip6.extension do and answer.
  Conditions: the reader's block is whole; texts of at most 2^40 bytes.
  Proved here: what ip6.Chain answers.
  Conditions: a text of at most 70000 bytes.
-/
import Derived.Test.YtkihhmnlefekoaaExts
import Derived.IntWalk
import Derived.Deep.AppendLies
import Derived.Test.YtkihhmnlefekoaaLow
namespace Go.Proofs.Ytkihhmnlefekoaa
open Go.RowKit

/-- A chain's end: its extensions, the protocol, what is left, and a code. -/
structure Chn where
  exts : List (Int × ByteArray)
  proto : Int
  rest : ByteArray
  code : Int
def bad (c : Int) : Chn := ⟨[], 0, ⟨#[]⟩, c⟩
/-- Byte i of a text. -/
def byN (s : ByteArray) (i : Nat) : Nat := (s.data.toList.getD i 0).toNat
theorem byN_lt (s : ByteArray) (i : Nat) : byN s i < 256 := UInt8.toNat_lt _
theorem byN_at (s : ByteArray) (i : Nat) (h : i < s.size) : byN s i = s[i].toNat := by
  unfold byN
  rw [byte_get s i h]
/-- How many bytes the extension has with which a text begins. -/
def exN (t : ByteArray) : Nat := 8 * (1 + byN t 1)
/-- Is a next an extension's? -/
def isEx (n : Int) : Prop := n = 0 ∨ n = 43 ∨ n = 60
instance (n : Int) : Decidable (isEx n) := by unfold isEx; exact inferInstance
/-- A chain, gone through from where it stands; f: how many steps there are at most. -/
def chn : Nat → List (Int × ByteArray) → Int → ByteArray → Chn
  | 0, _, _, _ => bad 3
  | f + 1, l, n, t =>
    if isEx n then
      if n = 0 ∧ l ≠ [] then bad 8
      else if l.length = 8 then bad 3
      else if t.size < 8 ∨ t.size < exN t then bad 7
      else chn f (l ++ [(n, t.extract 2 (exN t))]) (byN t 0) (t.extract (exN t) t.size)
    else ⟨l, n, t, 0⟩
def chnE (l : List (Int × ByteArray)) (n : Int) (t : ByteArray) : Chn := chn (9 - l.length) l n t
theorem chnE_end {l : List (Int × ByteArray)} {n : Int} (t : ByteArray) (hl : l.length ≤ 8) (h : ¬ isEx n) : chnE l n t = ⟨l, n, t, 0⟩ := by
  unfold chnE
  obtain ⟨f, hf⟩ : ∃ f, 9 - l.length = f + 1 := ⟨8 - l.length, by omega⟩
  rw [hf]
  unfold chn
  rw [if_neg h]
theorem chnE_form {l : List (Int × ByteArray)} {n : Int} (t : ByteArray) (hl : l.length ≤ 8) (h : isEx n) (h1 : n = 0 ∧ l ≠ []) : chnE l n t = bad 8 := by
  unfold chnE
  obtain ⟨f, hf⟩ : ∃ f, 9 - l.length = f + 1 := ⟨8 - l.length, by omega⟩
  rw [hf]
  unfold chn
  rw [if_pos h, if_pos h1]
theorem chnE_long {l : List (Int × ByteArray)} {n : Int} (t : ByteArray) (h : isEx n) (h1 : ¬ (n = 0 ∧ l ≠ [])) (h2 : l.length = 8) : chnE l n t = bad 3 := by
  unfold chnE
  rw [h2, show 9 - 8 = 0 + 1 from rfl]
  unfold chn
  rw [if_pos h, if_neg h1, if_pos h2]
theorem chnE_short {l : List (Int × ByteArray)} {n : Int} {t : ByteArray} (hl : l.length ≤ 8) (h : isEx n) (h1 : ¬ (n = 0 ∧ l ≠ [])) (h2 : l.length ≠ 8) (h3 : t.size < 8 ∨ t.size < exN t) : chnE l n t = bad 7 := by
  unfold chnE
  obtain ⟨f, hf⟩ : ∃ f, 9 - l.length = f + 1 := ⟨8 - l.length, by omega⟩
  rw [hf]
  unfold chn
  rw [if_pos h, if_neg h1, if_neg h2, if_pos h3]
theorem chnE_next {l : List (Int × ByteArray)} {n : Int} {t : ByteArray} (hl : l.length ≤ 8) (h : isEx n) (h1 : ¬ (n = 0 ∧ l ≠ [])) (h2 : l.length ≠ 8) (h3 : ¬ (t.size < 8 ∨ t.size < exN t)) :
    chnE l n t = chnE (l ++ [(n, t.extract 2 (exN t))]) (byN t 0) (t.extract (exN t) t.size) := by
  unfold chnE
  obtain ⟨f, hf⟩ : ∃ f, 9 - l.length = f + 1 := ⟨8 - l.length, by omega⟩
  rw [hf, List.length_append, List.length_singleton, show 9 - (l.length + 1) = f by omega]
  conv => lhs; unfold chn
  rw [if_pos h, if_neg h1, if_neg h2, if_neg h3]
/-- What the document's Chain leaves. -/
def RChn (R : Chn) (w : World) (e : Ending) (w' : World) : Prop :=
  ∃ v, e = .returned (.tuple #[v, .int .i64 R.proto, .string R.rest, .int .i64 R.code]) ∧ w'.ownsRow w.heap.size 38 2 v R.exts.length (extV R.exts) ∧ Below w.heap.size w w'
theorem own_nil (w : World) (base : Nat) (T : TypeId) : w.ownsRow base T 2 (.slice none 0 0) 0 [] := ⟨rfl, .inl ⟨rfl, rfl⟩⟩
theorem Try.infoExt : (Try.prog.info? 38).map (fun i => (i.zero, i.size, i.bytes)) = some (some (.agg #[.int .i64 0, .string ⟨#[]⟩]), 2, 24) := by kernel_rfl
/-- A value's text's size. -/
def szOf : Value → Nat
  | .string s => s.size
  | _ => 0
theorem isEx_of (n : Int) : isEx n ↔ (n == 0 || (n == 43 || n == 60)) = true := by
  unfold isEx
  simp

theorem isExt_yes (n : Int) (h : isEx n) (w : World) : Calls Try.prog 53 #[.int .i64 n] w fun e w' => e = .returned (.bool true) ∧ w = w' := by
  rcases h with rfl | rfl | rfl
  all_goals
    go_enter Try.func53, Try.ntmps53
    go_wp2_with fail
    go_ret
    exact ⟨rfl, rfl⟩
theorem isExt_no (n : Int) (h : ¬ isEx n) (w : World) : Calls Try.prog 53 #[.int .i64 n] w fun e w' => e = .returned (.bool false) ∧ w = w' := by
  have k1 : (n == 0) = false := by rw [beq_eq_false_iff_ne]; exact fun hh => h (.inl hh)
  have k2 : (n == 43) = false := by rw [beq_eq_false_iff_ne]; exact fun hh => h (.inr (.inl hh))
  have k3 : (n == 60) = false := by rw [beq_eq_false_iff_ne]; exact fun hh => h (.inr (.inr hh))
  clear h
  go_enter Try.func53, Try.ntmps53
  go_wp2_with fail
  go_ret
  exact ⟨rfl, rfl⟩
theorem isExt_at (n : Int) (b : Bool) (h : decide (isEx n) = b) (w : World) : Calls Try.prog 53 #[.int .i64 n] w fun e w' => e = .returned (.bool b) ∧ w = w' := by
  subst h
  by_cases hx : isEx n
  · rw [decide_eq_true hx]; exact isExt_yes n hx w
  · rw [decide_eq_false hx]; exact isExt_no n hx w
/-- May an extension of a Kind have so many ahead of it? -/
def inPl (k a : Int) : Bool := k != 0 || a == 0
theorem inPlace_any (k a : Int) (w : World) : Calls Try.prog 70 #[.int .i64 k, .int .i64 a] w fun e w' => e = .returned (.bool (inPl k a)) ∧ w = w' := by
  unfold inPl
  cases h1 : (k != 0)
  · cases h2 : (a == 0)
    all_goals
      go_enter Try.func70, Try.ntmps70
      go_wp2_with fail
      go_ret
      exact ⟨rfl, rfl⟩
  · go_enter Try.func70, Try.ntmps70
    go_wp2_with fail
    go_ret
    exact ⟨rfl, rfl⟩
theorem fault_any (c : Int) (w : World) : Calls Try.prog 35 #[.int .i64 c] w fun e w' => e = .returned (.iface 75 (.pointer (some ⟨w.heap.size, 0, none⟩))) ∧ w' = w.alloc (.cells #[.int .i64 c, .int .i64 0] 78) := by
  go_enter Try.func35, Try.ntmps35
  go_wp2_with fail
  go_ret
  exact ⟨rfl, rfl⟩
/-- What extension answers. -/
def RExt (b : Nat) (k : Int) (t : ByteArray) (nx c : Int) (w : World) (e : Ending) (w' : World) : Prop :=
  e = .returned (.tuple #[.agg #[.int .i64 k, .string t], .int .i64 nx, .int .i64 c]) ∧ w.grownBy w' (some b)
theorem results_cell3 {P : Program} {fn : Func} {t u y : Tmp} {T : TypeId} {tmps : Array Value} {w : World} {b o : Nat} {v x z : Value} (h : fn.results = #[.cell t T, .tmp u, .tmp y]) (hv : tmps.getD t undef = .pointer (some ⟨b, o, none⟩)) (hx : tmps.getD u undef = x) (hz : tmps.getD y undef = z) (hl : (loadVar T ⟨b, o, none⟩).run P w = .ok v w) :
    (results fn tmps).run P w = .ok (.tuple #[v, x, z]) w := by
  have hv' : tmps[t]?.getD undef = .pointer (some ⟨b, o, none⟩) := by simpa using hv
  have hx' : tmps[u]?.getD undef = x := by simpa using hx
  have hz' : tmps[y]?.getD undef = z := by simpa using hz
  simp [results, h, hv', hx', hz', asAddr, hl]
theorem Try.sizeExt : (Try.prog.info? 38).map (·.size) = some 2 := by kernel_rfl
theorem loadExt {w : World} {b : Nat} {k : Int} {t : ByteArray} (h : Bk w b 38 [.int .i64 k, .string t].toArray) : (loadVar 38 ⟨b, 0, none⟩).run Try.prog w = .ok (.agg #[.int .i64 k, .string t]) w :=
  run_loadVar_mid _ b 0 38 [.int .i64 k, .string t] _ h.range Try.underlying38 rfl Try.sizeExt
theorem up_setNew {w w' : World} {r : Option Nat} {c : Nat} (h : w.grownBy w' r) (hc : w.heap.size ≤ c) (o : Nat) (v : Value) : w.grownBy (w'.setCell ⟨c, o, none⟩ v) r :=
  ⟨h.os, h.tape, h.output, by simpa [World.setCell] using h.size, fun k hk hn => (Below.heap_setCell _ _ _ _ (by show k ≠ c; omega)).trans (h.block k hk hn)⟩
theorem Bk.set2 {w : World} {b : Nat} {T : TypeId} {A : Array Value} (h : Bk w b T A) (hz : A.size = 2) (u v : Value) : Bk ((w.setCell ⟨b, 0, none⟩ u).setCell ⟨b, 1, none⟩ v) b T [u, v].toArray := by
  have h1 := (h.set 0 u).set 1 v
  have e : (A.setIfInBounds 0 u).setIfInBounds 1 v = [u, v].toArray := by
    obtain ⟨l⟩ := A
    match l, hz with
    | [x, y], _ => rfl
  rw [e] at h1
  exact h1
set_option maxRecDepth 100000 in
theorem ext_form (b : Nat) (k a : Int) (w : World) (h : inPl k a = false) :
    Calls Try.prog 54 #[.pointer (some ⟨b, 0, none⟩), .int .i64 k, .int .i64 a] w (RExt b 0 ⟨#[]⟩ 0 8 w) := by
  have HP : Hid (∀ W, Calls Try.prog 70 #[.int .i64 k, .int .i64 a] W fun e w' => e = .returned (.bool false) ∧ W = w') := Lib.hid (fun W => h ▸ inPlace_any k a W)
  clear h
  go_enter Try.func54, Try.ntmps54
  go_wp2_with fail
  refine (HP.out _).mono ?_
  rintro e w1 ⟨rfl, rfl⟩
  go_wp2_with fail
  refine bodyPost_ret (v := .tuple #[.agg #[.int .i64 0, .string ⟨#[]⟩], .int .i64 0, .int .i64 8]) ?_ rfl ?_
  · exact results_cell3 rfl rfl rfl rfl (loadExt (bk_new w 38 #[.int .i64 0, .string ⟨#[]⟩]))
  · exact ⟨rfl, up_alloc (up_refl _ _) _⟩
set_option maxRecDepth 100000 in
theorem ext_long (b : Nat) (k : Int) (w : World) (h : inPl k 8 = true) :
    Calls Try.prog 54 #[.pointer (some ⟨b, 0, none⟩), .int .i64 k, .int .i64 8] w (RExt b 0 ⟨#[]⟩ 0 3 w) := by
  have HP : Hid (∀ W, Calls Try.prog 70 #[.int .i64 k, .int .i64 8] W fun e w' => e = .returned (.bool true) ∧ W = w') := Lib.hid (fun W => h ▸ inPlace_any k 8 W)
  clear h
  go_enter Try.func54, Try.ntmps54
  go_wp2_with fail
  refine (HP.out _).mono ?_
  rintro e w1 ⟨rfl, rfl⟩
  go_wp2_with fail
  refine bodyPost_ret (v := .tuple #[.agg #[.int .i64 0, .string ⟨#[]⟩], .int .i64 0, .int .i64 3]) ?_ rfl ?_
  · exact results_cell3 rfl rfl rfl rfl (loadExt (bk_new w 38 #[.int .i64 0, .string ⟨#[]⟩]))
  · exact ⟨rfl, up_alloc (up_refl _ _) _⟩
/-- A reader's number of one byte, or its fault. -/
def U8Out (b : Nat) (s : ByteArray) (_p : Nat) (x : Nat) (p' : Nat) (c : Int) (w : World) (e : Ending) (w' : World) : Prop :=
  (∃ y, e = .returned (.tuple #[.int .i64 x, y])) ∧ Rd w' b s p' c ∧ w.grownBy w' (some b)
section
variable {w : World} {b : Nat} {s : ByteArray} {p : Nat}
theorem u8_ok (h : Rd w b s p 0) (hs : s.size ≤ 1099511627776) (hl : p < s.size) :
    Calls Try.prog 51 #[.pointer (some ⟨b, 0, none⟩)] w (U8Out b s p (byN s p) (p + 1) 0 w) := by
  refine (u8_of (some ⟨b, 0, none⟩) w (number_ok h (by unfold maxLen; omega) 1 (by omega) (by omega)) two_read).mono ?_
  rintro e w' ⟨rfl, h1, h2⟩
  have hn : numOf (s.extract p (p + 1)).data.toList = byN s p := by
    rw [ext_list, take_snoc s p hl, List.drop_left' (by simp; omega)]
    unfold numOf
    rw [byN_at s p hl]
    simp
  exact ⟨⟨.nilIface, by rw [hn]⟩, h1, h2⟩
theorem u8_end (h : Rd w b s s.size 0) (hs : s.size ≤ 1099511627776) :
    Calls Try.prog 51 #[.pointer (some ⟨b, 0, none⟩)] w (U8Out b s s.size 0 s.size 7 w) := by
  refine (u8_of (some ⟨b, 0, none⟩) w (number_told 1 (text_short h (Nat.le_refl _) (by unfold maxLen; omega) 1 (by omega) (by omega))) two_told).mono ?_
  rintro e w' ⟨rfl, h0, h1, h2⟩
  exact ⟨⟨_, rfl⟩, h1, h2⟩
theorem u8_had (h : Rd w b s p 7) :
    Calls Try.prog 51 #[.pointer (some ⟨b, 0, none⟩)] w (U8Out b s p 0 p 7 w) := by
  refine (u8_of (some ⟨b, 0, none⟩) w (number_told 1 (text_had h 1 rfl rfl)) two_told).mono ?_
  rintro e w' ⟨rfl, h0, h1, h2⟩
  exact ⟨⟨_, rfl⟩, h1, h2⟩
/-- A reader's text that is refused as too short. -/
def TextNo (b : Nat) (w : World) (e : Ending) (w' : World) : Prop :=
  (∃ f : Nat, e = .returned (.tuple #[.string ⟨#[]⟩, .iface 75 (.pointer (some ⟨f, 0, none⟩))])) ∧ w.grownBy w' (some b)
theorem text_no7 (h : Rd w b s p 7) (n : Int) :
    Calls Try.prog 69 #[.pointer (some ⟨b, 0, none⟩), .int .i64 n] w (TextNo b w) := by
  refine (text_had h n rfl rfl).mono ?_
  rintro e w' ⟨rfl, h0, h1, h2⟩
  exact ⟨⟨_, rfl⟩, h2⟩
theorem text_no (h : Rd w b s p 0) (hp : p ≤ s.size) (hs : s.size ≤ 1099511627776) (n : Int) (hn : 0 ≤ n) (hl : ((s.size - p : Nat) : Int) < n) :
    Calls Try.prog 69 #[.pointer (some ⟨b, 0, none⟩), .int .i64 n] w (TextNo b w) := by
  refine (text_short h hp (by unfold maxLen; omega) n hn hl).mono ?_
  rintro e w' ⟨rfl, h0, h1, h2⟩
  exact ⟨⟨_, rfl⟩, h2⟩
set_option maxRecDepth 100000 in
set_option maxHeartbeats 400000 in
/-- The walk of what is too short: two numbers, whatever they are, and a text that is refused. -/
theorem ext_refused (k a : Int) (hb : b < w.heap.size) (h : inPl k a = true) (ha : (a == 8) = false) (x y p1 p2 : Nat) (c1 c2 : Int) (hy : y < 256)
    (h1 : ∀ W, w.grownBy W (some b) → Rd W b s p 0 → Calls Try.prog 51 #[.pointer (some ⟨b, 0, none⟩)] W (U8Out b s p x p1 c1 W))
    (h2 : ∀ W, Rd W b s p1 c1 → Calls Try.prog 51 #[.pointer (some ⟨b, 0, none⟩)] W (U8Out b s p1 y p2 c2 W))
    (h3 : ∀ W, Rd W b s p2 c2 → Calls Try.prog 69 #[.pointer (some ⟨b, 0, none⟩), .int .i64 (6 + 8 * (y : Int))] W (TextNo b W)) (hR : Rd w b s p 0) :
    Calls Try.prog 54 #[.pointer (some ⟨b, 0, none⟩), .int .i64 k, .int .i64 a] w (RExt b 0 ⟨#[]⟩ 0 7 w) := by
  have HP : Hid (∀ W, Calls Try.prog 70 #[.int .i64 k, .int .i64 a] W fun e w' => e = .returned (.bool true) ∧ W = w') := Lib.hid (fun W => h ▸ inPlace_any k a W)
  have H1 := Lib.hid h1
  have H2 := Lib.hid h2
  have H3 := Lib.hid h3
  have HR := Lib.hid hR
  clear h h1 h2 h3 hR
  go_enter Try.func54, Try.ntmps54
  go_wp2_with fail
  refine (HP.out _).mono ?_
  rintro e w1 ⟨rfl, rfl⟩
  have HB := Lib.hid (bk_new w 38 #[.int .i64 0, .string ⟨#[]⟩])
  go_wp2_with fail
  refine (H1.out _ (up_alloc (up_refl _ _) _) (HR.out.alloc _)).mono ?_
  rintro e w1 ⟨⟨_, rfl⟩, r1, g1⟩
  have R1 := Lib.hid r1
  have G1 := Lib.hid (up_trans (up_alloc (up_refl w (some b)) _) g1)
  have B1 := Lib.hid (HB.out.grown g1 (by simp; omega))
  clear r1 g1 HB H1
  go_wp2_with fail
  refine (H2.out _ R1.out).mono ?_
  rintro e w2 ⟨⟨_, rfl⟩, r1, g1⟩
  have R2 := Lib.hid r1
  have G2 := Lib.hid (up_trans G1.out g1)
  have B2 := Lib.hid (B1.out.grown g1 (by simp; omega))
  clear r1 g1 B1 H2 R1
  go_wp2_with fail
  refine (H3.out _ R2.out).mono ?_
  rintro e w3 ⟨⟨_, rfl⟩, g1⟩
  have hB3 := B2.out.grown g1 (by simp; omega)
  have B3 := Lib.hid hB3
  have G3 := Lib.hid (up_trans G2.out g1)
  have c0 := hB3.c 0 _ rfl
  have c1 := hB3.c 1 _ rfl
  have z0 := hB3.z 0
  have z1 := hB3.z 1
  clear g1 B2 H3 R2 hB3
  go_wp2_with fail
  refine bodyPost_ret (v := .tuple #[.agg #[.int .i64 0, .string ⟨#[]⟩], .int .i64 0, .int .i64 7]) ?_ rfl ?_
  · exact results_cell3 rfl rfl rfl rfl (loadExt (B3.out.set2 rfl _ _))
  · exact ⟨rfl, up_setNew (up_setNew G3.out (Nat.le_refl _) _ _) (Nat.le_refl _) _ _⟩
/-- What extension does where there is one. -/
def OExt (b : Nat) (s : ByteArray) (k : Int) (t : ByteArray) (nx : Int) (p' : Nat) (w : World) (e : Ending) (w' : World) : Prop :=
  e = .returned (.tuple #[.agg #[.int .i64 k, .string t], .int .i64 nx, .int .i64 0]) ∧ Rd w' b s p' 0 ∧ w.grownBy w' (some b)
set_option maxRecDepth 100000 in
set_option maxHeartbeats 400000 in
theorem ext_read (k a : Int) (h : inPl k a = true) (ha : (a == 8) = false) (hs : s.size ≤ 1099511627776) (hR : Rd w b s p 0) (y : Nat) (hy : y < 256) (hye : byN s (p + 1) = y) (hz : p + (8 + 8 * y) ≤ s.size) :
    Calls Try.prog 54 #[.pointer (some ⟨b, 0, none⟩), .int .i64 k, .int .i64 a] w (OExt b s k (s.extract (p + 2) (p + (8 + 8 * y))) (byN s p) (p + (8 + 8 * y)) w) := by
  have HP : Hid (∀ W, Calls Try.prog 70 #[.int .i64 k, .int .i64 a] W fun e w' => e = .returned (.bool true) ∧ W = w') := Lib.hid (fun W => h ▸ inPlace_any k a W)
  have hlt := hR.lt
  have hx : byN s p < 256 := byN_lt s p
  have h1 : ∀ W, Rd W b s p 0 → Calls Try.prog 51 #[.pointer (some ⟨b, 0, none⟩)] W (U8Out b s p (byN s p) (p + 1) 0 W) := fun W hW => u8_ok hW hs (by omega)
  have h2 : ∀ W, Rd W b s (p + 1) 0 → Calls Try.prog 51 #[.pointer (some ⟨b, 0, none⟩)] W (U8Out b s (p + 1) y (p + 2) 0 W) := fun W hW => by
    have := u8_ok hW hs (by omega)
    rw [hye] at this
    exact this
  have h3 : ∀ W, Rd W b s (p + 2) 0 → Calls Try.prog 69 #[.pointer (some ⟨b, 0, none⟩), .int .i64 (6 + 8 * (y : Int))] W (Read b s (p + 2) (6 + 8 * y) (.string (s.extract (p + 2) (p + (8 + 8 * y)))) W) := fun W hW => by
    have := text_ok hW (by unfold maxLen; omega) (6 + 8 * y) (by omega)
    rw [show p + 2 + (6 + 8 * y) = p + (8 + 8 * y) by omega] at this
    rw [show (6 + 8 * (y : Int)) = ((6 + 8 * y : Nat) : Int) by omega]
    exact this
  have HE : Hid (p + 2 + (6 + 8 * y) = p + (8 + 8 * y)) := Lib.hid (by omega)
  have H1 := Lib.hid h1
  have H2 := Lib.hid h2
  have H3 := Lib.hid h3
  have HR := Lib.hid hR
  clear h h1 h2 h3 hR hye hz hs
  generalize byN s p = x at *
  generalize s.extract (p + 2) (p + (8 + 8 * y)) = t at *
  go_enter Try.func54, Try.ntmps54
  go_wp2_with fail
  refine (HP.out _).mono ?_
  rintro e w1 ⟨rfl, rfl⟩
  have HB := Lib.hid (bk_new w 38 #[.int .i64 0, .string ⟨#[]⟩])
  go_wp2_with fail
  refine (H1.out _ (HR.out.alloc _)).mono ?_
  rintro e w1 ⟨⟨_, rfl⟩, r1, g1⟩
  have R1 := Lib.hid r1
  have G1 := Lib.hid (up_trans (up_alloc (up_refl w (some b)) _) g1)
  have B1 := Lib.hid (HB.out.grown g1 (by simp; omega))
  clear r1 g1 HB H1
  go_wp2_with fail
  refine (H2.out _ R1.out).mono ?_
  rintro e w2 ⟨⟨_, rfl⟩, r1, g1⟩
  have R2 := Lib.hid r1
  have G2 := Lib.hid (up_trans G1.out g1)
  have B2 := Lib.hid (B1.out.grown g1 (by simp; omega))
  clear r1 g1 B1 H2 R1
  go_wp2_with fail
  refine (H3.out _ R2.out).mono ?_
  rintro e w3 ⟨rfl, r1, g1⟩
  rw [HE.out] at r1
  have hB3 := B2.out.grown g1 (by simp; omega)
  have B3 := Lib.hid hB3
  have R3 := Lib.hid r1
  have G3 := Lib.hid (up_trans G2.out g1)
  have c0 := hB3.c 0 _ rfl
  have c1 := hB3.c 1 _ rfl
  have z0 := hB3.z 0
  have z1 := hB3.z 1
  clear g1 B2 H3 R2 hB3 r1
  go_wp2_with fail
  refine bodyPost_ret (v := .tuple #[.agg #[.int .i64 k, .string t], .int .i64 x, .int .i64 0]) ?_ rfl ?_
  · exact results_cell3 rfl rfl rfl rfl (loadExt (B3.out.set2 rfl _ _))
  · have hne : b ≠ w.heap.size := by omega
    have q : ∀ (W : World) (o : Nat) (v : Value), Rd W b s (p + (8 + 8 * y)) 0 → Rd (W.setCell ⟨w.heap.size, o, none⟩ v) b s (p + (8 + 8 * y)) 0 := fun W o v hW => (Below.heap_setCell _ _ _ _ hne).trans hW
    exact ⟨rfl, q _ _ _ (q _ _ _ R3.out), up_setNew (up_setNew G3.out (Nat.le_refl _) _ _) (Nat.le_refl _) _ _⟩
theorem byN_ext (s : ByteArray) (p i : Nat) : byN (s.extract p s.size) i = byN s (p + i) := by
  unfold byN
  rw [ext_end, List.getD_eq_getElem?_getD, List.getD_eq_getElem?_getD, List.getElem?_drop]
theorem ext_size (s : ByteArray) (p : Nat) : (s.extract p s.size).size = s.size - p := by simp
/-- One of which not all bytes are there. -/
theorem ext_short (k a : Int) (hp : p ≤ s.size) (h : inPl k a = true) (ha : (a == 8) = false) (hs : s.size ≤ 1099511627776) (hR : Rd w b s p 0)
    (hz : (s.extract p s.size).size < 8 ∨ (s.extract p s.size).size < exN (s.extract p s.size)) :
    Calls Try.prog 54 #[.pointer (some ⟨b, 0, none⟩), .int .i64 k, .int .i64 a] w (RExt b 0 ⟨#[]⟩ 0 7 w) := by
  have hlt := hR.lt
  unfold exN at hz
  rw [byN_ext, ext_size] at hz
  by_cases h0 : p = s.size
  · subst h0
    exact ext_refused k a hlt h ha 0 0 s.size s.size 7 7 (by omega) (fun W _ hW => u8_end hW hs) (fun W hW => u8_had hW) (fun W hW => text_no7 hW _) hR
  · by_cases h1 : p + 1 = s.size
    · refine ext_refused k a hlt h ha (byN s p) 0 (p + 1) (p + 1) 0 7 (by omega) (fun W _ hW => u8_ok hW hs (by omega)) (fun W hW => ?_) (fun W hW => text_no7 hW _) hR
      rw [h1] at hW ⊢
      exact u8_end hW hs
    · exact ext_refused k a hlt h ha (byN s p) (byN s (p + 1)) (p + 1) (p + 2) 0 0 (byN_lt s (p + 1)) (fun W _ hW => u8_ok hW hs (by omega)) (fun W hW => u8_ok hW hs (by omega)) (fun W hW => text_no hW (by omega) hs _ (by omega) (by omega)) hR
/-- One that is there. -/
theorem ext_ok (k a : Int) (h : inPl k a = true) (ha : (a == 8) = false) (hs : s.size ≤ 1099511627776) (hR : Rd w b s p 0)
    (hz : ¬ ((s.extract p s.size).size < 8 ∨ (s.extract p s.size).size < exN (s.extract p s.size))) :
    Calls Try.prog 54 #[.pointer (some ⟨b, 0, none⟩), .int .i64 k, .int .i64 a] w (OExt b s k (s.extract (p + 2) (p + exN (s.extract p s.size))) (byN (s.extract p s.size) 0) (p + exN (s.extract p s.size)) w) := by
  unfold exN at hz ⊢
  rw [byN_ext, ext_size] at hz
  rw [byN_ext, byN_ext, Nat.add_zero]
  have := ext_read k a h ha hs hR (byN s (p + 1)) (byN_lt s _) rfl (by omega)
  rw [show 8 * (1 + byN s (p + 1)) = 8 + 8 * byN s (p + 1) by omega]
  exact this
end

/-- An error of a code: none, or a new fault at place 0. -/
def ErrV (B : Nat) (c : Int) (v : Value) (w : World) : Prop :=
  (c = 0 ∧ v = .nilIface) ∨ (c ≠ 0 ∧ ∃ f, v = .iface 75 (.pointer (some ⟨f, 0, none⟩)) ∧ Flt w f c 0 ∧ B ≤ f)
theorem ErrV.below {B C : Nat} {c : Int} {v : Value} {w w' : World} (h : ErrV B c v w) (hb : Below C w w') (hC : w.heap.size ≤ C) : ErrV B c v w' := by
  rcases h with h | ⟨h1, f, h2, h3, h4⟩
  · exact .inl h
  · exact .inr ⟨h1, f, h2, h3.below hb (Nat.lt_of_lt_of_le h3.lt hC), h4⟩
/-- What the program's Chain leaves. -/
def CChn (R : Chn) (w : World) (e : Ending) (w' : World) : Prop :=
  ∃ v x, e = .returned (.tuple #[v, .int .i64 R.proto, .string R.rest, x]) ∧ w'.ownsRow w.heap.size 38 2 v R.exts.length (extV R.exts) ∧ ErrV w.heap.size R.code x w' ∧ Below w.heap.size w w'
theorem ext_ext (s : ByteArray) (p a : Nat) : (s.extract p s.size).extract a (s.extract p s.size).size = s.extract (p + a) s.size := by
  apply ba_ext
  rw [ext_end, ext_end, ext_end, List.drop_drop]
theorem ext_in (s : ByteArray) (p a b : Nat) : (s.extract p s.size).extract a b = s.extract (p + a) (p + b) := by
  apply ba_ext
  rw [ext_list, ext_end, ext_list, List.take_drop, List.drop_drop]
theorem ext_all (s : ByteArray) : s.extract 0 s.size = s := by
  apply ba_ext
  rw [ext_end]
  rfl
theorem own_le {w : World} {B B' : Nat} {T : TypeId} {v : Value} {n : Nat} {l : List Value} (h : w.ownsRow B T 2 v n l) (hb : B' ≤ B) : w.ownsRow B' T 2 v n l := by
  obtain ⟨h0, h1 | ⟨g, cap, cur, e, hg, h⟩⟩ := h
  · exact ⟨h0, .inl h1⟩
  · exact ⟨h0, .inr ⟨g, cap, cur, e, by omega, h⟩⟩
theorem inPl_no {m : Int} {l : List (Int × ByteArray)} : inPl m l.length = false ↔ m = 0 ∧ l ≠ [] := by
  unfold inPl
  cases l <;> simp
  omega
def lenOf : Value → Nat
  | .slice _ n _ => n
  | _ => 0
/-- The loop's state. -/
structure St (w wr : World) (s : ByteArray) (R : Chn) (l : List (Int × ByteArray)) (m : Int) (v : Value) (p : Nat) : Prop where
  len : l.length ≤ 8
  pl : p ≤ s.size
  own : wr.ownsRow (w.heap.size + 1) 38 2 v l.length (extV l)
  bel : Below w.heap.size w wr
  rd : Rd wr w.heap.size s p 0
  eq : R = chnE l m (s.extract p s.size)
theorem St.ne {w wr : World} {s : ByteArray} {R : Chn} {l : List (Int × ByteArray)} {m : Int} {v : Value} {p : Nat} (h : St w wr s R l m v p) : v.ownBlock = none ∨ v.ownBlock ≠ some w.heap.size := by
  cases hv : v.ownBlock with
  | none => exact .inl rfl
  | some k =>
    have := (h.own.lt k hv).1
    exact .inr (fun e => by injection e with e; omega)
theorem grown_self {B : Nat} {w w1 w2 : World} (h : Below B w w1) (g : w1.grownBy w2 (some B)) (hB : B ≤ w1.heap.size) : Below B w w2 := h.grown g hB (fun k hk => by injection hk with hk; omega)
set_option maxRecDepth 100000 in
set_option maxHeartbeats 1000000 in
theorem chain_any (n : Int) (s : ByteArray) (w : World) (hs : s.size ≤ 70000) :
    Calls Try.prog 37 #[.int .i64 n, .string s] w (CChn (chnE [] n s) w) := by
  obtain ⟨R, hR⟩ : ∃ R, R = chnE [] n s := ⟨_, rfl⟩
  rw [← hR]
  have HR := Lib.hid hR
  clear hR
  obtain ⟨i9, hi9, hz0, hz1, hz2⟩ := info_parts Try.infoExt
  have HI := Lib.hid hi9
  have H0 := Lib.hid hz0
  have H1 := Lib.hid hz1
  have H2 := Lib.hid hz2
  clear hi9 hz0 hz1 hz2
  go_enter Try.func37, Try.ntmps37
  go_wp2_with fail
  refine (new_any s w).mono ?_
  rintro e w1 ⟨rfl, rfl⟩
  have HS : Hid (St w (w.alloc (.cells #[.string s, .int .i64 0, .int .i64 0] 113)) s R [] n (.slice none 0 0) 0) := Lib.hid ⟨by simp, by omega, own_nil _ _ _, (Below.refl _ _).alloc (Nat.le_refl _) _, Rd.new w s, by rw [ext_all]; exact HR.out⟩
  generalize w.alloc (.cells #[.string s, .int .i64 0, .int .i64 0] 113) = w1 at *
  go_wp2_with fail
  go_loopw [0, 4] (fun nx v wr => ∃ (l : List (Int × ByteArray)) (m : Int) (p : Nat), nx = .int .i64 m ∧ St w wr s R l m v p) (fun _ v _ => 9 - lenOf v)
  case atStart => exact ⟨[], n, 0, rfl, HS.out⟩
  case round =>
    obtain ⟨l, m, p, rfl, hst⟩ := hrel
    have HT := Lib.hid hst
    have hp := hst.pl
    have hl8 := hst.len
    obtain ⟨ao, cap, rfl, _⟩ := exs_own hst.own
    clear hst HS
    by_cases hx : isEx m
    · have HX := Lib.hid (fun W => isExt_yes m hx W)
      by_cases hok : inPl m l.length = true ∧ l.length ≠ 8 ∧ ¬ ((s.extract p s.size).size < 8 ∨ (s.extract p s.size).size < exN (s.extract p s.size))
      · obtain ⟨hf, h8, hz⟩ := hok
        have HE := Lib.hid (ext_ok m l.length hf (by rw [beq_eq_false_iff_ne]; omega) (by omega) HT.out.rd hz)
        have hq := chnE_next hl8 hx (fun hh => by rw [inPl_no.2 hh] at hf; cases hf) h8 hz
        rw [← HT.out.eq, ext_in, ext_ext] at hq
        have HQ := Lib.hid hq
        have hz2 : p + exN (s.extract p s.size) ≤ s.size := by rw [ext_size] at hz; omega
        have hl7 : l.length ≤ 7 := by omega
        have HX1 : Hid (l.length + 1 ≤ maxLen) := Lib.hid (by unfold maxLen; omega)
        have HX2 : Hid ((l.length + 1) * 24 ≤ 140737488355328) := Lib.hid (by omega)
        clear hf h8 hz hq hx
        generalize exN (s.extract p s.size) = N at *
        generalize byN (s.extract p s.size) 0 = nx at *
        generalize s.extract (p + 2) (p + N) = t at *
        go_wp2_with fail
        refine (HX.out _).mono ?_
        rintro e w2 ⟨rfl, rfl⟩
        go_wp2_with fail
        refine (HE.out).mono ?_
        rintro e w2 ⟨rfl, r1, g1⟩
        have HB2 := Lib.hid (grown_self HT.out.bel g1 HT.out.bel.size)
        have HO2 := Lib.hid (HT.out.own.kept g1 HT.out.ne)
        have HN := Lib.hid HT.out.ne
        have HR2 := Lib.hid r1
        clear g1 HX HE HT r1
        have HX3 : Hid (w.heap.size + 1 ≤ ((w2.alloc (.cells #[.int .i64 m, .string t] 38)).alloc (.cells #[.int .i64 m, .string t] 38)).heap.size) := Lib.hid (by have := HB2.out.size; simp; omega)
        have HS2 := Lib.hid HB2.out.size
        go_wp2_with (at_builtin; refine wpList_append_own _ rfl _ _ 33 rfl (w.heap.size + 1) 38 i9 (.agg #[.int .i64 0, .string ⟨#[]⟩]) 2 24 Try.underlying33 HI.out H0.out H1.out H2.out rfl (by decide) _ l.length (extV l) rfl ((HO2.out.alloc _).alloc _) ⟨w2.heap.size + 1, 0, none⟩ 1 1 [.int .i64 m, .string t] rfl rfl (World.news_of_block (cs := #[.int .i64 m, .string t]) (t := 38) (fr := (0, 0)) (by have := heap_alloc_new (w2.alloc (.cells #[.int .i64 m, .string t] 38)) (.cells #[.int .i64 m, .string t] 38); simpa using this)) (by simp [Value.oneCell']) HX1.out HX2.out HX3.out ?_; intro v1 w3 hown1 hgrow hnil)
        have HO3 : Hid (w3.ownsRow (w.heap.size + 1) 38 2 v1 (l ++ [(m, t)]).length (extV (l ++ [(m, t)]))) := Lib.hid (by rw [extV_append, List.length_append]; exact hown1)
        have HB3 := Lib.hid (((HB2.out.alloc HS2.out (.cells #[.int .i64 m, .string t] 38)).alloc (by simp; have := HS2.out; omega) (.cells #[.int .i64 m, .string t] 38)).grown hgrow (by have := HX3.out; omega) (fun k hk => by have := (HO2.out.lt k hk).1; omega))
        have hne : some w.heap.size ≠ (Value.slice ao l.length cap).ownBlock := by
          intro e
          rcases HN.out with h | h
          · rw [h] at e; cases e
          · exact h e.symm
        have HR3 : Hid (Rd w3 w.heap.size s (p + N) 0) := Lib.hid (((HR2.out.alloc _).alloc _).grown hgrow hne)
        clear hne
        clear hown1 hgrow hnil
        go_wp2_with fail
        go_roundw
        case rel => exact ⟨l ++ [(m, t)], nx, p + N, rfl, by rw [List.length_append]; show l.length + 1 ≤ 8; omega, hz2, HO3.out, HB3.out, HR3.out, HQ.out⟩
        case measure =>
          obtain ⟨ao3, cap3, rfl, _⟩ := exs_own HO3.out
          simp [lenOf]
          omega
      · have hbad : ∃ c : Int, (c != 0) = true ∧ R = bad c ∧ Calls Try.prog 54 #[.pointer (some ⟨w.heap.size, 0, none⟩), .int .i64 m, .int .i64 l.length] wr (RExt w.heap.size 0 ⟨#[]⟩ 0 c wr) := by
          by_cases hf : inPl m l.length = false
          · exact ⟨8, rfl, by rw [HT.out.eq]; exact chnE_form _ hl8 hx (inPl_no.1 hf), ext_form w.heap.size m l.length wr hf⟩
          · have hf2 : inPl m l.length = true := by simpa using hf
            by_cases h8 : l.length = 8
            · refine ⟨3, rfl, by rw [HT.out.eq]; exact chnE_long _ hx (fun hh => hf (inPl_no.2 hh)) h8, ?_⟩
              rw [h8] at hf2 ⊢
              exact ext_long w.heap.size m wr hf2
            · have hz : (s.extract p s.size).size < 8 ∨ (s.extract p s.size).size < exN (s.extract p s.size) := by
                rcases Classical.em ((s.extract p s.size).size < 8 ∨ (s.extract p s.size).size < exN (s.extract p s.size)) with h | h
                · exact h
                · exact absurd ⟨hf2, h8, h⟩ hok
              exact ⟨7, rfl, by rw [HT.out.eq]; exact chnE_short hl8 hx (fun hh => hf (inPl_no.2 hh)) h8 hz, ext_short m l.length hp hf2 (by rw [beq_eq_false_iff_ne]; omega) (by omega) HT.out.rd hz⟩
        obtain ⟨c, hc, hq, he⟩ := hbad
        have HE := Lib.hid he
        have HQ := Lib.hid hq
        clear hx hok he hq
        go_wp2_with fail
        refine (HX.out _).mono ?_
        rintro e w2 ⟨rfl, rfl⟩
        go_wp2_with fail
        refine (HE.out).mono ?_
        rintro e w2 ⟨rfl, g1⟩
        have HB2 := Lib.hid (grown_self HT.out.bel g1 HT.out.bel.size)
        clear g1 HX HE HT
        go_wp2_with fail
        refine (fault_any _ _).mono ?_
        rintro e w3 ⟨rfl, rfl⟩
        go_wp2_with fail
        refine bodyPost_ret (v := .tuple #[.slice none 0 0, .int .i64 0, .string ⟨#[]⟩, .iface 75 (.pointer (some ⟨w2.heap.size + 1, 0, none⟩))]) (by simp [results, Try.results37, go_sem]) rfl ?_
        have hQ := HQ.out
        subst hQ
        have hsz := HB2.out.size
        exact ⟨_, _, rfl, own_nil _ _ _, .inr ⟨bne_iff_ne.1 hc, _, rfl, Flt.newAt _ _ _ _ (by simp), by omega⟩, (HB2.out.alloc hsz _).alloc (by simp; omega) _⟩
    · have HX := Lib.hid (fun W => isExt_no m hx W)
      have HQ : Hid (R = ⟨l, m, s.extract p s.size, 0⟩) := Lib.hid (by rw [HT.out.eq]; exact chnE_end _ hl8 hx)
      have HY := Lib.hid (rest_ok HT.out.rd hp)
      clear hx
      go_wp2_with fail
      refine (HX.out _).mono ?_
      rintro e w2 ⟨rfl, rfl⟩
      go_wp2_with fail
      refine (HY.out).mono ?_
      rintro e w2 ⟨rfl, r1, g1⟩
      have HB2 := Lib.hid (grown_self HT.out.bel g1 HT.out.bel.size)
      have HO2 := Lib.hid (HT.out.own.kept g1 HT.out.ne)
      clear g1 HX HT r1 HY
      go_wp2_with fail
      refine bodyPost_ret (v := .tuple #[.slice ao l.length cap, .int .i64 m, .string (s.extract p s.size), .nilIface]) (by simp [results, Try.results37, go_sem]) rfl ?_
      have hQ := HQ.out
      subst hQ
      exact ⟨_, _, rfl, own_le HO2.out (by omega), .inl ⟨rfl, rfl⟩, HB2.out⟩
end Go.Proofs.Ytkihhmnlefekoaa
