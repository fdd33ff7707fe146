/-
  Proved here: what the document's own reader (layer 1) does to its block, and answers; and one outcome for both readers' calls.
  Conditions: the reader's block is whole; texts no longer than the model lets be.
-/
import Derived.Test.YtphemimpkbjfoaaExts
namespace Go.Proofs.Ytphemimpkbjfoaa
open Go.RowKit

section
variable {w w' w'' : World} {b : Nat}
theorem up_refl (w : World) (r : Option Nat) : w.grownBy w r := ⟨rfl, rfl, rfl, Nat.le_refl _, fun _ _ _ => rfl⟩
theorem up_trans {r : Option Nat} (h : w.grownBy w' r) (k : w'.grownBy w'' r) : w.grownBy w'' r :=
  ⟨k.os.trans h.os, k.tape.trans h.tape, k.output.trans h.output, Nat.le_trans h.size k.size, fun i hi hn => (k.block i (Nat.lt_of_lt_of_le hi h.size) hn).trans (h.block i hi hn)⟩
theorem up_set (h : w.grownBy w' (some b)) (o : Nat) (v : Value) : w.grownBy (w'.setCell ⟨b, o, none⟩ v) (some b) :=
  up_trans h ⟨rfl, rfl, rfl, by simp [World.setCell], fun k _ hn => Below.heap_setCell _ _ _ _ (fun e => hn (by rw [e]))⟩
theorem up_drew {r : Option Nat} (h : w.grownBy w' r) : w.grownBy w'.drew r := ⟨h.os, h.tape, h.output, h.size, h.block⟩
theorem up_alloc {r : Option Nat} (h : w.grownBy w' r) (o : Obj) : w.grownBy (w'.alloc o) r := up_trans h (World.grownBy_alloc _ _ _)
theorem up_below {r : Option Nat} (h : Below w.heap.size w w') : w.grownBy w' r := ⟨h.os, h.tape, h.output, h.size, fun k hk _ => h.block k hk⟩
end
theorem take_snoc (s : ByteArray) (k : Nat) (h : k < s.size) : s.data.toList.take (k + 1) = s.data.toList.take k ++ [s[k]] := by
  rw [List.take_succ_eq_append_getElem (by simpa using h)]; rfl
/-- The number of bytes, the highest first. -/
def numOf (l : List UInt8) : Nat := l.foldl (fun x c => x * 256 + c.toNat) 0
theorem numOf_snoc (l : List UInt8) (c : UInt8) : numOf (l ++ [c]) = numOf l * 256 + c.toNat := by simp [numOf]
theorem numOf_from (l : List UInt8) : ∀ x : Nat, l.foldl (fun x c => x * 256 + c.toNat) x < (x + 1) * 256 ^ l.length := by
  induction l with
  | nil => intro x; simp
  | cons c l ih =>
    intro x
    have h1 := ih (x * 256 + c.toNat)
    have h2 := c.toNat_lt
    have h3 : (x * 256 + c.toNat + 1) * 256 ^ l.length ≤ ((x + 1) * 256) * 256 ^ l.length := Nat.mul_le_mul_right _ (by omega)
    have h4 : ((x + 1) * 256) * 256 ^ l.length = (x + 1) * 256 ^ (l.length + 1) := by rw [Nat.mul_assoc, Nat.pow_succ, Nat.mul_comm 256]
    simp only [List.foldl_cons, List.length_cons]
    omega
theorem numOf_lt (l : List UInt8) : numOf l < 256 ^ l.length := by
  have := numOf_from l 0
  simpa [numOf] using this
theorem numOf_take (l : List UInt8) (k : Nat) (hk : k ≤ 4) : numOf (l.take k) < 4294967296 := by
  have h1 := numOf_lt (l.take k)
  have h2 : (l.take k).length ≤ 4 := by have := List.length_take_le k l; omega
  have h3 : 256 ^ (l.take k).length ≤ 256 ^ 4 := Nat.pow_le_pow_right (by omega) h2
  omega
theorem or_i64 (a c : Nat) (ha : a < 4294967296) (hc : c < 256) : bits .or .i64 ((a : Int) * 256) (c : Int) = ((a * 256 + c : Nat) : Int) := by
  have hor : a * 256 ||| c = a * 256 + c := by
    have := Nat.two_pow_add_eq_or_of_lt (i := 8) (b := c) (by omega) a
    rw [Nat.mul_comm] at this
    exact this.symm
  have h1 : (BitVec.ofInt 64 ((a : Int) * 256)).toNat = a * 256 := by
    rw [show (a : Int) * 256 = ((a * 256 : Nat) : Int) by simp, BitVec.ofInt_natCast, BitVec.toNat_ofNat]; exact Nat.mod_eq_of_lt (by omega)
  have h2 : (BitVec.ofInt 64 (c : Int)).toNat = c := by
    rw [BitVec.ofInt_natCast, BitVec.toNat_ofNat]; exact Nat.mod_eq_of_lt (by omega)
  show IntKind.i64.wrap ((BitVec.ofInt 64 ((a : Int) * 256) ||| BitVec.ofInt 64 (c : Int)).toNat : Int) = _
  rw [BitVec.toNat_or, h1, h2, hor, IntKind.wrap_i64]
  omega

/-- Block b is the document's reader: text s, place p, fault's code c, fault's place q. -/
def Rr (w : World) (b : Nat) (s : ByteArray) (p : Nat) (c q : Int) : Prop := w.heap[b]? = some (.cells #[.string s, .int .i64 p, .int .i64 c, .int .i64 q] 108 (0, 0))
theorem up_drewN {w w' : World} {r : Option Nat} (h : w.grownBy w' r) (n : Nat) : w.grownBy (w'.drewN n) r := ⟨h.os, h.tape, h.output, h.size, h.block⟩
section
variable {w w' : World} {b : Nat} {s : ByteArray} {p : Nat} {c q : Int}
theorem Rr.c0 (h : Rr w b s p c q) : w.cell? ⟨b, 0, none⟩ = some (.string s) := by unfold Rr at h; simp [World.cell?, h]
theorem Rr.c1 (h : Rr w b s p c q) : w.cell? ⟨b, 1, none⟩ = some (.int .i64 p) := by unfold Rr at h; simp [World.cell?, h]
theorem Rr.c2 (h : Rr w b s p c q) : w.cell? ⟨b, 2, none⟩ = some (.int .i64 c) := by unfold Rr at h; simp [World.cell?, h]
theorem Rr.c3 (h : Rr w b s p c q) : w.cell? ⟨b, 3, none⟩ = some (.int .i64 q) := by unfold Rr at h; simp [World.cell?, h]
theorem Rr.z (h : Rr w b s p c q) (o : Nat) : w.frozen? ⟨b, o, none⟩ = false := by unfold Rr at h; simp [World.frozen?, h]
theorem Rr.lt (h : Rr w b s p c q) : b < w.heap.size := lt_of_block h
theorem Rr.set1 (h : Rr w b s p c q) (x : Nat) : Rr (w.setCell ⟨b, 1, none⟩ (.int .i64 x)) b s x c q := by
  have hlt := h.lt
  unfold Rr at h
  have h' : w.heap[b] = .cells #[.string s, .int .i64 p, .int .i64 c, .int .i64 q] 108 (0, 0) := by simpa [Array.getElem?_eq_getElem hlt] using h
  show (w.heap.modify b _)[b]? = _
  rw [Array.getElem?_eq_getElem (by simpa using hlt), Array.getElem_modify_self, h']
  rfl
theorem Rr.set2 (h : Rr w b s p c q) (x : Int) : Rr (w.setCell ⟨b, 2, none⟩ (.int .i64 x)) b s p x q := by
  have hlt := h.lt
  unfold Rr at h
  have h' : w.heap[b] = .cells #[.string s, .int .i64 p, .int .i64 c, .int .i64 q] 108 (0, 0) := by simpa [Array.getElem?_eq_getElem hlt] using h
  show (w.heap.modify b _)[b]? = _
  rw [Array.getElem?_eq_getElem (by simpa using hlt), Array.getElem_modify_self, h']
  rfl
theorem Rr.set3 (h : Rr w b s p c q) (x : Int) : Rr (w.setCell ⟨b, 3, none⟩ (.int .i64 x)) b s p c x := by
  have hlt := h.lt
  unfold Rr at h
  have h' : w.heap[b] = .cells #[.string s, .int .i64 p, .int .i64 c, .int .i64 q] 108 (0, 0) := by simpa [Array.getElem?_eq_getElem hlt] using h
  show (w.heap.modify b _)[b]? = _
  rw [Array.getElem?_eq_getElem (by simpa using hlt), Array.getElem_modify_self, h']
  rfl
theorem Rr.alloc (h : Rr w b s p c q) (o : Obj) : Rr (w.alloc o) b s p c q := (Below.heap_alloc w o b h.lt).trans h
theorem Rr.grown {row : Option Nat} (h : Rr w b s p c q) (g : w.grownBy w' row) (hne : some b ≠ row) : Rr w' b s p c q := (g.block b h.lt hne).trans h
theorem Rr.below {B : Nat} (h : Rr w b s p c q) (g : Below B w w') (hB : b < B) : Rr w' b s p c q := (g.block b hB).trans h
theorem Rr.new (w : World) (s : ByteArray) : Rr (w.alloc (.cells #[.string s, .int .i64 0, .int .i64 0, .int .i64 0] 108)) w.heap.size s 0 0 0 := by
  show (w.heap.push _)[w.heap.size]? = _
  simp

/-- What the document's Text answers: a text, a code; and what its block is then. -/
def RText (b : Nat) (s : ByteArray) (t : ByteArray) (p' : Nat) (c' q' : Int) (w : World) (e : Ending) (w' : World) : Prop :=
  e = .returned (.tuple #[.string t, .int .i64 c']) ∧ Rr w' b s p' c' q' ∧ w.grownBy w' (some b)

theorem rtext_had (h : Rr w b s p c q) (n : Int) (hc : (c != 0) = true) :
    Calls Try.prog 73 #[.pointer (some ⟨b, 0, none⟩), .int .i64 n] w (RText b s ⟨#[]⟩ p c q w) := by
  have c2 := h.c2
  have H := Lib.hid h
  clear h
  go_enter Try.func73, Try.ntmps73
  go_wp2_with fail
  go_region
  go_wp2_with fail
  go_ret2
  exact ⟨rfl, H.out, up_drew (up_refl _ _)⟩

set_option maxRecDepth 100000 in
theorem rtext_neg (h : Rr w b s p 0 q) (n : Int) (hn : n < 0) :
    Calls Try.prog 73 #[.pointer (some ⟨b, 0, none⟩), .int .i64 n] w (RText b s ⟨#[]⟩ p 1 p w) := by
  have c1 := h.c1
  have c2 := h.c2
  have c3 := h.c3
  have z2 := h.z 2
  have z3 := h.z 3
  have H := Lib.hid h
  clear h
  go_enter Try.func73, Try.ntmps73
  go_wp2_with fail
  go_region
  go_wp2_with fail
  go_ret2
  exact ⟨rfl, (H.out.set2 1).set3 p, up_drew (up_set (up_set (up_refl _ _) _ _) _ _)⟩

set_option maxRecDepth 100000 in
theorem rtext_short1 (h : Rr w b s p 0 q) (n : Int) (hn : 0 ≤ n) (hl : (s.size : Int) < n) :
    Calls Try.prog 73 #[.pointer (some ⟨b, 0, none⟩), .int .i64 n] w (RText b s ⟨#[]⟩ p 7 p w) := by
  have c0 := h.c0
  have c1 := h.c1
  have c2 := h.c2
  have c3 := h.c3
  have z2 := h.z 2
  have z3 := h.z 3
  have H := Lib.hid h
  clear h
  go_enter Try.func73, Try.ntmps73
  go_wp2_with fail
  go_quiet (fail)
  go_wp2_with fail
  go_region
  go_wp2_with fail
  go_ret2
  have H' : Rr (w.drewN nq) b s p 0 q := H.out
  exact ⟨rfl, (H'.set2 7).set3 p, up_drew (up_set (up_set (up_drewN (up_refl _ _) _) _ _) _ _)⟩

set_option maxRecDepth 100000 in
theorem rtext_short2 (h : Rr w b s p 0 q) (hs : s.size ≤ maxLen) (n : Int) (hn : 0 ≤ n) (hl' : decide ((s.size : Int) < n) = false) (hm : n ≤ s.size) (hl : decide ((s.size : Int) - n < p) = true) :
    Calls Try.prog 73 #[.pointer (some ⟨b, 0, none⟩), .int .i64 n] w (RText b s ⟨#[]⟩ p 7 p w) := by
  have c0 := h.c0
  have c1 := h.c1
  have c2 := h.c2
  have c3 := h.c3
  have z2 := h.z 2
  have z3 := h.z 3
  have H := Lib.hid h
  unfold maxLen at hs
  clear h
  go_enter Try.func73, Try.ntmps73
  go_wp2_with fail
  go_quiet (fail)
  go_wp2_with fail
  go_region
  go_wp2_with fail
  go_ret2
  have H' : Rr (w.drewN nq) b s p 0 q := H.out
  exact ⟨rfl, (H'.set2 7).set3 p, up_drew (up_set (up_set (up_drewN (up_refl _ _) _) _ _) _ _)⟩

set_option maxRecDepth 100000 in
theorem rtext_ok (h : Rr w b s p 0 q) (hs : s.size ≤ maxLen) (n : Nat) (hl' : decide (s.size < n) = false) (hm : p + n ≤ s.size) (hl : decide ((s.size : Int) - n < p) = false) :
    Calls Try.prog 73 #[.pointer (some ⟨b, 0, none⟩), .int .i64 n] w (RText b s (s.extract p (p + n)) (p + n) 0 q w) := by
  have c0 := h.c0
  have c1 := h.c1
  have c2 := h.c2
  have c3 := h.c3
  have z2 := h.z 2
  have z3 := h.z 3
  have H := Lib.hid h
  unfold maxLen at hs
  clear h
  go_enter Try.func73, Try.ntmps73
  go_wp2_with fail
  go_quiet (fail)
  go_wp2_with fail
  go_loopw [6, 7] (fun t i wr => ∃ k : Nat, k ≤ n ∧ i = .int .i64 k ∧ t = .string (s.extract p (p + k)) ∧ Rr wr b s (p + k) 0 q ∧ w.grownBy wr (some b)) (fun _ i _ => n - (intOf i).toNat)
  case atStart => exact ⟨0, Nat.zero_le _, rfl, by simp; rfl, H.out, up_drewN (up_refl _ _) _⟩
  case round =>
    obtain ⟨k, hk, rfl, rfl, hR, hG⟩ := hrel
    have HR := Lib.hid hR
    have HG := Lib.hid hG
    clear c0 c1 c2 c3 z2 z3 hl hl'
    have c0 := hR.c0
    have c1 := hR.c1
    have z1 := hR.z 1
    clear hR hG
    by_cases hlt : k < n
    · have hsz : (s.extract p (p + k)).size = k := by simp; omega
      go_wp2_with fail
      go_region
      go_wp2_with fail
      have hR1 := HR.out.set1 (p + k + 1)
      rw [show ((p + k + 1 : Nat) : Int) = (p : Int) + k + 1 by omega] at hR1
      go_roundw
      case rel => exact ⟨k + 1, by omega, by go_num, rfl, hR1, up_drew (up_set HG.out _ _)⟩
      case measure => simp [intOf]; omega
    · go_wp2_with fail
      go_ret2
      obtain rfl : k = n := by omega
      exact ⟨rfl, HR.out, HG.out⟩

/-- The document's Number: a number, a code; and what its block is then. -/
def RNum (b : Nat) (s : ByteArray) (x : Int) (p' : Nat) (c' q' : Int) (w : World) (e : Ending) (w' : World) : Prop :=
  e = .returned (.tuple #[.int .i64 x, .int .i64 c']) ∧ Rr w' b s p' c' q' ∧ w.grownBy w' (some b)

set_option maxRecDepth 100000 in
theorem rnum_of {t : ByteArray} {p' : Nat} {c' q' : Int} (n : Int) (ht : t.size ≤ 4) (hc : Calls Try.prog 73 #[.pointer (some ⟨b, 0, none⟩), .int .i64 n] w (RText b s t p' c' q' w)) :
    Calls Try.prog 66 #[.pointer (some ⟨b, 0, none⟩), .int .i64 n] w (RNum b s (numOf t.data.toList) p' c' q' w) := by
  have hr := Lib.hid hc
  clear hc
  go_enter Try.func66, Try.ntmps66
  go_wp2_with fail
  refine hr.out.mono ?_
  rintro e w' ⟨rfl, hR⟩
  have HR := Lib.hid hR
  clear hR
  go_wp2_with fail
  go_loop [8, 9] (fun x i => ∃ k : Nat, k ≤ t.size ∧ i = .int .i64 k ∧ x = .int .i64 (numOf (t.data.toList.take k))) (fun _ i => t.size - (intOf i).toNat)
  case atStart => exact ⟨0, Nat.zero_le _, rfl, rfl⟩
  case round =>
    obtain ⟨k, hk, rfl, rfl⟩ := hrel
    have hb := numOf_take t.data.toList k (by omega)
    by_cases hlt : k < t.size
    · have h8 := t[k].toNat_lt
      have HT := Lib.hid (take_snoc t k hlt)
      go_wp2_with fail
      go_round
      case rel => exact ⟨k + 1, by omega, by go_num, by rw [HT.out, numOf_snoc]; go_num⟩
      case measure => simp [intOf]; omega
    · go_wp2_with fail
      go_ret2
      refine ⟨?_, HR.out⟩
      rw [List.take_of_length_le (by simp; omega)]
      rfl
end
end Go.Proofs.Ytphemimpkbjfoaa
