/-
  Proved here: what U8, U16 and U32 of a num.Reader do and answer.
  Conditions: the reader's block is whole; texts no longer than the model lets be.
-/
import Derived.Test.YtdljjcnihajchaaFText
namespace Go.Proofs.Ytdljjcnihajchaa.P4
open Go.RowKit

/-- The number of bytes, the highest first. -/
def numOf (l : List UInt8) : Nat := l.foldl (fun x c => x * 256 + c.toNat) 0
theorem numOf_snoc (l : List UInt8) (c : UInt8) : numOf (l ++ [c]) = numOf l * 256 + c.toNat := by simp [numOf]
theorem numOf_from (l : List UInt8) : ∀ x : Nat, l.foldl (fun x c => x * 256 + c.toNat) x < (x + 1) * 256 ^ l.length := by
  induction l with
  | nil => intro x; simp
  | cons c l ih =>
    intro x
    have h1 := ih (x * 256 + c.toNat)
    have h2 := c.toNat_lt
    have h3 : (x * 256 + c.toNat + 1) * 256 ^ l.length ≤ ((x + 1) * 256) * 256 ^ l.length := Nat.mul_le_mul_right _ (by omega)
    have h4 : ((x + 1) * 256) * 256 ^ l.length = (x + 1) * 256 ^ (l.length + 1) := by rw [Nat.mul_assoc, Nat.pow_succ, Nat.mul_comm 256]
    simp only [List.foldl_cons, List.length_cons]
    omega
theorem numOf_lt (l : List UInt8) : numOf l < 256 ^ l.length := by
  have := numOf_from l 0
  simpa [numOf] using this
theorem numOf_take (l : List UInt8) (k : Nat) (hk : k ≤ 4) : numOf (l.take k) < 4294967296 := by
  have h1 := numOf_lt (l.take k)
  have h2 : (l.take k).length ≤ 4 := by have := List.length_take_le k l; omega
  have h3 : 256 ^ (l.take k).length ≤ 256 ^ 4 := Nat.pow_le_pow_right (by omega) h2
  omega
theorem or_i64 (a c : Nat) (ha : a < 4294967296) (hc : c < 256) : bits .or .i64 ((a : Int) * 256) (c : Int) = ((a * 256 + c : Nat) : Int) := by
  have hor : a * 256 ||| c = a * 256 + c := by
    have := Nat.two_pow_add_eq_or_of_lt (i := 8) (b := c) (by omega) a
    rw [Nat.mul_comm] at this
    exact this.symm
  have h1 : (BitVec.ofInt 64 ((a : Int) * 256)).toNat = a * 256 := by
    rw [show (a : Int) * 256 = ((a * 256 : Nat) : Int) by simp, BitVec.ofInt_natCast, BitVec.toNat_ofNat]; exact Nat.mod_eq_of_lt (by omega)
  have h2 : (BitVec.ofInt 64 (c : Int)).toNat = c := by
    rw [BitVec.ofInt_natCast, BitVec.toNat_ofNat]; exact Nat.mod_eq_of_lt (by omega)
  show IntKind.i64.wrap ((BitVec.ofInt 64 ((a : Int) * 256) ||| BitVec.ofInt 64 (c : Int)).toNat : Int) = _
  rw [BitVec.toNat_or, h1, h2, hor, IntKind.wrap_i64]
  omega

section
variable {w : World} {b : Nat} {s : ByteArray} {p : Nat} {c : Int}
theorem number_ok (h : Rd w b s p 0) (hs : s.size ≤ maxLen) (n : Nat) (hn : n ≤ 4) (hl : p + n ≤ s.size) :
    Calls Try.prog 45 #[.pointer (some ⟨b, 0, none⟩), .int .i64 n] w (Read b s p n (.int .i64 (numOf (s.extract p (p + n)).data.toList)) w) := by
  have hr := Lib.hid (text_ok h hs n hl)
  have hz : (s.extract p (p + n)).size = n := by simp; omega
  clear h
  generalize s.extract p (p + n) = t at hr hz
  subst hz
  go_enter Try.func45, Try.ntmps45
  go_wp2_with fail
  refine hr.out.mono ?_
  rintro e w' ⟨rfl, hR, hG⟩
  have HR := Lib.hid hR
  have HG := Lib.hid hG
  clear hR hG
  go_wp2_with fail
  go_loop [8, 21] (fun x i => ∃ k : Nat, k ≤ t.size ∧ i = .int .i64 k ∧ x = .int .i64 (numOf (t.data.toList.take k))) (fun _ i => t.size - (intOf i).toNat)
  case atStart => exact ⟨0, Nat.zero_le _, rfl, rfl⟩
  case round =>
    obtain ⟨k, hk, rfl, rfl⟩ := hrel
    have hb := numOf_take t.data.toList k (by omega)
    by_cases hlt : k < t.size
    · have h8 := t[k].toNat_lt
      have HO := Lib.hid (or_i64 (numOf (t.data.toList.take k)) t[k].toNat hb h8)
      have HT := Lib.hid (take_snoc t k hlt)
      go_wp2_with fail
      go_round
      case rel => exact ⟨k + 1, by omega, by go_num, by rw [HO.out, HT.out, numOf_snoc]⟩
      case measure => simp [intOf]; omega
    · go_wp2_with fail
      go_ret2
      refine ⟨?_, HR.out, HG.out⟩
      rw [List.take_of_length_le (by simp; omega)]
      rfl

theorem number_told (n : Int) {c : Int} (ht : Calls Try.prog 32 #[.pointer (some ⟨b, 0, none⟩), .int .i64 n] w (Told b s p c (.string ⟨#[]⟩) w)) :
    Calls Try.prog 45 #[.pointer (some ⟨b, 0, none⟩), .int .i64 n] w (Told b s p c (.int .i64 0) w) := by
  have hr := Lib.hid ht
  clear ht
  go_enter Try.func45, Try.ntmps45
  go_wp2_with fail
  refine hr.out.mono ?_
  rintro e w' ⟨rfl, hR⟩
  have HR := Lib.hid hR
  clear hR
  go_wp2_with fail
  go_ret2
  exact ⟨rfl, HR.out⟩
end
theorem number_nil (n : Int) (w : World) :
    Calls Try.prog 45 #[.pointer none, .int .i64 n] w fun e w' => e = .returned (.tuple #[.int .i64 0, .iface 50 (.pointer (some ⟨w.heap.size, 0, none⟩))]) ∧ w' = w.alloc (.cells #[.int .i64 2, .int .i64 0] 53) := by
  go_enter Try.func45, Try.ntmps45
  go_wp2_with fail
  refine (text_nil n w).mono ?_
  rintro e w' ⟨rfl, rfl⟩
  go_wp2_with fail
  go_ret2
  exact ⟨rfl, rfl⟩

/-- A contract of a call that answers two things. -/
def Two (Q : Ending → World → Prop) : Prop := ∀ e w', Q e w' → ∃ x y, e = .returned (.tuple #[x, y])
theorem two_told {b : Nat} {s : ByteArray} {p : Nat} {c : Int} {v : Value} {w : World} : Two (Told b s p c v w) := fun _ _ h => ⟨_, _, h.1⟩
theorem two_read {b : Nat} {s : ByteArray} {p n : Nat} {v : Value} {w : World} : Two (Read b s p n v w) := fun _ _ h => ⟨_, _, h.1⟩

theorem u8_of (r : Option Addr) (w : World) {Q : Ending → World → Prop} (h : Calls Try.prog 45 #[.pointer r, .int .i64 1] w Q) (h2 : Two Q) :
    Calls Try.prog 28 #[.pointer r] w Q := by
  have hr := Lib.hid h
  have H2 := Lib.hid h2
  clear h h2
  go_enter Try.func28, Try.ntmps28
  go_wp2_with fail
  refine hr.out.mono ?_
  intro e w' hQ
  obtain ⟨x, y, rfl⟩ := H2.out _ _ hQ
  have HQ := Lib.hid hQ
  clear hQ
  dsimp only
  go_wp2_with fail
  exact HQ.out

theorem u16_of (r : Option Addr) (w : World) {Q : Ending → World → Prop} (h : Calls Try.prog 45 #[.pointer r, .int .i64 2] w Q) (h2 : Two Q) :
    Calls Try.prog 29 #[.pointer r] w Q := by
  have hr := Lib.hid h
  have H2 := Lib.hid h2
  clear h h2
  go_enter Try.func29, Try.ntmps29
  go_wp2_with fail
  refine hr.out.mono ?_
  intro e w' hQ
  obtain ⟨x, y, rfl⟩ := H2.out _ _ hQ
  have HQ := Lib.hid hQ
  clear hQ
  dsimp only
  go_wp2_with fail
  exact HQ.out

end Go.Proofs.Ytdljjcnihajchaa.P4
