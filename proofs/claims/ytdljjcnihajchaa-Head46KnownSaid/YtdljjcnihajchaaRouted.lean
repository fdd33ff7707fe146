/-
  Proved here: what ip6.Routed, ip6.within, ip6.reaches, ip6.placeWord answer.
  Conditions: the slice's cells hold the extensions; small packets.
-/
import Derived.Test.YtdljjcnihajchaaChain
import Derived.Test.YtdljjcnihajchaaPk6
namespace Go.Proofs.Ytdljjcnihajchaa
open Go.RowKit

theorem within_any (x m : Int) (w : World) :
    Calls Try.prog 49 #[.int .i64 x, .int .i64 m] w fun e w' => e = .returned (.bool (inB x m)) ∧ w = w' := by
  unfold inB
  by_cases h : 0 ≤ x
  · have h1 : decide (0 ≤ x) = true := by simpa using h
    rw [h1, Bool.true_and]
    clear h
    go_enter Try.func49, Try.ntmps49
    go_wp2_with fail
    go_ret
    exact ⟨rfl, rfl⟩
  · have h1 : decide (0 ≤ x) = false := by simpa using h
    rw [h1, Bool.false_and]
    clear h
    go_enter Try.func49, Try.ntmps49
    go_wp2_with fail
    go_ret
    exact ⟨rfl, rfl⟩
theorem within_at (x m : Int) (b : Bool) (h : inB x m = b) (w : World) :
    Calls Try.prog 49 #[.int .i64 x, .int .i64 m] w fun e w' => e = .returned (.bool b) ∧ w = w' := h ▸ within_any x m w
/-- What a function does with a packet that it is given: the box's cells. -/
theorem boxed6 (p : Pk6) (v : Value) (w : World) : ∃ V, V = p.vals v ∧ V.length = 42 ∧ Cs6 p v w.heap.size (w.alloc (.cells V.toArray 27)) ∧ Kp w w.heap.size [(w.heap.size, 27, V)] (w.alloc (.cells V.toArray 27)) :=
  ⟨_, rfl, vals_len p v, cs6 ((Kp.start w).new 27 (p.vals v)).hd, (Kp.start w).new 27 (p.vals v)⟩
/-- Do a packet's data end where a whole may? -/
def Pk6.rch (p : Pk6) : Bool := decide (p.pl + p.data.size ≤ 65535)
set_option maxRecDepth 100000 in
set_option maxHeartbeats 400000 in
theorem reaches_any (p : Pk6) (v : Value) (w : World) (hd : p.data.size ≤ 70000) (h0 : 0 ≤ p.pl) (h1 : p.pl ≤ 65528) :
    Calls Try.prog 40 #[.agg (p.vals v).toArray] w fun e w' => e = .returned (.bool p.rch) ∧ Below w.heap.size w w' := by
  obtain ⟨V, hV, hVl, hD, hK⟩ := boxed6 p v w
  rw [← hV]
  clear hV
  have d38 := hD.c38
  have d41 := hD.c41
  have HB := Lib.hid hK.2.1
  clear hD hK
  generalize hw1 : w.alloc (.cells V.toArray 27) = w1 at *
  go_enter Try.func40, Try.ntmps40
  go_upto_region 1 with (fail)
  clear hw1
  by_cases h : p.pl + p.data.size ≤ 65535
  · have HT : Hid (p.rch = true) := Lib.hid (decide_eq_true h)
    go_wp2_with fail
    go_ret
    exact ⟨ret_bool HT.out.symm, HB.out⟩
  · have HT : Hid (p.rch = false) := Lib.hid (decide_eq_false h)
    go_wp2_with fail
    go_ret
    exact ⟨ret_bool HT.out.symm, HB.out⟩
/-- Where a packet's data stand, with the bit beside that. -/
def Pk6.place (p : Pk6) : Int := if p.more then p.pl + 1 else p.pl
theorem or_one (x : Int) (h0 : 0 ≤ x) (h1 : x < 65536) (h8 : x % 8 = 0) : bits .or .i64 x 1 = x + 1 := by
  obtain ⟨n, rfl⟩ : ∃ n : Nat, x = n := ⟨x.toNat, by omega⟩
  have hor : n ||| 1 = n + 1 := by
    have := Nat.two_pow_add_eq_or_of_lt (i := 1) (b := 1) (by omega) (n / 2)
    rw [show 2 ^ 1 * (n / 2) = n by omega] at this
    exact this.symm
  have a1 : (BitVec.ofInt 64 (n : Int)).toNat = n := by
    rw [BitVec.ofInt_natCast, BitVec.toNat_ofNat]; exact Nat.mod_eq_of_lt (by omega)
  have a2 : (BitVec.ofInt 64 (1 : Int)).toNat = 1 := by decide
  show IntKind.i64.wrap ((BitVec.ofInt 64 (n : Int) ||| BitVec.ofInt 64 (1 : Int)).toNat : Int) = _
  rw [BitVec.toNat_or, a1, a2, hor, IntKind.wrap_i64]
  omega
set_option maxRecDepth 100000 in
set_option maxHeartbeats 400000 in
theorem placeWord_any (p : Pk6) (v : Value) (w : World) (h0 : 0 ≤ p.pl) (h1 : p.pl < 65536) (h8 : p.pl % 8 = 0) :
    Calls Try.prog 42 #[.agg (p.vals v).toArray] w fun e w' => e = .returned (.int .i64 p.place) ∧ Below w.heap.size w w' := by
  have ho := or_one p.pl h0 h1 h8
  obtain ⟨V, hV, hVl, hD, hK⟩ := boxed6 p v w
  rw [← hV]
  clear hV
  have d38 := hD.c38
  have d39 := hD.c39
  have HB := Lib.hid hK.2.1
  clear hD hK h0 h1 h8
  generalize hw1 : w.alloc (.cells V.toArray 27) = w1 at *
  go_enter Try.func42, Try.ntmps42
  go_upto_region 1 with (fail)
  clear hw1
  cases hm : p.more
  · have HT : Hid (p.place = p.pl) := Lib.hid (by unfold Pk6.place; rw [hm]; rfl)
    rw [hm] at d39
    clear hm
    go_wp2_with fail
    go_ret
    exact ⟨by rw [HT.out]; rfl, HB.out⟩
  · have HT : Hid (p.place = p.pl + 1) := Lib.hid (by unfold Pk6.place; rw [hm]; rfl)
    rw [hm] at d39
    clear hm
    go_wp2_with fail
    go_ret
    exact ⟨by rw [HT.out]; rfl, HB.out⟩
end Go.Proofs.Ytdljjcnihajchaa
