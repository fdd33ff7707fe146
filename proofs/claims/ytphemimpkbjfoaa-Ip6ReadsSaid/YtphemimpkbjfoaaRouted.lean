/-
  Proved here: what ip6.Routed, ip6.within, ip6.reaches, ip6.placeWord answer.
  Conditions: the slice's cells hold the extensions; small packets.
-/
import Derived.Test.YtphemimpkbjfoaaChain
import Derived.Test.YtphemimpkbjfoaaPk6
namespace Go.Proofs.Ytphemimpkbjfoaa
open Go.RowKit

set_option maxRecDepth 100000 in
set_option maxHeartbeats 400000 in
theorem routed_any (v : Value) (l : List (Int × ByteArray)) (w : World) (h : Exs w v l) (hl : l.length ≤ 1099511627776) :
    Calls Try.prog 18 #[v] w fun e w' => e = .returned (.bool (rtd l)) ∧ Below w.heap.size w w' := by
  obtain ⟨ao, cap, rfl, _⟩ := id h
  have HC := Lib.hid h
  have HR := Lib.hid (show rtd l = l.any rt1 from rfl)
  clear h
  go_enter Try.func18, Try.ntmps18
  go_wp2_with fail
  go_loopw [7] (fun i wr => ∃ k : Nat, k ≤ l.length ∧ i = .int .i64 k ∧ Hid ((l.take k).any rt1 = false) ∧ Hid (Below w.heap.size w wr)) (fun i _ => l.length - (intOf i).toNat)
  case atStart => exact ⟨0, Nat.zero_le _, rfl, Lib.hid rfl, Lib.hid (Below.refl _ _)⟩
  case round =>
    obtain ⟨k, hk, rfl, HA, HB⟩ := hrel
    by_cases hlt : k < l.length
    · obtain ⟨ao', cap', e, hc⟩ := HC.out.below HB.out (Nat.le_refl _)
      injection e with e1 e2 e3
      subst e1
      obtain ⟨b, o, rfl, c1, c2⟩ := hc k hlt
      clear hc e2 e3
      have HY := Lib.hid (any_yes l k hlt rt1)
      have HN := Lib.hid (any_snoc l k hlt rt1 HA.out)
      have hk2 : (k : Int) < (l.length : Int) := by omega
      have HB2 := fun o => Lib.hid (HB.out.alloc HB.out.size o)
      generalize l[k] = x at *
      obtain ⟨kd, bd⟩ := x
      by_cases h43 : kd = 43
      · subst h43
        by_cases h2 : 2 ≤ bd.size
        · have h21 : (1 : Int) < (bd.size : Int) := by omega
          have hg := byte_get bd 1 (by omega)
          have HG := Lib.hid hg
          clear hg
          generalize hx : bd[1] = x1 at *
          cases h1 : (((x1.toNat : Nat) : Int) != 0)
          · have HT : Hid (rt1 (43, bd) = false) := Lib.hid (by
              unfold rt1
              rw [HG.out]
              have : x1.toNat = 0 := by simpa using h1
              have : x1 = 0 := UInt8.toNat_inj.1 this
              rw [this]
              simp)
            go_wp2_with fail
            go_roundw
            case rel => exact ⟨k + 1, by omega, by go_num, Lib.hid (HN.out HT.out), HB2 _⟩
            case measure => simp [intOf]; omega
          · have HT : Hid (rt1 (43, bd) = true) := Lib.hid (by
              unfold rt1
              rw [HG.out]
              have h3 : x1 ≠ 0 := fun he => by rw [he] at h1; exact absurd h1 (by decide)
              simp [h2, h3])
            go_wp2_with fail
            go_ret
            exact ⟨ret_bool (by rw [HR.out, HY.out HT.out]), (HB2 _).out⟩
        · have HT : Hid (rt1 (43, bd) = false) := Lib.hid (by unfold rt1; simp [h2])
          go_wp2_with fail
          go_roundw
          case rel => exact ⟨k + 1, by omega, by go_num, Lib.hid (HN.out HT.out), HB2 _⟩
          case measure => simp [intOf]; omega
      · have hk43 : (kd == 43) = false := by rw [beq_eq_false_iff_ne]; exact h43
        have HT : Hid (rt1 (kd, bd) = false) := Lib.hid (by unfold rt1; rw [show ((kd, bd).1 == 43) = false from hk43]; rfl)
        clear h43
        go_wp2_with fail
        go_roundw
        case rel => exact ⟨k + 1, by omega, by go_num, Lib.hid (HN.out HT.out), HB2 _⟩
        case measure => simp [intOf]; omega
    · obtain rfl : k = l.length := by omega
      have HT : Hid (rtd l = false) := Lib.hid (by rw [HR.out]; have := HA.out; rwa [List.take_length] at this)
      go_wp2_with fail
      go_ret
      exact ⟨ret_bool HT.out.symm, HB.out⟩
theorem within_any (x m : Int) (w : World) :
    Calls Try.prog 71 #[.int .i64 x, .int .i64 m] w fun e w' => e = .returned (.bool (inB x m)) ∧ w = w' := by
  unfold inB
  by_cases h : 0 ≤ x
  · have h1 : decide (0 ≤ x) = true := by simpa using h
    rw [h1, Bool.true_and]
    clear h
    go_enter Try.func71, Try.ntmps71
    go_wp2_with fail
    go_ret
    exact ⟨rfl, rfl⟩
  · have h1 : decide (0 ≤ x) = false := by simpa using h
    rw [h1, Bool.false_and]
    clear h
    go_enter Try.func71, Try.ntmps71
    go_wp2_with fail
    go_ret
    exact ⟨rfl, rfl⟩
theorem within_at (x m : Int) (b : Bool) (h : inB x m = b) (w : World) :
    Calls Try.prog 71 #[.int .i64 x, .int .i64 m] w fun e w' => e = .returned (.bool b) ∧ w = w' := h ▸ within_any x m w
/-- What a function does with a packet that it is given: the box's cells. -/
theorem boxed6 (p : Pk6) (v : Value) (w : World) : ∃ V, V = p.vals v ∧ V.length = 42 ∧ Cs6 p v w.heap.size (w.alloc (.cells V.toArray 31)) ∧ Kp w w.heap.size [(w.heap.size, 31, V)] (w.alloc (.cells V.toArray 31)) :=
  ⟨_, rfl, vals_len p v, cs6 ((Kp.start w).new 31 (p.vals v)).hd, (Kp.start w).new 31 (p.vals v)⟩
/-- Do a packet's data end where a whole may? -/
def Pk6.rch (p : Pk6) : Bool := decide (p.pl + p.data.size ≤ 65535)
set_option maxRecDepth 100000 in
set_option maxHeartbeats 400000 in
theorem reaches_any (p : Pk6) (v : Value) (w : World) (hd : p.data.size ≤ 70000) (h0 : 0 ≤ p.pl) (h1 : p.pl ≤ 65528) :
    Calls Try.prog 51 #[.agg (p.vals v).toArray] w fun e w' => e = .returned (.bool p.rch) ∧ Below w.heap.size w w' := by
  obtain ⟨V, hV, hVl, hD, hK⟩ := boxed6 p v w
  rw [← hV]
  clear hV
  have d38 := hD.c38
  have d41 := hD.c41
  have HB := Lib.hid hK.2.1
  clear hD hK
  generalize hw1 : w.alloc (.cells V.toArray 31) = w1 at *
  go_enter Try.func51, Try.ntmps51
  go_upto_region 1 with (fail)
  clear hw1
  by_cases h : p.pl + p.data.size ≤ 65535
  · have HT : Hid (p.rch = true) := Lib.hid (decide_eq_true h)
    go_wp2_with fail
    go_ret
    exact ⟨ret_bool HT.out.symm, HB.out⟩
  · have HT : Hid (p.rch = false) := Lib.hid (decide_eq_false h)
    go_wp2_with fail
    go_ret
    exact ⟨ret_bool HT.out.symm, HB.out⟩
/-- Where a packet's data stand, with the bit beside that. -/
def Pk6.place (p : Pk6) : Int := if p.more then p.pl + 1 else p.pl
theorem or_one (x : Int) (h0 : 0 ≤ x) (h1 : x < 65536) (h8 : x % 8 = 0) : bits .or .i64 x 1 = x + 1 := by
  obtain ⟨n, rfl⟩ : ∃ n : Nat, x = n := ⟨x.toNat, by omega⟩
  have hor : n ||| 1 = n + 1 := by
    have := Nat.two_pow_add_eq_or_of_lt (i := 1) (b := 1) (by omega) (n / 2)
    rw [show 2 ^ 1 * (n / 2) = n by omega] at this
    exact this.symm
  have a1 : (BitVec.ofInt 64 (n : Int)).toNat = n := by
    rw [BitVec.ofInt_natCast, BitVec.toNat_ofNat]; exact Nat.mod_eq_of_lt (by omega)
  have a2 : (BitVec.ofInt 64 (1 : Int)).toNat = 1 := by decide
  show IntKind.i64.wrap ((BitVec.ofInt 64 (n : Int) ||| BitVec.ofInt 64 (1 : Int)).toNat : Int) = _
  rw [BitVec.toNat_or, a1, a2, hor, IntKind.wrap_i64]
  omega
set_option maxRecDepth 100000 in
set_option maxHeartbeats 400000 in
theorem placeWord_any (p : Pk6) (v : Value) (w : World) (h0 : 0 ≤ p.pl) (h1 : p.pl < 65536) (h8 : p.pl % 8 = 0) :
    Calls Try.prog 61 #[.agg (p.vals v).toArray] w fun e w' => e = .returned (.int .i64 p.place) ∧ Below w.heap.size w w' := by
  have ho := or_one p.pl h0 h1 h8
  obtain ⟨V, hV, hVl, hD, hK⟩ := boxed6 p v w
  rw [← hV]
  clear hV
  have d38 := hD.c38
  have d39 := hD.c39
  have HB := Lib.hid hK.2.1
  clear hD hK h0 h1 h8
  generalize hw1 : w.alloc (.cells V.toArray 31) = w1 at *
  go_enter Try.func61, Try.ntmps61
  go_upto_region 1 with (fail)
  clear hw1
  cases hm : p.more
  · have HT : Hid (p.place = p.pl) := Lib.hid (by unfold Pk6.place; rw [hm]; rfl)
    rw [hm] at d39
    clear hm
    go_wp2_with fail
    go_ret
    exact ⟨by rw [HT.out]; rfl, HB.out⟩
  · have HT : Hid (p.place = p.pl + 1) := Lib.hid (by unfold Pk6.place; rw [hm]; rfl)
    rw [hm] at d39
    clear hm
    go_wp2_with fail
    go_ret
    exact ⟨by rw [HT.out]; rfl, HB.out⟩
end Go.Proofs.Ytphemimpkbjfoaa
