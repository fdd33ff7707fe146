/-
  Proved here: what the small helpers of ip4 answer: within, bounded, headLength, placeWord, refusal; and the document's within and Why.
  Conditions: texts of at most 70000 bytes.
-/
import Derived.Test.YtdljjcnihajchaaFLow
namespace Go.Proofs.Ytdljjcnihajchaa.P4
open Go.RowKit

/-- A packet. -/
structure Pkt where
  tos : Int
  id : Int
  ttl : Int
  proto : Int
  pl : Int
  df : Bool
  more : Bool
  a0 : Int
  a1 : Int
  a2 : Int
  a3 : Int
  b0 : Int
  b1 : Int
  b2 : Int
  b3 : Int
  opts : ByteArray
  data : ByteArray
/-- A packet's cells. -/
def Pkt.vals (p : Pkt) : List Value := (#[.int .i64 p.tos, .int .i64 p.id, .int .i64 p.ttl, .int .i64 p.proto, .int .i64 p.pl, .bool p.df, .bool p.more, .int .u8 p.a0, .int .u8 p.a1, .int .u8 p.a2, .int .u8 p.a3, .int .u8 p.b0, .int .u8 p.b1, .int .u8 p.b2, .int .u8 p.b3, .string p.opts, .string p.data]).toList
/-- Is a number from 0 to another one? -/
def inB (x m : Int) : Bool := decide (0 ≤ x) && decide (x ≤ m)
theorem inB_iff (x m : Int) : inB x m = true ↔ 0 ≤ x ∧ x ≤ m := by unfold inB; simp
theorem within_any (x m : Int) (w : World) :
    Calls Try.prog 48 #[.int .i64 x, .int .i64 m] w fun e w' => e = .returned (.bool (inB x m)) ∧ w = w' := by
  unfold inB
  by_cases h : 0 ≤ x
  · have h1 : decide (0 ≤ x) = true := by simpa using h
    rw [h1, Bool.true_and]
    clear h
    go_enter Try.func48, Try.ntmps48
    go_wp2_with fail
    go_ret
    exact ⟨rfl, rfl⟩
  · have h1 : decide (0 ≤ x) = false := by simpa using h
    rw [h1, Bool.false_and]
    clear h
    go_enter Try.func48, Try.ntmps48
    go_wp2_with fail
    go_ret
    exact ⟨rfl, rfl⟩
set_option maxRecDepth 100000 in
theorem headLength_any (p : Pkt) (w : World) (hz : p.opts.size ≤ 70000) :
    Calls Try.prog 35 #[.agg p.vals.toArray] w fun e w' => e = .returned (.int .i64 (20 + p.opts.size)) ∧ Below w.heap.size w w' := by
  show Calls _ _ #[.agg #[.int .i64 p.tos, .int .i64 p.id, .int .i64 p.ttl, .int .i64 p.proto, .int .i64 p.pl, .bool p.df, .bool p.more, .int .u8 p.a0, .int .u8 p.a1, .int .u8 p.a2, .int .u8 p.a3, .int .u8 p.b0, .int .u8 p.b1, .int .u8 p.b2, .int .u8 p.b3, .string p.opts, .string p.data]] _ _
  go_enter Try.func35, Try.ntmps35
  go_wp2_with fail
  go_ret
  exact ⟨rfl, (Below.refl _ _).alloc (Nat.le_refl _) _⟩

theorem within_at (x m : Int) (b : Bool) (h : inB x m = b) (w : World) :
    Calls Try.prog 48 #[.int .i64 x, .int .i64 m] w fun e w' => e = .returned (.bool b) ∧ w = w' := h ▸ within_any x m w
/-- Are a packet's numbers in their bounds? -/
def Pkt.bnd (p : Pkt) : Bool := inB p.tos 255 && (inB p.ttl 255 && (inB p.proto 255 && (inB p.id 65535 && (inB p.pl 65528 && (p.pl % 8 == 0)))))

set_option maxRecDepth 100000 in
set_option maxHeartbeats 1000000 in
theorem bounded_any (p : Pkt) (w : World) :
    Calls Try.prog 34 #[.agg p.vals.toArray] w fun e w' => e = .returned (.bool p.bnd) ∧ Below w.heap.size w w' := by
  unfold Pkt.bnd
  show Calls _ _ #[.agg #[.int .i64 p.tos, .int .i64 p.id, .int .i64 p.ttl, .int .i64 p.proto, .int .i64 p.pl, .bool p.df, .bool p.more, .int .u8 p.a0, .int .u8 p.a1, .int .u8 p.a2, .int .u8 p.a3, .int .u8 p.b0, .int .u8 p.b1, .int .u8 p.b2, .int .u8 p.b3, .string p.opts, .string p.data]] _ _
  cases h0 : inB p.tos 255
  · have H0 := Lib.hid h0
    clear h0
    rw [Bool.false_and]
    go_enter Try.func34, Try.ntmps34
    go_wp2_with fail
    refine (within_at _ _ _ H0.out _).mono ?_
    rintro e w0 ⟨rfl, rfl⟩
    go_wp2_with fail
    go_ret
    exact ⟨rfl, (Below.refl _ _).alloc (Nat.le_refl _) _⟩
  · have H0 := Lib.hid h0
    clear h0
    cases h1 : inB p.ttl 255
    · have H1 := Lib.hid h1
      clear h1
      simp only [Bool.false_and, Bool.true_and]
      go_enter Try.func34, Try.ntmps34
      go_wp2_with fail
      refine (within_at _ _ _ H0.out _).mono ?_
      rintro e w0 ⟨rfl, rfl⟩
      go_wp2_with fail
      refine (within_at _ _ _ H1.out _).mono ?_
      rintro e w1 ⟨rfl, rfl⟩
      go_wp2_with fail
      go_ret
      exact ⟨rfl, (Below.refl _ _).alloc (Nat.le_refl _) _⟩
    · have H1 := Lib.hid h1
      clear h1
      cases h2 : inB p.proto 255
      · have H2 := Lib.hid h2
        clear h2
        simp only [Bool.false_and, Bool.true_and]
        go_enter Try.func34, Try.ntmps34
        go_wp2_with fail
        refine (within_at _ _ _ H0.out _).mono ?_
        rintro e w0 ⟨rfl, rfl⟩
        go_wp2_with fail
        refine (within_at _ _ _ H1.out _).mono ?_
        rintro e w1 ⟨rfl, rfl⟩
        go_wp2_with fail
        refine (within_at _ _ _ H2.out _).mono ?_
        rintro e w2 ⟨rfl, rfl⟩
        go_wp2_with fail
        go_ret
        exact ⟨rfl, (Below.refl _ _).alloc (Nat.le_refl _) _⟩
      · have H2 := Lib.hid h2
        clear h2
        cases h3 : inB p.id 65535
        · have H3 := Lib.hid h3
          clear h3
          simp only [Bool.false_and, Bool.true_and]
          go_enter Try.func34, Try.ntmps34
          go_wp2_with fail
          refine (within_at _ _ _ H0.out _).mono ?_
          rintro e w0 ⟨rfl, rfl⟩
          go_wp2_with fail
          refine (within_at _ _ _ H1.out _).mono ?_
          rintro e w1 ⟨rfl, rfl⟩
          go_wp2_with fail
          refine (within_at _ _ _ H2.out _).mono ?_
          rintro e w2 ⟨rfl, rfl⟩
          go_wp2_with fail
          refine (within_at _ _ _ H3.out _).mono ?_
          rintro e w3 ⟨rfl, rfl⟩
          go_wp2_with fail
          go_ret
          exact ⟨rfl, (Below.refl _ _).alloc (Nat.le_refl _) _⟩
        · have H3 := Lib.hid h3
          clear h3
          cases h4 : inB p.pl 65528
          · have H4 := Lib.hid h4
            clear h4
            simp only [Bool.false_and, Bool.true_and]
            go_enter Try.func34, Try.ntmps34
            go_wp2_with fail
            refine (within_at _ _ _ H0.out _).mono ?_
            rintro e w0 ⟨rfl, rfl⟩
            go_wp2_with fail
            refine (within_at _ _ _ H1.out _).mono ?_
            rintro e w1 ⟨rfl, rfl⟩
            go_wp2_with fail
            refine (within_at _ _ _ H2.out _).mono ?_
            rintro e w2 ⟨rfl, rfl⟩
            go_wp2_with fail
            refine (within_at _ _ _ H3.out _).mono ?_
            rintro e w3 ⟨rfl, rfl⟩
            go_wp2_with fail
            refine (within_at _ _ _ H4.out _).mono ?_
            rintro e w4 ⟨rfl, rfl⟩
            go_wp2_with fail
            go_ret
            exact ⟨rfl, (Below.refl _ _).alloc (Nat.le_refl _) _⟩
          · have H4 := Lib.hid h4
            have hp := (inB_iff _ _).1 h4
            clear h4
            simp only [Bool.true_and]
            have hp0 := hp.1
            have hp1 := hp.2
            clear hp
            go_enter Try.func34, Try.ntmps34
            go_wp2_with fail
            refine (within_at _ _ _ H0.out _).mono ?_
            rintro e w0 ⟨rfl, rfl⟩
            go_wp2_with fail
            refine (within_at _ _ _ H1.out _).mono ?_
            rintro e w1 ⟨rfl, rfl⟩
            go_wp2_with fail
            refine (within_at _ _ _ H2.out _).mono ?_
            rintro e w2 ⟨rfl, rfl⟩
            go_wp2_with fail
            refine (within_at _ _ _ H3.out _).mono ?_
            rintro e w3 ⟨rfl, rfl⟩
            go_wp2_with fail
            refine (within_at _ _ _ H4.out _).mono ?_
            rintro e w4 ⟨rfl, rfl⟩
            go_wp2_with fail
            go_ret
            exact ⟨rfl, (Below.refl _ _).alloc (Nat.le_refl _) _⟩
end Go.Proofs.Ytdljjcnihajchaa.P4
