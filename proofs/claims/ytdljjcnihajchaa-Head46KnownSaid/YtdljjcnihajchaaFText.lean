/-
  Proved here: what Text of a num.Reader does and answers: what it reads, and each fault.
  Conditions: the reader's block is whole; texts no longer than the model lets be.
-/
import Derived.Test.YtdljjcnihajchaaFReader
namespace Go.Proofs.Ytdljjcnihajchaa.P4
open Go.RowKit

section
variable {w : World} {b : Nat} {s : ByteArray} {p : Nat} {c : Int}
theorem refusal_neg (n : Int) (hn : n < 0) (b : Nat) (w : World) :
    Calls Try.prog 47 #[.pointer (some ⟨b, 0, none⟩), .int .i64 n] w fun e w' => e = .returned (.int .i64 1) ∧ w' = w := by
  go_enter Try.func47, Try.ntmps47
  go_wp2_with fail
  go_ret
  exact ⟨rfl, rfl⟩
theorem refusal_short (h : Rd w b s p c) (hp : p ≤ s.size) (hs : s.size ≤ maxLen) (n : Int) (hn : 0 ≤ n) (hl : ((s.size - p : Nat) : Int) < n) :
    Calls Try.prog 47 #[.pointer (some ⟨b, 0, none⟩), .int .i64 n] w fun e w' => e = .returned (.int .i64 7) ∧ w' = w.drew := by
  have hc := Lib.hid (left_any h hp hs)
  clear hp hs h
  generalize s.size - p = q at hc hl
  go_enter Try.func47, Try.ntmps47
  go_wp2_with fail
  refine hc.out.mono ?_
  rintro e w' ⟨rfl, rfl⟩
  go_wp2_with fail
  go_ret
  exact ⟨rfl, rfl⟩
theorem refusal_not (h : Rd w b s p c) (hp : p ≤ s.size) (hs : s.size ≤ maxLen) (n : Int) (hn : 0 ≤ n) (hl : n ≤ ((s.size - p : Nat) : Int)) :
    Calls Try.prog 47 #[.pointer (some ⟨b, 0, none⟩), .int .i64 n] w fun e w' => e = .returned (.int .i64 0) ∧ w' = w.drew := by
  have hc := Lib.hid (left_any h hp hs)
  clear hp hs h
  generalize s.size - p = q at hc hl
  go_enter Try.func47, Try.ntmps47
  go_wp2_with fail
  refine hc.out.mono ?_
  rintro e w' ⟨rfl, rfl⟩
  go_wp2_with fail
  go_ret
  exact ⟨rfl, rfl⟩

/-- A call that tells the fault c at p. -/
def Told (b : Nat) (s : ByteArray) (p : Nat) (c : Int) (v : Value) (w : World) (e : Ending) (w' : World) : Prop :=
  e = .returned (.tuple #[v, .iface 50 (.pointer (some ⟨w.heap.size, 0, none⟩))]) ∧ Flt w' w.heap.size c p ∧ Rd w' b s p c ∧ w.grownBy w' (some b)
/-- A call that reads n bytes. -/
def Read (b : Nat) (s : ByteArray) (p n : Nat) (v : Value) (w : World) (e : Ending) (w' : World) : Prop :=
  e = .returned (.tuple #[v, .nilIface]) ∧ Rd w' b s (p + n) 0 ∧ w.grownBy w' (some b)

theorem text_had (h : Rd w b s p c) (n : Int) (hc : (c == 0) = false) (hc' : (c != 0) = true) :
    Calls Try.prog 32 #[.pointer (some ⟨b, 0, none⟩), .int .i64 n] w (Told b s p c (.string ⟨#[]⟩) w) := by
  have c1 := h.c1
  have c2 := h.c2
  have H := Lib.hid h
  clear h
  go_enter Try.func32, Try.ntmps32
  go_wp2_with fail
  go_region
  go_wp2_with fail
  go_ret2
  exact ⟨rfl, Flt.new _ _ _, H.out.drew.alloc _, up_drew (up_alloc (up_refl _ _) _)⟩

theorem text_neg (h : Rd w b s p 0) (n : Int) (hn : n < 0) :
    Calls Try.prog 32 #[.pointer (some ⟨b, 0, none⟩), .int .i64 n] w (Told b s p 1 (.string ⟨#[]⟩) w) := by
  have c1 := h.c1
  have c2 := h.c2
  have z2 := h.z 2
  have H := Lib.hid h
  clear h
  go_enter Try.func32, Try.ntmps32
  go_wp2_with fail
  refine (refusal_neg n hn b _).mono ?_
  rintro e w' ⟨rfl, rfl⟩
  go_wp2_with fail
  go_region
  go_wp2_with fail
  go_ret2
  exact ⟨rfl, Flt.newAt _ _ _ _ (by simp), (H.out.set2 1).alloc _, up_drew (up_alloc (up_set (up_refl _ _) _ _) _)⟩

theorem text_short (h : Rd w b s p 0) (hp : p ≤ s.size) (hs : s.size ≤ maxLen) (n : Int) (hn : 0 ≤ n) (hl : ((s.size - p : Nat) : Int) < n) :
    Calls Try.prog 32 #[.pointer (some ⟨b, 0, none⟩), .int .i64 n] w (Told b s p 7 (.string ⟨#[]⟩) w) := by
  have c1 := h.c1
  have c2 := h.c2
  have z2 := h.z 2
  have H := Lib.hid h
  have hr := Lib.hid (refusal_short h hp hs n hn hl)
  clear h hl hp hs
  go_enter Try.func32, Try.ntmps32
  go_wp2_with fail
  refine hr.out.mono ?_
  rintro e w' ⟨rfl, rfl⟩
  go_wp2_with fail
  go_region
  go_wp2_with fail
  go_ret2
  exact ⟨rfl, Flt.newAt _ _ _ _ (by simp), (H.out.set2 7).alloc _, up_drew (up_drew (up_alloc (up_set (up_refl _ _) _ _) _))⟩

theorem text_ok (h : Rd w b s p 0) (hs : s.size ≤ maxLen) (n : Nat) (hl : p + n ≤ s.size) :
    Calls Try.prog 32 #[.pointer (some ⟨b, 0, none⟩), .int .i64 n] w (Read b s p n (.string (s.extract p (p + n))) w) := by
  have c0 := h.c0
  have c1 := h.c1
  have c2 := h.c2
  have z2 := h.z 2
  have z1 := h.z 1
  have H := Lib.hid h
  have hr := Lib.hid (refusal_not h (by omega) hs n (by omega) (by omega))
  unfold maxLen at hs
  clear h
  go_enter Try.func32, Try.ntmps32
  go_wp2_with fail
  refine hr.out.mono ?_
  rintro e w' ⟨rfl, rfl⟩
  go_wp2_with fail
  go_region
  go_wp2_with fail
  go_ret2
  have hR := (H.out.set2 0).set1 (p + n)
  rw [Int.natCast_add] at hR
  exact ⟨rfl, hR, up_drew (up_drew (up_set (up_set (up_refl _ _) _ _) _ _))⟩
end

theorem text_nil (n : Int) (w : World) :
    Calls Try.prog 32 #[.pointer none, .int .i64 n] w fun e w' => e = .returned (.tuple #[.string ⟨#[]⟩, .iface 50 (.pointer (some ⟨w.heap.size, 0, none⟩))]) ∧ w' = w.alloc (.cells #[.int .i64 2, .int .i64 0] 53) := by
  go_enter Try.func32, Try.ntmps32
  go_wp2_with fail
  go_ret2
  exact ⟨rfl, rfl⟩

theorem rest_nil (w : World) :
    Calls Try.prog 33 #[.pointer none] w fun e w' => e = .returned (.string ⟨#[]⟩) ∧ w = w' := by
  go_enter Try.func33, Try.ntmps33
  go_wp2_with fail
  go_ret
  exact ⟨rfl, rfl⟩

section
variable {w : World} {b : Nat} {s : ByteArray} {p : Nat} {c : Int}
theorem rest_had (h : Rd w b s p c) (hc' : (c != 0) = true) :
    Calls Try.prog 33 #[.pointer (some ⟨b, 0, none⟩)] w fun e w' => e = .returned (.string ⟨#[]⟩) ∧ w = w' := by
  have c2 := h.c2
  clear h
  go_enter Try.func33, Try.ntmps33
  go_wp2_with fail
  go_ret
  exact ⟨rfl, rfl⟩

theorem rest_ok (h : Rd w b s p 0) (hp : p ≤ s.size) :
    Calls Try.prog 33 #[.pointer (some ⟨b, 0, none⟩)] w fun e w' => e = .returned (.string (s.extract p s.size)) ∧ Rd w' b s s.size 0 ∧ w.grownBy w' (some b) := by
  have c0 := h.c0
  have c1 := h.c1
  have c2 := h.c2
  have z1 := h.z 1
  have H := Lib.hid h
  clear h
  go_enter Try.func33, Try.ntmps33
  go_wp2_with fail
  go_region
  go_wp2_with fail
  go_ret
  exact ⟨rfl, H.out.set1 s.size, up_drew (up_set (up_refl _ _) _ _)⟩
end
end Go.Proofs.Ytdljjcnihajchaa.P4
