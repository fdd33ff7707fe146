/-
  Proved here: what U8, U16 and U32 of a num.Reader do and answer.
  Conditions: the reader's block is whole; texts no longer than the model lets be.
-/
import Derived.Test.YtphemimpkbjfoaaText
namespace Go.Proofs.Ytphemimpkbjfoaa
open Go.RowKit

section
variable {w : World} {b : Nat} {s : ByteArray} {p : Nat} {c : Int}
theorem number_ok (h : Rd w b s p 0) (hs : s.size ≤ maxLen) (n : Nat) (hn : n ≤ 4) (hl : p + n ≤ s.size) :
    Calls Try.prog 67 #[.pointer (some ⟨b, 0, none⟩), .int .i64 n] w (Read b s p n (.int .i64 (numOf (s.extract p (p + n)).data.toList)) w) := by
  have hr := Lib.hid (text_ok h hs n hl)
  have hz : (s.extract p (p + n)).size = n := by simp; omega
  clear h
  generalize s.extract p (p + n) = t at hr hz
  subst hz
  go_enter Try.func67, Try.ntmps67
  go_wp2_with fail
  refine hr.out.mono ?_
  rintro e w' ⟨rfl, hR, hG⟩
  have HR := Lib.hid hR
  have HG := Lib.hid hG
  clear hR hG
  go_wp2_with fail
  go_loop [8, 21] (fun x i => ∃ k : Nat, k ≤ t.size ∧ i = .int .i64 k ∧ x = .int .i64 (numOf (t.data.toList.take k))) (fun _ i => t.size - (intOf i).toNat)
  case atStart => exact ⟨0, Nat.zero_le _, rfl, rfl⟩
  case round =>
    obtain ⟨k, hk, rfl, rfl⟩ := hrel
    have hb := numOf_take t.data.toList k (by omega)
    by_cases hlt : k < t.size
    · have h8 := t[k].toNat_lt
      have HO := Lib.hid (or_i64 (numOf (t.data.toList.take k)) t[k].toNat hb h8)
      have HT := Lib.hid (take_snoc t k hlt)
      go_wp2_with fail
      go_round
      case rel => exact ⟨k + 1, by omega, by go_num, by rw [HO.out, HT.out, numOf_snoc]⟩
      case measure => simp [intOf]; omega
    · go_wp2_with fail
      go_ret2
      refine ⟨?_, HR.out, HG.out⟩
      rw [List.take_of_length_le (by simp; omega)]
      rfl

theorem number_told (n : Int) {c : Int} (ht : Calls Try.prog 46 #[.pointer (some ⟨b, 0, none⟩), .int .i64 n] w (Told b s p c (.string ⟨#[]⟩) w)) :
    Calls Try.prog 67 #[.pointer (some ⟨b, 0, none⟩), .int .i64 n] w (Told b s p c (.int .i64 0) w) := by
  have hr := Lib.hid ht
  clear ht
  go_enter Try.func67, Try.ntmps67
  go_wp2_with fail
  refine hr.out.mono ?_
  rintro e w' ⟨rfl, hR⟩
  have HR := Lib.hid hR
  clear hR
  go_wp2_with fail
  go_ret2
  exact ⟨rfl, HR.out⟩
end
theorem number_nil (n : Int) (w : World) :
    Calls Try.prog 67 #[.pointer none, .int .i64 n] w fun e w' => e = .returned (.tuple #[.int .i64 0, .iface 83 (.pointer (some ⟨w.heap.size, 0, none⟩))]) ∧ w' = w.alloc (.cells #[.int .i64 2, .int .i64 0] 86) := by
  go_enter Try.func67, Try.ntmps67
  go_wp2_with fail
  refine (text_nil n w).mono ?_
  rintro e w' ⟨rfl, rfl⟩
  go_wp2_with fail
  go_ret2
  exact ⟨rfl, rfl⟩

/-- A contract of a call that answers two things. -/
def Two (Q : Ending → World → Prop) : Prop := ∀ e w', Q e w' → ∃ x y, e = .returned (.tuple #[x, y])
theorem two_told {b : Nat} {s : ByteArray} {p : Nat} {c : Int} {v : Value} {w : World} : Two (Told b s p c v w) := fun _ _ h => ⟨_, _, h.1⟩
theorem two_read {b : Nat} {s : ByteArray} {p n : Nat} {v : Value} {w : World} : Two (Read b s p n v w) := fun _ _ h => ⟨_, _, h.1⟩

theorem u8_of (r : Option Addr) (w : World) {Q : Ending → World → Prop} (h : Calls Try.prog 67 #[.pointer r, .int .i64 1] w Q) (h2 : Two Q) :
    Calls Try.prog 45 #[.pointer r] w Q := by
  have hr := Lib.hid h
  have H2 := Lib.hid h2
  clear h h2
  go_enter Try.func45, Try.ntmps45
  go_wp2_with fail
  refine hr.out.mono ?_
  intro e w' hQ
  obtain ⟨x, y, rfl⟩ := H2.out _ _ hQ
  have HQ := Lib.hid hQ
  clear hQ
  dsimp only
  go_wp2_with fail
  exact HQ.out

theorem u16_of (r : Option Addr) (w : World) {Q : Ending → World → Prop} (h : Calls Try.prog 67 #[.pointer r, .int .i64 2] w Q) (h2 : Two Q) :
    Calls Try.prog 48 #[.pointer r] w Q := by
  have hr := Lib.hid h
  have H2 := Lib.hid h2
  clear h h2
  go_enter Try.func48, Try.ntmps48
  go_wp2_with fail
  refine hr.out.mono ?_
  intro e w' hQ
  obtain ⟨x, y, rfl⟩ := H2.out _ _ hQ
  have HQ := Lib.hid hQ
  clear hQ
  dsimp only
  go_wp2_with fail
  exact HQ.out

theorem u32_of (r : Option Addr) (w : World) {Q : Ending → World → Prop} (h : Calls Try.prog 67 #[.pointer r, .int .i64 4] w Q) (h2 : Two Q) :
    Calls Try.prog 47 #[.pointer r] w Q := by
  have hr := Lib.hid h
  have H2 := Lib.hid h2
  clear h h2
  go_enter Try.func47, Try.ntmps47
  go_wp2_with fail
  refine hr.out.mono ?_
  intro e w' hQ
  obtain ⟨x, y, rfl⟩ := H2.out _ _ hQ
  have HQ := Lib.hid hQ
  clear hQ
  dsimp only
  go_wp2_with fail
  exact HQ.out

end Go.Proofs.Ytphemimpkbjfoaa
