/-
  Proved here: what tcp.fault, tcp.refusalOfText and tcp.Parse answer.
  Conditions: texts of at most 70000 bytes.
-/
import Derived.Test.YtljlonligbheaaaErr
import Derived.Test.YtljlonligbheaaaNumber
namespace Go.Proofs.Ytljlonligbheaaa
open Go.RowKit

theorem fault_any (c : Int) (w : World) :
    Calls Try.prog 21 #[.int .i64 c] w fun e w' => e = .returned (.iface 67 (.pointer (some ⟨w.heap.size, 0, none⟩))) ∧ w' = w.alloc (.cells #[.int .i64 c, .int .i64 0] 70) := by
  go_enter Try.func21, Try.ntmps21
  go_wp2_with fail
  go_ret
  exact ⟨rfl, rfl⟩
theorem err_new {w : World} {B : Nat} (c : Int) (hc : c ≠ 0) (hB : B ≤ w.heap.size) : ErrV B c (.iface 67 (.pointer (some ⟨w.heap.size, 0, none⟩))) (w.alloc (.cells #[.int .i64 c, .int .i64 0] 70)) := .inr ⟨hc, _, rfl, Flt.new w c 0, hB⟩
theorem err_none {w : World} {B : Nat} : ErrV B 0 .nilIface w := .inl ⟨rfl, rfl⟩
theorem ext_two (s : ByteArray) (i : Nat) (h : i + 1 < s.size) : (s.extract i (i + 2)).data.toList = [s.data.toList.getD i 0, s.data.toList.getD (i + 1) 0] := by
  have hl : i + 1 < s.data.toList.length := by simpa using h
  rw [ext_list, List.drop_take, show i + 2 - i = 2 by omega, List.drop_eq_getElem_cons (by omega), List.take_succ_cons, List.drop_eq_getElem_cons hl, List.take_succ_cons, List.take_zero, List.getD_eq_getElem?_getD, List.getElem?_eq_getElem (by omega), List.getD_eq_getElem?_getD, List.getElem?_eq_getElem hl]
  rfl
theorem num_wd (s : ByteArray) (i j : Nat) (hj : i = 2 * j) (h : i + 1 < s.size) : numOf (s.extract i (i + 2)).data.toList = wd s.data.toList j := by
  subst hj
  rw [ext_two s _ h]
  unfold wd numOf
  simp only [List.foldl_cons, List.foldl_nil]
  omega
theorem err_sets {w : World} {B b : Nat} {c : Int} {v : Value} (h : ErrV B c v w) (hb : b < B) (vs : List Value) : ErrV B c v (w.setCells b 0 vs) := by
  rcases h with h | ⟨h1, f, h2, h3, h4⟩
  · exact .inl h
  · exact .inr ⟨h1, f, h2, Bk.sets_other h3 (by omega) 0 vs, h4⟩
theorem ErrV.lo {B C : Nat} {c : Int} {v : Value} {w : World} (h : ErrV B c v w) (hC : C ≤ B) : ErrV C c v w := by
  rcases h with h | ⟨h1, f, h2, h3, h4⟩
  · exact .inl h
  · exact .inr ⟨h1, f, h2, h3, Nat.le_trans hC h4⟩
theorem reft_short (s : ByteArray) (w : World) (h : s.size < 20) :
    Calls Try.prog 20 #[.string s] w fun e w' => e = .returned (.int .i64 7) ∧ w = w' := by
  have hI : (s.size : Int) < 20 := by omega
  have d1 := decide_eq_true hI
  clear h
  go_enter Try.func20, Try.ntmps20
  go_wp2_with fail
  go_ret
  exact ⟨rfl, rfl⟩

set_option maxRecDepth 100000 in
theorem reft_long (s : ByteArray) (w : World) (h : ¬ s.size < 20) (hs : s.size ≤ 70000) :
    Calls Try.prog 20 #[.string s] w fun e w' => e = .returned (.int .i64 (tcode s)) ∧ w = w' := by
  have hT : tcode s = if byN s 12 / 16 < 5 then 8 else if s.size < byN s 12 / 16 * 4 then 7 else 0 := by
    unfold tcode
    rw [if_neg h]
    by_cases hh : byN s 12 / 16 < 5
    · rw [if_pos (by omega), if_pos hh]
    · rw [if_neg (by omega), if_neg hh]
  rw [hT]
  have hI : ¬ (s.size : Int) < 20 := by omega
  have d1 := decide_eq_false hI
  have i12 : (12 : Int) < (s.size : Int) := by omega
  have i13 : (13 : Int) < (s.size : Int) := by omega
  have h12 : 12 < s.size := by omega
  have hb := byN_at s 12 h12
  have ub := byN_lt s 12
  have k0 : (((s[12]'h12).toNat : Nat) : Int) / 16 = ((byN s 12 / 16 : Nat) : Int) := by rw [← hb]; omega
  have k1 : IntKind.i64.wrap ((byN s 12 / 16 : Nat) : Int) = ((byN s 12 / 16 : Nat) : Int) := IntWalk.i64_in _ (by omega)
  have k2 : IntKind.i64.wrap (((byN s 12 / 16 : Nat) : Int) * 4) = ((byN s 12 / 16 : Nat) : Int) * 4 := IntWalk.i64_in _ (by omega)
  clear h hs hT hb
  generalize byN s 12 / 16 = N at *
  clear ub
  go_enter Try.func20, Try.ntmps20
  by_cases h5 : N < 5
  · have m : ((N : Nat) : Int) < 5 := by omega
    have dm := decide_eq_true m
    rw [if_pos h5]
    clear h5
    go_wp2_with fail
    go_ret
    exact ⟨rfl, rfl⟩
  · have m : ¬ ((N : Nat) : Int) < 5 := by omega
    have dm := decide_eq_false m
    rw [if_neg h5]
    by_cases h6 : s.size < N * 4
    · have m2 : (s.size : Int) < ((N : Nat) : Int) * 4 := by omega
      have dm2 := decide_eq_true m2
      rw [if_pos h6]
      clear h5 h6
      go_wp2_with fail
      go_ret
      exact ⟨rfl, rfl⟩
    · have m2 : ¬ (s.size : Int) < ((N : Nat) : Int) * 4 := by omega
      have dm2 := decide_eq_false m2
      rw [if_neg h6]
      clear h5 h6
      go_wp2_with fail
      go_ret
      exact ⟨rfl, rfl⟩
theorem reft_any (s : ByteArray) (w : World) (hs : s.size ≤ 70000) :
    Calls Try.prog 20 #[.string s] w fun e w' => e = .returned (.int .i64 (tcode s)) ∧ w = w' := by
  by_cases h : s.size < 20
  · have e : tcode s = 7 := by unfold tcode; rw [if_pos h]
    rw [e]
    exact reft_short s w h
  · exact reft_long s w h hs
end Go.Proofs.Ytljlonligbheaaa
