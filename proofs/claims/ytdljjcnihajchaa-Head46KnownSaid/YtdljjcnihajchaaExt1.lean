/-
  Proved here: what ip6.isExt, ip6.inPlace, ip6.fault and ip6.extension do and answer.
  Conditions: the reader's block is whole; texts of at most 2^40 bytes.
-/
import Derived.Test.YtdljjcnihajchaaLow
import Derived.Test.YtdljjcnihajchaaRefChain
namespace Go.Proofs.Ytdljjcnihajchaa
open Go.RowKit

theorem isExt_yes (n : Int) (h : isEx n) (w : World) : Calls Try.prog 50 #[.int .i64 n] w fun e w' => e = .returned (.bool true) ∧ w = w' := by
  rcases h with rfl | rfl | rfl
  all_goals
    go_enter Try.func50, Try.ntmps50
    go_wp2_with fail
    go_ret
    exact ⟨rfl, rfl⟩
theorem isExt_no (n : Int) (h : ¬ isEx n) (w : World) : Calls Try.prog 50 #[.int .i64 n] w fun e w' => e = .returned (.bool false) ∧ w = w' := by
  have k1 : (n == 0) = false := by rw [beq_eq_false_iff_ne]; exact fun hh => h (.inl hh)
  have k2 : (n == 43) = false := by rw [beq_eq_false_iff_ne]; exact fun hh => h (.inr (.inl hh))
  have k3 : (n == 60) = false := by rw [beq_eq_false_iff_ne]; exact fun hh => h (.inr (.inr hh))
  clear h
  go_enter Try.func50, Try.ntmps50
  go_wp2_with fail
  go_ret
  exact ⟨rfl, rfl⟩
theorem isExt_at (n : Int) (b : Bool) (h : decide (isEx n) = b) (w : World) : Calls Try.prog 50 #[.int .i64 n] w fun e w' => e = .returned (.bool b) ∧ w = w' := by
  subst h
  by_cases hx : isEx n
  · rw [decide_eq_true hx]; exact isExt_yes n hx w
  · rw [decide_eq_false hx]; exact isExt_no n hx w
/-- May an extension of a Kind have so many ahead of it? -/
def inPl (k a : Int) : Bool := k != 0 || a == 0
theorem inPlace_any (k a : Int) (w : World) : Calls Try.prog 51 #[.int .i64 k, .int .i64 a] w fun e w' => e = .returned (.bool (inPl k a)) ∧ w = w' := by
  unfold inPl
  cases h1 : (k != 0)
  · cases h2 : (a == 0)
    all_goals
      go_enter Try.func51, Try.ntmps51
      go_wp2_with fail
      go_ret
      exact ⟨rfl, rfl⟩
  · go_enter Try.func51, Try.ntmps51
    go_wp2_with fail
    go_ret
    exact ⟨rfl, rfl⟩
theorem fault_any (c : Int) (w : World) : Calls Try.prog 22 #[.int .i64 c] w fun e w' => e = .returned (.iface 50 (.pointer (some ⟨w.heap.size, 0, none⟩))) ∧ w' = w.alloc (.cells #[.int .i64 c, .int .i64 0] 53) := by
  go_enter Try.func22, Try.ntmps22
  go_wp2_with fail
  go_ret
  exact ⟨rfl, rfl⟩
theorem results_cell3 {P : Program} {fn : Func} {t u y : Tmp} {T : TypeId} {tmps : Array Value} {w : World} {b o : Nat} {v x z : Value} (h : fn.results = #[.cell t T, .tmp u, .tmp y]) (hv : tmps.getD t undef = .pointer (some ⟨b, o, none⟩)) (hx : tmps.getD u undef = x) (hz : tmps.getD y undef = z) (hl : (loadVar T ⟨b, o, none⟩).run P w = .ok v w) :
    (results fn tmps).run P w = .ok (.tuple #[v, x, z]) w := by
  have hv' : tmps[t]?.getD undef = .pointer (some ⟨b, o, none⟩) := by simpa using hv
  have hx' : tmps[u]?.getD undef = x := by simpa using hx
  have hz' : tmps[y]?.getD undef = z := by simpa using hz
  simp [results, h, hv', hx', hz', asAddr, hl]
theorem Try.sizeExt : (Try.prog.info? 57).map (·.size) = some 2 := by kernel_rfl
theorem loadExt {w : World} {b : Nat} {k : Int} {t : ByteArray} (h : Bk w b 57 [.int .i64 k, .string t].toArray) : (loadVar 57 ⟨b, 0, none⟩).run Try.prog w = .ok (.agg #[.int .i64 k, .string t]) w :=
  run_loadVar_mid _ b 0 57 [.int .i64 k, .string t] _ h.range Try.underlying57 rfl Try.sizeExt
theorem up_setNew {w w' : World} {r : Option Nat} {c : Nat} (h : w.grownBy w' r) (hc : w.heap.size ≤ c) (o : Nat) (v : Value) : w.grownBy (w'.setCell ⟨c, o, none⟩ v) r :=
  ⟨h.os, h.tape, h.output, by simpa [World.setCell] using h.size, fun k hk hn => (Below.heap_setCell _ _ _ _ (by show k ≠ c; omega)).trans (h.block k hk hn)⟩
theorem Bk.set2 {w : World} {b : Nat} {T : TypeId} {A : Array Value} (h : Bk w b T A) (hz : A.size = 2) (u v : Value) : Bk ((w.setCell ⟨b, 0, none⟩ u).setCell ⟨b, 1, none⟩ v) b T [u, v].toArray := by
  have h1 := (h.set 0 u).set 1 v
  have e : (A.setIfInBounds 0 u).setIfInBounds 1 v = [u, v].toArray := by
    obtain ⟨l⟩ := A
    match l, hz with
    | [x, y], _ => rfl
  rw [e] at h1
  exact h1
section
variable {w : World} {b : Nat} {s : ByteArray} {p : Nat}
end
end Go.Proofs.Ytdljjcnihajchaa
