/-
  Proved here: plain facts on the document's words of a text.
  Conditions: none.
-/
import Derived.Test.YtdljjcnihajchaaFPlain
namespace Go.Proofs.Ytdljjcnihajchaa.P4

/-- Word j of a text. -/
def wd (l : List UInt8) (j : Nat) : Nat := 256 * (l.getD (2 * j) 0).toNat + (l.getD (2 * j + 1) 0).toNat
def wds (l : List UInt8) : List Nat := (List.range ((l.length + 1) / 2)).map (wd l)
theorem wds_cons (a b : UInt8) (r : List UInt8) : wds (a :: b :: r) = (256 * a.toNat + b.toNat) :: wds r := by
  unfold wds
  have e : ((a :: b :: r).length + 1) / 2 = (r.length + 1) / 2 + 1 := by simp only [List.length_cons]; omega
  rw [e, List.range_succ_eq_map, List.map_cons, List.map_map]
  rfl
theorem wds_sum : ∀ (n : Nat) (l : List UInt8), l.length ≤ n → (wds l).sum = acc true l
  | 0, l, h => by
    have : l = [] := List.eq_nil_of_length_eq_zero (by omega)
    subst this; rfl
  | n + 1, [], _ => rfl
  | n + 1, [a], _ => by
    simp [wds, wd, acc]
    omega
  | n + 1, a :: b :: r, h => by
    rw [wds_cons, List.sum_cons, wds_sum n r (by simp at h; omega)]
    simp only [acc]
    omega
theorem wds_acc (l : List UInt8) : (wds l).sum = acc true l := wds_sum _ l (Nat.le_refl _)
theorem wd_lt (l : List UInt8) (j : Nat) : wd l j ≤ 65535 := by
  have h1 := (l.getD (2 * j) 0).toNat_lt
  have h2 := (l.getD (2 * j + 1) 0).toNat_lt
  unfold wd
  omega
theorem wds_le (l : List UInt8) : ∀ x ∈ wds l, x ≤ 65535 := by
  intro x hx
  unfold wds at hx
  obtain ⟨j, _, rfl⟩ := List.mem_map.1 hx
  exact wd_lt l j
theorem wds_len (l : List UInt8) : (wds l).length = (l.length + 1) / 2 := by simp [wds]
theorem wds_take (l : List UInt8) (k : Nat) : (List.range (k + 1)).map (wd l) = (List.range k).map (wd l) ++ [wd l k] := by simp [List.range_succ]
theorem sum_le (l : List Nat) (h : ∀ x ∈ l, x ≤ 65535) : l.sum ≤ 65535 * l.length := by
  induction l with
  | nil => simp
  | cons a r ih =>
    have := ih (fun x hx => h x (List.mem_cons_of_mem _ hx))
    have := h a (List.mem_cons_self ..)
    simp only [List.sum_cons, List.length_cons]
    omega
theorem sum_take (l : List Nat) (k : Nat) (hk : k < l.length) : (l.take (k + 1)).sum = (l.take k).sum + l[k] := by
  rw [List.take_succ_eq_append_getElem hk, List.sum_append]
  simp
end Go.Proofs.Ytdljjcnihajchaa.P4
