/-
  Proved here: what an extension put ahead of a chain changes (plain facts).
  Conditions: none.
-/
import Derived.Test.YtphemimpkbjfoaaParsed
namespace Go.Proofs.Ytphemimpkbjfoaa
open Go.RowKit

theorem chn_bad : ∀ (f : Nat) (l : List (Int × ByteArray)) (n : Int) (t : ByteArray), (chn f l n t).code ≠ 0 → chn f l n t = bad (chn f l n t).code := by
  intro f
  induction f with
  | zero => intro l n t _; rfl
  | succ f ih =>
    intro l n t
    unfold chn
    split
    · split
      · intro _; rfl
      · split
        · intro _; rfl
        · split
          · intro _; rfl
          · exact ih _ _ _
    · intro h; exact absurd rfl h
/-- What an extension more ahead leaves. -/
structure Lk (x : Int × ByteArray) (l : List (Int × ByteArray)) (n : Int) (A B : Chn) : Prop where
  bad : A.code ≠ 0 → B.code ≠ 0
  full : A.code = 0 → A.exts.length = 8 → B.code ≠ 0
  head : A.code = 0 → l = [] → n = 0 → B.code ≠ 0
  good : A.code = 0 → A.exts.length ≠ 8 → ¬ (l = [] ∧ n = 0) → B = ⟨x :: A.exts, A.proto, A.rest, 0⟩
theorem link (x : Int × ByteArray) : ∀ (f : Nat) (l : List (Int × ByteArray)) (n : Int) (t : ByteArray), l.length + (f + 1) = 9 → Lk x l n (chn (f + 1) l n t) (chn f (x :: l) n t) := by
  intro f
  induction f with
  | zero =>
    intro l n t hl
    have hB : (chn 0 (x :: l) n t).code ≠ 0 := by show (3 : Int) ≠ 0; decide
    have hA : (chn 1 l n t).code = 0 → (chn 1 l n t).exts.length = 8 := by
      unfold chn
      split
      · split
        · intro h; exact absurd h (by show ¬ (8 : Int) = 0; decide)
        · split
          · intro h; exact absurd h (by show ¬ (3 : Int) = 0; decide)
          · omega
      · intro _; show l.length = 8; omega
    exact ⟨fun _ => hB, fun _ _ => hB, fun _ _ _ => hB, fun h1 h2 => absurd (hA h1) h2⟩
  | succ f ih =>
    intro l n t hl
    have hl7 : l.length ≤ 7 := by omega
    by_cases hx : isEx n
    · by_cases h0 : n = 0 ∧ l ≠ []
      · have eA : chn (f + 1 + 1) l n t = Go.Proofs.Ytphemimpkbjfoaa.bad 8 := by rw [chn]; rw [if_pos hx, if_pos h0]
        have eB : chn (f + 1) (x :: l) n t = Go.Proofs.Ytphemimpkbjfoaa.bad 8 := by rw [chn]; rw [if_pos hx, if_pos ⟨h0.1, List.cons_ne_nil _ _⟩]
        rw [eA, eB]
        have hB : (Go.Proofs.Ytphemimpkbjfoaa.bad 8).code ≠ 0 := by show (8 : Int) ≠ 0; decide
        exact ⟨fun _ => hB, fun _ _ => hB, fun _ _ _ => hB, fun h => absurd h hB⟩
      · by_cases hn0 : n = 0
        · have eB : chn (f + 1) (x :: l) n t = Go.Proofs.Ytphemimpkbjfoaa.bad 8 := by rw [chn]; rw [if_pos hx, if_pos ⟨hn0, List.cons_ne_nil _ _⟩]
          have hln : l = [] := Classical.byContradiction fun h => h0 ⟨hn0, h⟩
          rw [eB]
          have hB : (Go.Proofs.Ytphemimpkbjfoaa.bad 8).code ≠ 0 := by show (8 : Int) ≠ 0; decide
          exact ⟨fun _ => hB, fun _ _ => hB, fun _ _ _ => hB, fun _ _ h => absurd ⟨hln, hn0⟩ h⟩
        · have h0' : ¬ (n = 0 ∧ x :: l ≠ []) := fun h => hn0 h.1
          by_cases hs : t.size < 8 ∨ t.size < exN t
          · have eA : chn (f + 1 + 1) l n t = Go.Proofs.Ytphemimpkbjfoaa.bad 7 := by rw [chn]; rw [if_pos hx, if_neg h0, if_neg (by omega), if_pos hs]
            rw [eA]
            have hA : (Go.Proofs.Ytphemimpkbjfoaa.bad 7).code ≠ 0 := by show (7 : Int) ≠ 0; decide
            have hB : (chn (f + 1) (x :: l) n t).code ≠ 0 := by
              rw [chn]
              rw [if_pos hx, if_neg h0']
              split
              · show (3 : Int) ≠ 0; decide
              · show (7 : Int) ≠ 0; decide
            exact ⟨fun _ => hB, fun _ _ => hB, fun _ _ _ => hB, fun h => absurd h hA⟩
          · have eA : chn (f + 1 + 1) l n t = chn (f + 1) (l ++ [(n, t.extract 2 (exN t))]) (byN t 0) (t.extract (exN t) t.size) := by rw [chn]; rw [if_pos hx, if_neg h0, if_neg (by omega), if_neg hs]
            rw [eA]
            have hll : (l ++ [(n, t.extract 2 (exN t))]).length + (f + 1) = 9 := by rw [List.length_append, List.length_singleton]; omega
            have hI := ih (l ++ [(n, t.extract 2 (exN t))]) (byN t 0) (t.extract (exN t) t.size) hll
            have hne : ¬ (l ++ [(n, t.extract 2 (exN t))] = [] ∧ (byN t 0 : Int) = 0) := fun h => by simp at h
            by_cases h8 : (x :: l).length = 8
            · have eB : chn (f + 1) (x :: l) n t = Go.Proofs.Ytphemimpkbjfoaa.bad 3 := by rw [chn]; rw [if_pos hx, if_neg h0', if_pos h8]
              rw [eB]
              have hB : (Go.Proofs.Ytphemimpkbjfoaa.bad 3).code ≠ 0 := by show (3 : Int) ≠ 0; decide
              refine ⟨fun _ => hB, fun _ _ => hB, fun _ _ _ => hB, fun h1 h2 _ => ?_⟩
              have hf : f = 0 := by rw [List.length_cons] at h8; omega
              subst hf
              have h3 := hI.good h1 h2 hne
              exact absurd (congrArg Chn.code h3) (by show ¬ (3 : Int) = 0; decide)
            · have eB : chn (f + 1) (x :: l) n t = chn f (x :: (l ++ [(n, t.extract 2 (exN t))])) (byN t 0) (t.extract (exN t) t.size) := by rw [chn]; rw [if_pos hx, if_neg h0', if_neg h8, if_neg hs, List.cons_append]
              rw [eB]
              exact ⟨hI.bad, hI.full, fun _ _ h => absurd h hn0, fun h1 h2 _ => hI.good h1 h2 hne⟩
    · have eA : chn (f + 1 + 1) l n t = ⟨l, n, t, 0⟩ := by rw [chn]; rw [if_neg hx]
      have eB : chn (f + 1) (x :: l) n t = ⟨x :: l, n, t, 0⟩ := by rw [chn]; rw [if_neg hx]
      rw [eA, eB]
      exact ⟨fun h => absurd rfl h, fun _ h => absurd h (by show ¬ l.length = 8; omega), fun _ _ h => absurd (.inl h) hx, fun _ _ _ => rfl⟩
/-- The text with a head of extension ahead. -/
def ahead (next e : Int) (k : Nat) (s : ByteArray) : ByteArray := strOfNums [next, e] ++ zs k ++ s
theorem ahead_chn (kd next e : Int) (s : ByteArray) (hk : kd = 43 ∨ kd = 60) (hn : 0 ≤ next) (hn2 : next < 256) (he : 0 ≤ e) (he2 : e < 256) :
    chnE [] kd (ahead next e (6 + 8 * e.toNat) s) = chn 8 [(kd, zs (6 + 8 * e.toNat))] next s := by
  obtain ⟨n, rfl⟩ : ∃ n : Nat, next = n := ⟨next.toNat, by omega⟩
  obtain ⟨m, rfl⟩ : ∃ n : Nat, e = n := ⟨e.toNat, by omega⟩
  rw [Int.toNat_natCast]
  have hn3 : n < 256 := by omega
  have hm3 : m < 256 := by omega
  generalize hT : ahead n m (6 + 8 * m) s = T
  have hl : T.data.toList = [u8i n, u8i m] ++ ((zs (6 + 8 * m)).data.toList ++ s.data.toList) := by
    rw [← hT]
    unfold ahead
    simp only [ByteArray.data_append, Array.toList_append, List.append_assoc]
    rfl
  have hz : (zs (6 + 8 * m)).data.toList.length = 6 + 8 * m := by rw [ba_size, zs_size]
  have hsz : T.size = 8 + 8 * m + s.size := by
    rw [← ba_size, hl, List.length_append, List.length_append, hz, ba_size]
    show 2 + _ = _
    omega
  have b0 : byN T 0 = n := by
    unfold byN
    rw [hl]
    show (u8i n).toNat = n
    unfold u8i
    simp
    omega
  have b1 : byN T 1 = m := by
    unfold byN
    rw [hl]
    show (u8i m).toNat = m
    unfold u8i
    simp
    omega
  have hx : exN T = 8 + 8 * m := by unfold exN; rw [b1]; omega
  have hex : isEx kd := by rcases hk with rfl | rfl; exact .inr (.inl rfl); exact .inr (.inr rfl)
  have hk0 : ¬ (kd = 0 ∧ ([] : List (Int × ByteArray)) ≠ []) := fun h => h.2 rfl
  have e1 : T.extract 2 (exN T) = zs (6 + 8 * m) := by
    apply ba_ext
    rw [hx]
    rw [ext_list, hl, List.drop_take]
    show ((zs (6 + 8 * m)).data.toList ++ s.data.toList).take _ = _
    rw [show 8 + 8 * m - 2 = (zs (6 + 8 * m)).data.toList.length by omega, List.take_left]
  have e2 : T.extract (exN T) T.size = s := by
    apply ba_ext
    rw [ext_end, hx, hl, ← List.append_assoc, show 8 + 8 * m = ([u8i n, u8i m] ++ (zs (6 + 8 * m)).data.toList).length by rw [List.length_append, hz]; show _ = 2 + _; omega, List.drop_left]
  unfold chnE
  show chn (8 + 1) [] kd T = _
  rw [chn]
  rw [if_pos hex, if_neg hk0, if_neg (by decide), if_neg (by omega), e1, e2, b0]
  rfl
end Go.Proofs.Ytphemimpkbjfoaa
