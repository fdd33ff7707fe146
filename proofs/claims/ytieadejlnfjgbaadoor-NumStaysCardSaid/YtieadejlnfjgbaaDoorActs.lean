/-
  Proved here: one outcome for each call of either reader of layer 1, whatever its state.
  Conditions: both readers' blocks are whole; the place lies within the text.
-/
import Derived.Test.YtieadejlnfjgbaaDoorRef
namespace Go.Proofs.YtieadejlnfjgbaaDoor
open Go.RowKit Go.Extern.Stop Go.Stop Go.Extern

def newC (len p : Nat) (c n : Int) : Int := if c ≠ 0 then c else if n < 0 then 1 else if ((len - p : Nat) : Int) < n then 7 else 0
def newP (len p : Nat) (c n : Int) : Nat := if newC len p c n = 0 then p + n.toNat else p
def newQ (len p : Nat) (c n q : Int) : Int := if c ≠ 0 then q else if newC len p c n = 0 then q else p
def textV (s : ByteArray) (p : Nat) (c n : Int) : ByteArray := if newC s.size p c n = 0 then s.extract p (p + n.toNat) else ⟨#[]⟩

theorem newP_le {len p : Nat} {c n : Int} (hp : p ≤ len) : newP len p c n ≤ len := by
  unfold newP
  split
  · rename_i h
    unfold newC at h
    split at h
    · rename_i hc; exact absurd h hc
    · split at h
      · omega
      · split at h
        · omega
        · omega
  · exact hp
theorem newQ_eq {len p : Nat} {c n q : Int} (hq : c ≠ 0 → q = p) (h : newC len p c n ≠ 0) : newQ len p c n q = newP len p c n := by
  have hP : newP len p c n = p := by unfold newP; rw [if_neg h]
  rw [hP]
  unfold newQ
  by_cases hc : c ≠ 0
  · rw [if_pos hc]; exact hq hc
  · rw [if_neg hc, if_neg h]
theorem textV_size (s : ByteArray) (p : Nat) (c : Int) (n : Nat) : (textV s p c n).size ≤ n := by
  unfold textV
  split
  · simp; omega
  · exact Nat.zero_le _

/-- An error, as the document has it: none at code 0, else a fault of that code and place. -/
def ErrAt (w : World) (ev : Value) (c p : Int) : Prop :=
  (c = 0 ∧ ev = .nilIface) ∨ ((c == 0) = false ∧ ∃ fb, ev = .iface 34 (.pointer (some ⟨fb, 0, none⟩)) ∧ Flt w fb c p)
theorem ErrAt.below {w w' : World} {ev : Value} {c p : Int} (h : ErrAt w ev c p) (hb : Below w.heap.size w w') : ErrAt w' ev c p := by
  rcases h with h | ⟨hc, fb, he, hf⟩
  · exact .inl h
  · exact .inr ⟨hc, fb, he, hf.below hb hf.lt⟩
theorem ErrAt.grown {w w' : World} {ev : Value} {c p : Int} {b : Nat} (h : ErrAt w ev c p) (hg : w.grownBy w' (some b)) (hb : ∀ c p, ¬ Flt w b c p) : ErrAt w' ev c p := by
  rcases h with h | ⟨hc, fb, he, hf⟩
  · exact .inl h
  · exact .inr ⟨hc, fb, he, hf.grown hg (fun e => by cases e; exact hb _ _ hf)⟩

def Prog (b : Nat) (s : ByteArray) (v : Value) (p' : Nat) (c' : Int) (w : World) (e : Ending) (w' : World) : Prop :=
  ∃ ev, e = .returned (.tuple #[v, ev]) ∧ ErrAt w' ev c' p' ∧ Rd w' b s p' c' ∧ w.grownBy w' (some b)
theorem two_prog {b : Nat} {s : ByteArray} {v : Value} {p' : Nat} {c' : Int} {w : World} : Two (Prog b s v p' c' w) := fun _ _ ⟨_, h, _⟩ => ⟨_, _, h⟩

section
variable {w : World} {b : Nat} {s : ByteArray} {p : Nat} {c : Int}
theorem prog_told {v : Value} {c' : Int} (hc : (c' == 0) = false) {e : Ending} {w' : World} (h : Told b s p c' v w e w') : Prog b s v p c' w e w' :=
  ⟨_, h.1, .inr ⟨hc, _, rfl, h.2.1⟩, h.2.2.1, h.2.2.2⟩
theorem prog_read {v : Value} {n : Nat} {e : Ending} {w' : World} (h : Read b s p n v w e w') : Prog b s v (p + n) 0 w e w' :=
  ⟨_, h.1, .inl ⟨rfl, rfl⟩, h.2.1, h.2.2⟩

/-- The cases of a call. -/
theorem cases_of (len p : Nat) (c n : Int) :
    ((c == 0) = false ∧ (c != 0) = true ∧ newC len p c n = c ∧ newP len p c n = p ∧ c ≠ 0) ∨ (c = 0 ∧ n < 0 ∧ newC len p c n = 1 ∧ newP len p c n = p) ∨
    (c = 0 ∧ 0 ≤ n ∧ ((len - p : Nat) : Int) < n ∧ newC len p c n = 7 ∧ newP len p c n = p) ∨
    (c = 0 ∧ ∃ m : Nat, n = m ∧ (m : Int) ≤ ((len - p : Nat) : Int) ∧ newC len p c n = 0 ∧ newP len p c n = p + m) := by
  by_cases hc : c = 0
  · subst hc
    by_cases hn : n < 0
    · refine .inr (.inl ⟨rfl, hn, ?_⟩)
      have : newC len p 0 n = 1 := by unfold newC; rw [if_neg (by simp), if_pos hn]
      exact ⟨this, by unfold newP; rw [this]; rfl⟩
    · by_cases hl : ((len - p : Nat) : Int) < n
      · have : newC len p 0 n = 7 := by unfold newC; rw [if_neg (by simp), if_neg hn, if_pos hl]
        exact .inr (.inr (.inl ⟨rfl, by omega, hl, this, by unfold newP; rw [this]; rfl⟩))
      · have : newC len p 0 n = 0 := by unfold newC; rw [if_neg (by simp), if_neg hn, if_neg hl]
        exact .inr (.inr (.inr ⟨rfl, n.toNat, by omega, by omega, this, by unfold newP; rw [if_pos this]⟩))
  · have : newC len p c n = c := by unfold newC; rw [if_pos hc]
    exact .inl ⟨by simpa using hc, by simpa using hc, this, by unfold newP; rw [this, if_neg hc], hc⟩

theorem text_all (h : Rd w b s p c) (hp : p ≤ s.size) (hs : s.size ≤ maxLen) (n : Int) :
    Calls Tryd.prog 22 #[.pointer (some ⟨b, 0, none⟩), .int .i64 n] w (Prog b s (.string (textV s p c n)) (newP s.size p c n) (newC s.size p c n) w) := by
  rcases cases_of s.size p c n with ⟨h1, h2, hC, hP, h0⟩ | ⟨rfl, hn, hC, hP⟩ | ⟨rfl, hn, hl, hC, hP⟩ | ⟨rfl, m, rfl, hl, hC, hP⟩
  · have hV : textV s p c n = ⟨#[]⟩ := by unfold textV; rw [hC, if_neg h0]
    rw [hC, hP, hV]
    exact (text_had h n h1 h2).mono fun _ _ h => prog_told h1 h
  · have hV : textV s p 0 n = ⟨#[]⟩ := by unfold textV; rw [hC]; rfl
    rw [hC, hP, hV]
    exact (text_neg h n hn).mono fun _ _ h => prog_told rfl h
  · have hV : textV s p 0 n = ⟨#[]⟩ := by unfold textV; rw [hC]; rfl
    rw [hC, hP, hV]
    exact (text_short h hp hs n hn hl).mono fun _ _ h => prog_told rfl h
  · have hV : textV s p 0 m = s.extract p (p + m) := by unfold textV; rw [hC]; rfl
    rw [hC, hP, hV]
    exact (text_ok h hs m (by omega)).mono fun _ _ h => prog_read h

theorem number_all (h : Rd w b s p c) (hp : p ≤ s.size) (hs : s.size ≤ maxLen) (n : Nat) (hn : n ≤ 4) :
    Calls Tryd.prog 30 #[.pointer (some ⟨b, 0, none⟩), .int .i64 n] w (Prog b s (.int .i64 (numOf (textV s p c n).data.toList)) (newP s.size p c n) (newC s.size p c n) w) := by
  rcases cases_of s.size p c n with ⟨h1, h2, hC, hP, h0⟩ | ⟨rfl, hn', hC, hP⟩ | ⟨rfl, hn', hl, hC, hP⟩ | ⟨rfl, m, hm, hl, hC, hP⟩
  · have hV : textV s p c n = ⟨#[]⟩ := by unfold textV; rw [hC, if_neg h0]
    rw [hC, hP, hV]
    exact (number_told n (text_had h n h1 h2)).mono fun _ _ h => prog_told h1 h
  · omega
  · have hV : textV s p 0 n = ⟨#[]⟩ := by unfold textV; rw [hC]; rfl
    rw [hC, hP, hV]
    exact (number_told n (text_short h hp hs n hn' hl)).mono fun _ _ h => prog_told rfl h
  · obtain rfl : n = m := by omega
    have hV : textV s p 0 n = s.extract p (p + n) := by unfold textV; rw [hC]; rfl
    rw [hC, hP, hV]
    exact (number_ok h hs n hn (by omega)).mono fun _ _ h => prog_read h

theorem rtext_all {q : Int} (h : Rr w b s p c q) (hp : p ≤ s.size) (hs : s.size ≤ maxLen) (n : Int) :
    Calls Tryd.prog 23 #[.pointer (some ⟨b, 0, none⟩), .int .i64 n] w (RText b s (textV s p c n) (newP s.size p c n) (newC s.size p c n) (newQ s.size p c n q) w) := by
  rcases cases_of s.size p c n with ⟨h1, h2, hC, hP, h0⟩ | ⟨rfl, hn, hC, hP⟩ | ⟨rfl, hn, hl, hC, hP⟩ | ⟨rfl, m, rfl, hl, hC, hP⟩
  · have hV : textV s p c n = ⟨#[]⟩ := by unfold textV; rw [hC, if_neg h0]
    have hQ : newQ s.size p c n q = q := by unfold newQ; rw [if_pos h0]
    rw [hC, hP, hV, hQ]
    exact rtext_had h n h2
  · have hV : textV s p 0 n = ⟨#[]⟩ := by unfold textV; rw [hC]; rfl
    have hQ : newQ s.size p 0 n q = p := by unfold newQ; rw [hC]; rfl
    rw [hC, hP, hV, hQ]
    exact rtext_neg h n hn
  · have hV : textV s p 0 n = ⟨#[]⟩ := by unfold textV; rw [hC]; rfl
    have hQ : newQ s.size p 0 n q = p := by unfold newQ; rw [hC]; rfl
    rw [hC, hP, hV, hQ]
    by_cases hm : (s.size : Int) < n
    · exact rtext_short1 h n hn hm
    · exact rtext_short2 h hs n hn (by simpa using hm) (by omega) (by simp; omega)
  · have hV : textV s p 0 m = s.extract p (p + m) := by unfold textV; rw [hC]; rfl
    have hQ : newQ s.size p 0 m q = q := by unfold newQ; rw [hC]; rfl
    rw [hC, hP, hV, hQ]
    exact rtext_ok h hs m (by simp; omega) (by omega) (by simp; omega)

theorem rnum_all {q : Int} (h : Rr w b s p c q) (hp : p ≤ s.size) (hs : s.size ≤ maxLen) (n : Nat) (hn : n ≤ 4) :
    Calls Tryd.prog 21 #[.pointer (some ⟨b, 0, none⟩), .int .i64 n] w (RNum b s (numOf (textV s p c n).data.toList) (newP s.size p c n) (newC s.size p c n) (newQ s.size p c n q) w) :=
  rnum_of n (Nat.le_trans (textV_size s p c n) hn) (rtext_all h hp hs n)

/-- 'same' of an error as the document has it. -/
theorem same_all {ev : Value} {p q : Int} (hg : Held w) (h : ErrAt w ev c p) (hq : c ≠ 0 → q = p) :
    Calls Tryd.prog 15 #[ev, .int .i64 c, .int .i64 q] w fun e w' => e = .returned (.bool true) ∧ Below w.heap.size w w' := by
  rcases h with ⟨rfl, rfl⟩ | ⟨hc, fb, rfl, hf⟩
  · exact (same_ok q w).mono fun _ _ ⟨he, hw⟩ => ⟨he, hw ▸ Below.refl _ _⟩
  · rw [hq (by simpa using hc)]
    exact same_fault hg hf hc

def restV (s : ByteArray) (p : Nat) (c : Int) : ByteArray := if c = 0 then s.extract p s.size else ⟨#[]⟩
def restP (len p : Nat) (c : Int) : Nat := if c = 0 then len else p
theorem rest_all (h : Rd w b s p c) (hp : p ≤ s.size) :
    Calls Tryd.prog 18 #[.pointer (some ⟨b, 0, none⟩)] w fun e w' => e = .returned (.string (restV s p c)) ∧ Rd w' b s (restP s.size p c) c ∧ w.grownBy w' (some b) := by
  unfold restV restP
  by_cases hc : c = 0
  · subst hc
    exact rest_ok h hp
  · rw [if_neg hc, if_neg hc]
    exact (rest_had h (by simpa using hc)).mono fun _ _ ⟨he, hw⟩ => ⟨he, hw ▸ h, hw ▸ up_refl _ _⟩
theorem rrest_all {q : Int} (h : Rr w b s p c q) (hp : p ≤ s.size) :
    Calls Tryd.prog 24 #[.pointer (some ⟨b, 0, none⟩)] w fun e w' => e = .returned (.string (restV s p c)) ∧ Rr w' b s (restP s.size p c) c q ∧ w.grownBy w' (some b) := by
  unfold restV restP
  by_cases hc : c = 0
  · subst hc
    exact rrest_ok h hp
  · rw [if_neg hc, if_neg hc]
    exact (rrest_had h (by simpa using hc)).mono fun _ _ ⟨he, hw⟩ => ⟨he, hw ▸ h, hw ▸ up_refl _ _⟩
end
end Go.Proofs.YtieadejlnfjgbaaDoor
