/-
  Proved here: plain facts: IPv6 words cut at their gap are the document's.
  Conditions: as each fact says.
-/
import Derived.Test.YtkdplnbabelkoaaDoorP6s
namespace Go.Proofs.YtkdplnbabelkoaaDoor
open Go.RowKit

/-- Groups as bytes. -/
def by16 : List Int → List Int
  | [] => []
  | g :: r => (g / 256) :: (g % 256) :: by16 r
theorem by16_len (G : List Int) : (by16 G).length = 2 * G.length := by
  induction G with
  | nil => rfl
  | cons g r ih => unfold by16; simp [ih]; omega
theorem by16_set (g : Int) : ∀ (G : List Int) (k : Nat), by16 (G.set k g) = ((by16 G).set (2 * k) (g / 256)).set (2 * k + 1) (g % 256) := by
  intro G
  induction G with
  | nil => intro k; rfl
  | cons x r ih =>
    intro k
    cases k with
    | zero => rfl
    | succ k =>
      show (x / 256) :: (x % 256) :: by16 (r.set k g) = _
      rw [ih k]
      rfl
theorem by16_app (A B : List Int) : by16 (A ++ B) = by16 A ++ by16 B := by
  induction A with
  | nil => rfl
  | cons x r ih => show _ :: _ :: by16 (r ++ B) = _; rw [ih]; rfl
def zs8 (n : Nat) : List Int := List.replicate n 0
/-- The groups put so far. -/
def gsAt (l : List Int) (gap : Option Nat) (i : Nat) : List Int := match gap with
  | none => l.take i ++ zs8 (8 - i)
  | some g => if i ≤ g then l.take i ++ zs8 (8 - i) else l.take g ++ zs8 (8 - l.length) ++ (l.drop g).take (i - g) ++ zs8 (l.length - i)
theorem set_mid (A B : List Int) (x y : Int) (k : Nat) (h : k = A.length) : (A ++ x :: B).set k y = A ++ y :: B := by
  rw [h, List.set_append_right _ _ (Nat.le_refl _), Nat.sub_self]
  rfl
theorem zs8_succ (n : Nat) (h : 0 < n) : zs8 n = 0 :: zs8 (n - 1) := by
  obtain ⟨m, rfl⟩ : ∃ m, n = m + 1 := ⟨n - 1, by omega⟩
  rfl
theorem put_step (l : List Int) (i m : Nat) (hi : i < l.length) (hm : 0 < m) (A : List Int) : (A ++ l.take i ++ zs8 m).set (A.length + i) (l.getD i 0) = A ++ l.take (i + 1) ++ zs8 (m - 1) := by
  rw [zs8_succ m hm, set_mid _ _ _ _ _ (by simp; omega), List.take_succ_eq_append_getElem hi]
  have e : l.getD i 0 = l[i] := by rw [List.getD_eq_getElem?_getD, List.getElem?_eq_getElem hi]; rfl
  rw [e]
  simp only [List.append_assoc, List.singleton_append]
theorem put_gs (l : List Int) (gap : Option Nat) (hf : p6fits (some (l, gap)) = true) (hg : ∀ g, gap = some g → g ≤ l.length) : ∀ i, i ≤ l.length → p6put l gap i = by16 (gsAt l gap i) := by
  intro i
  induction i with
  | zero =>
    intro _
    cases gap with
    | none => rfl
    | some g => unfold gsAt; dsimp only; rw [if_pos (Nat.zero_le _)]; rfl
  | succ i ih =>
    intro hi
    unfold p6put
    rw [ih (by omega), ← by16_set]
    congr 1
    cases gap with
    | none =>
      have h8 : l.length = 8 := by simpa [p6fits] using hf
      have := put_step l i (8 - i) hi (by omega) []
      unfold p6k gsAt
      dsimp only
      rw [List.nil_append, List.length_nil, Nat.zero_add, List.nil_append] at this
      rw [this]
      congr 2
    | some g =>
      have h7 : l.length ≤ 7 := by simpa [p6fits] using hf
      have hgl := hg g rfl
      unfold p6k gsAt
      dsimp only
      by_cases h1 : g ≤ i
      · rw [if_pos h1, if_neg (show ¬ i + 1 ≤ g by omega)]
        have hd : i - g < (l.drop g).length := by rw [List.length_drop]; omega
        have e := put_step (l.drop g) (i - g) (l.length - i) hd (by omega) (l.take g ++ zs8 (8 - l.length))
        have e2 : (l.drop g).getD (i - g) 0 = l.getD i 0 := by rw [List.getD_eq_getElem?_getD, List.getD_eq_getElem?_getD, List.getElem?_drop]; congr 2; omega
        have e3 : (l.take g ++ zs8 (8 - l.length)).length + (i - g) = 8 - l.length + i := by unfold zs8; simp; omega
        rw [e2, e3] at e
        have e4 : i - g + 1 = i + 1 - g := by omega
        have e5 : l.length - i - 1 = l.length - (i + 1) := by omega
        rw [e4, e5] at e
        rw [← e]
        congr 1
        by_cases h2 : i ≤ g
        · obtain rfl : i = g := by omega
          rw [if_pos (Nat.le_refl _), Nat.sub_self, List.take_zero, List.append_nil, List.append_assoc]
          congr 1
          unfold zs8
          rw [List.replicate_append_replicate]
          congr 1
          omega
        · rw [if_neg h2]
      · rw [if_neg h1, if_pos (show i ≤ g by omega), if_pos (show i + 1 ≤ g by omega)]
        have := put_step l i (8 - i) hi (by omega) []
        rw [List.nil_append, List.length_nil, Nat.zero_add, List.nil_append] at this
        rw [this]
        congr 2
/-- The numbers of a part of a word. -/
def grs (l : List UInt8) : Option (List Nat) := if l = [] then some [] else rd hexS l [] 0 0
def ints' (l : List Nat) : List Int := l.map Int.ofNat
/-- An address's bytes of the groups in front and behind. -/
def fill6 (f b : List Nat) : List Int := by16 (ints' f ++ zs8 (8 - (f.length + b.length)) ++ ints' b)
/-- What the program reads of an address's word. -/
def six (l : List UInt8) : Option (List Int) := match cutR [58, 58] l with
  | none => match grs l with
    | none => none
    | some f => if f.length = 8 then some (fill6 f []) else none
  | some q => match grs q.1, grs q.2 with
    | some f, some b => if f.length + b.length < 8 then some (fill6 f b) else none
    | _, _ => none
theorem hok_okP (p : List UInt8) : okP hexS p = hok p := (ok_hex p).1
theorem all_hok (ps : List (List UInt8)) : ps.all (okP hexS) = ps.all hok := by congr 1; funext p; exact hok_okP p
theorem map_hexb (ps : List (List UInt8)) (h : ps.all hok = true) : ints' (ps.map (vaP hexS)) = ps.map hexb := by
  unfold ints'
  rw [List.map_map]
  apply List.map_congr_left
  intro p hp
  have h1 := List.all_eq_true.mp h p hp
  rw [← hok_okP] at h1
  exact (ok_hex p).2 h1
/-- A part that is read. -/
theorem grs_ok (l : List UInt8) (hl : l ≠ []) (h : (spL 58 l).all hok = true) : (spL 58 l).length ≤ 8 → ∃ f, grs l = some f ∧ ints' f = (spL 58 l).map hexb ∧ f.length = (spL 58 l).length := by
  intro h8
  refine ⟨(spL 58 l).map (vaP hexS), ?_, map_hexb _ h, by simp⟩
  unfold grs
  rw [if_neg hl, rd_all hexS l (by decide)]
  show (if (spL 58 l).length ≤ 8 ∧ (spL 58 l).all (okP hexS) = true then some ((spL 58 l).map (vaP hexS)) else none) = _
  rw [if_pos ⟨h8, by rw [all_hok]; exact h⟩]
theorem grs_bad (l : List UInt8) (hl : l ≠ []) (h : ¬ ((spL 58 l).length ≤ 8 ∧ (spL 58 l).all hok = true)) : grs l = none := by
  unfold grs
  rw [if_neg hl, rd_all hexS l (by decide)]
  show (if (spL 58 l).length ≤ 8 ∧ (spL 58 l).all (okP hexS) = true then some ((spL 58 l).map (vaP hexS)) else none) = _
  rw [if_neg (by rw [all_hok]; exact h)]
/-- What the document reads, by what the program reads. -/
def Doc6 (R : Option (List Int × Option Nat)) (V : Option (List Int)) : Prop := match V with
  | none => p6fits R = false
  | some v => ∃ l gap, R = some (l, gap) ∧ p6fits (some (l, gap)) = true ∧ p6put l gap l.length = v
theorem fill_gap (f b : List Int) (h : f.length + b.length ≤ 7) : p6put (f ++ b) (some f.length) (f ++ b).length = by16 (f ++ zs8 (8 - (f.length + b.length)) ++ b) := by
  rw [put_gs _ _ (by simp [p6fits]; exact h) (fun g hg => by obtain rfl := Option.some.inj hg; simp) _ (Nat.le_refl _)]
  congr 1
  unfold gsAt
  dsimp only
  by_cases hb : b = []
  · subst hb
    simp [List.take_of_length_le]
  · have : b.length ≠ 0 := fun h0 => hb (List.length_eq_zero_iff.mp h0)
    rw [if_neg (by simp; omega)]
    simp [zs8]
theorem doc_six (l : List UInt8) (n : Nat) (hn : l.length < n) : Doc6 (p6go n (l.drop (if l.take 2 = [58, 58] then 2 else 0)) [] (if l.take 2 = [58, 58] then some 0 else none)) (six l) := by
  by_cases h2 : l.take 2 = [58, 58]
  · rw [if_pos h2, if_pos h2]
    obtain ⟨t, rfl⟩ : ∃ t, l = 58 :: 58 :: t := by
      match l, h2 with
      | a :: b :: t, h2 =>
        have h3 : [a, b] = [58, 58] := h2
        obtain ⟨rfl, h4⟩ := List.cons.inj h3
        obtain ⟨rfl, _⟩ := List.cons.inj h4
        exact ⟨t, rfl⟩
    have hs : six (58 :: 58 :: t) = match grs t with
      | none => none
      | some b => if b.length < 8 then some (fill6 [] b) else none := by
      have hc : cutR [58, 58] (58 :: 58 :: t) = some ([], t) := by
        unfold cutR
        rw [if_pos (by simp)]
        rfl
      unfold six
      rw [hc]
      show (match (some [] : Option (List Nat)), grs t with
        | some f, some b => if f.length + b.length < 8 then some (fill6 f b) else none
        | _, _ => none) = _
      cases grs t with
      | none => rfl
      | some b =>
        dsimp only
        rw [List.length_nil, Nat.zero_add]
    rw [hs, List.drop_succ_cons, List.drop_succ_cons, List.drop_zero]
    rw [go_ps n t [] (some 0) (by simp at hn; omega)]
    by_cases ht : t = []
    · subst ht
      exact ⟨[], some 0, rfl, rfl, rfl⟩
    · rw [if_neg ht, ps_some 0 _ _ (spL_ne _ _)]
      by_cases ha : (spL 58 t).all hok = true
      · rw [if_pos ha]
        by_cases h8 : (spL 58 t).length ≤ 8
        · obtain ⟨b, hb1, hb2, hb3⟩ := grs_ok t ht ha h8
          rw [hb1]
          dsimp only
          rw [← hb2]
          have hbl : (ints' b).length = b.length := by simp [ints']
          by_cases h7 : b.length < 8
          · rw [if_pos h7]
            refine ⟨_, _, rfl, by simp [p6fits, hbl]; omega, ?_⟩
            have e := fill_gap [] (ints' b) (by simp [hbl]; omega)
            rw [hbl] at e
            exact e
          · rw [if_neg h7]
            show p6fits (some ([] ++ ints' b, some 0)) = false
            simp [p6fits, hbl]; omega
        · rw [grs_bad t ht (fun h => h8 h.1)]
          show p6fits (some ([] ++ (spL 58 t).map hexb, some 0)) = false
          simp [p6fits]; omega
      · rw [if_neg ha, grs_bad t ht (fun h => ha h.2)]
        rfl
  · rw [if_neg h2, if_neg h2, List.drop_zero, go_ps n l [] none hn]
    have hcp := cut_two l
    by_cases hl : l = []
    · subst hl
      rfl
    · rw [if_neg hl, ps_none _ _ (spL_ne _ _), hcp]
      unfold six
      cases hc : cutR [58, 58] l with
      | none =>
        dsimp only [Option.map]
        by_cases ha : (spL 58 l).all hok = true
        · rw [if_pos ha]
          by_cases h8 : (spL 58 l).length ≤ 8
          · obtain ⟨f, hf1, hf2, hf3⟩ := grs_ok l hl ha h8
            rw [hf1]
            dsimp only
            rw [← hf2]
            have hfl : (ints' f).length = f.length := by simp [ints']
            by_cases h9 : f.length = 8
            · rw [if_pos h9]
              refine ⟨_, _, rfl, by simp [p6fits, hfl]; omega, ?_⟩
              rw [put_gs _ _ (by simp [p6fits, hfl]; omega) (fun g hg => by cases hg) _ (Nat.le_refl _)]
              unfold fill6 gsAt
              simp [h9, zs8, ints']
              congr 1
              rw [List.take_of_length_le (by simp; omega)]
            · rw [if_neg h9]
              show p6fits (some ([] ++ ints' f, none)) = false
              simp [p6fits, hfl]; omega
          · rw [grs_bad l hl (fun h => h8 h.1)]
            show p6fits (some ([] ++ (spL 58 l).map hexb, none)) = false
            simp [p6fits]; omega
        · rw [if_neg ha, grs_bad l hl (fun h => ha h.2)]
          rfl
      | some q =>
        obtain ⟨a, b⟩ := q
        dsimp only [Option.map]
        have hane : a ≠ [] := by
          intro h
          subst h
          apply h2
          match l, hc with
          | c :: l, hc =>
            unfold cutR at hc
            split at hc
            · rename_i hp
              cases l with
              | nil => simp at hp
              | cons d t =>
                simp at hp
                rw [← hp.1, ← hp.2]; rfl
            · cases hx : cutR [58, 58] l with
              | none => rw [hx] at hc; cases hc
              | some q => rw [hx] at hc; exact absurd (Prod.mk.inj (Option.some.inj hc)).1 (by simp)
        by_cases ha : (spL 58 a).all hok = true
        · rw [if_pos ha]
          by_cases h8 : (spL 58 a).length ≤ 8
          · obtain ⟨f, hf1, hf2, hf3⟩ := grs_ok a hane ha h8
            rw [hf1]
            have hfl : (ints' f).length = f.length := by simp [ints']
            by_cases hb : b = []
            · subst hb
              rw [if_pos (show spL 58 [] = [[]] from rfl)]
              show Doc6 _ (if f.length + 0 < 8 then some (fill6 f []) else none)
              rw [← hf2]
              by_cases h7 : f.length + 0 < 8
              · rw [if_pos h7]
                refine ⟨_, _, rfl, by simp [p6fits, hfl]; omega, ?_⟩
                have e := fill_gap (ints' f) [] (by simp [hfl]; omega)
                rw [hfl, List.append_nil] at e
                rw [List.nil_append, ← hf3, List.length_nil, Nat.zero_add, e]
                rfl
              · rw [if_neg h7]
                show p6fits (some ([] ++ ints' f, _)) = false
                simp [p6fits, hfl]; omega
            · rw [if_neg (fun h => hb (spL_one _ _ h))]
              by_cases hb2 : (spL 58 b).all hok = true
              · rw [if_pos hb2]
                by_cases hb8 : (spL 58 b).length ≤ 8
                · obtain ⟨g, hg1, hg2, hg3⟩ := grs_ok b hb hb2 hb8
                  rw [hg1]
                  have hgl : (ints' g).length = g.length := by simp [ints']
                  show Doc6 _ (if f.length + g.length < 8 then some (fill6 f g) else none)
                  rw [← hf2, ← hg2]
                  by_cases h7 : f.length + g.length < 8
                  · rw [if_pos h7]
                    refine ⟨_, _, rfl, by simp [p6fits, hfl, hgl]; omega, ?_⟩
                    have e := fill_gap (ints' f) (ints' g) (by rw [hfl, hgl]; omega)
                    rw [hfl, hgl] at e
                    rw [List.nil_append, ← hf3, List.length_nil, Nat.zero_add, e]
                    rfl
                  · rw [if_neg h7]
                    show p6fits (some ([] ++ ints' f ++ ints' g, _)) = false
                    simp [p6fits, hfl, hgl]; omega
                · rw [grs_bad b hb (fun h => hb8 h.1)]
                  show p6fits (some ([] ++ (spL 58 a).map hexb ++ (spL 58 b).map hexb, _)) = false
                  simp [p6fits]; omega
              · rw [if_neg hb2, grs_bad b hb (fun h => hb2 h.2)]
                rfl
          · rw [grs_bad a hane (fun h => h8 h.1)]
            show p6fits _ = false
            split
            · simp [p6fits]; omega
            · split
              · simp [p6fits]; omega
              · rfl
        · rw [if_neg ha, grs_bad a hane (fun h => ha h.2)]
          rfl
theorem six_doc (s : ByteArray) : match six (bl s) with
    | none => ok6 s = false ∧ val6 s = zs8 16
    | some v => ok6 s = true ∧ val6 s = v := by
  have h : Doc6 (p6of s) (six (bl s)) := doc_six (bl s) (s.size + 1) (by rw [bl_len]; omega)
  cases hx : six (bl s) with
  | none =>
    rw [hx] at h
    have h1 : p6fits (p6of s) = false := h
    dsimp only
    refine ⟨h1, ?_⟩
    unfold val6
    cases hp : p6of s with
    | none => rfl
    | some q =>
      rw [hp] at h1
      dsimp only
      rw [if_neg (by rw [h1]; simp)]
      rfl
  | some v =>
    rw [hx] at h
    obtain ⟨l, gap, h1, h2, h3⟩ := h
    dsimp only
    unfold ok6 val6
    rw [h1]
    refine ⟨h2, ?_⟩
    dsimp only
    rw [if_pos h2, h3]
end Go.Proofs.YtkdplnbabelkoaaDoor
