/-
  Proved here: plain facts: an address's word is read as that address.
  Conditions: as each fact says.
-/
import Derived.Test.YtkdplnbabelkoaaDoorText4
import Derived.Test.YtkdplnbabelkoaaDoorText6
import Derived.Test.YtkdplnbabelkoaaDoorPnn
import Derived.Test.YtkdplnbabelkoaaDoorPw
namespace Go.Proofs.YtkdplnbabelkoaaDoor
open Go.RowKit

/-! Joined pieces. -/
theorem spL_none (m : UInt8) (p : List UInt8) (h : m ∉ p) : spL m p = [p] := by
  induction p with
  | nil => rfl
  | cons c r ih =>
    rw [spL_hd m c r (fun e => h (by simp [e])), ih (fun e => h (by simp [e]))]
    rfl
theorem spL_app (m : UInt8) (p r : List UInt8) (h : m ∉ p) : spL m (p ++ m :: r) = p :: spL m r := by
  induction p with
  | nil => rw [List.nil_append]; show (if m = m then [] :: spL m r else _) = _; rw [if_pos rfl]
  | cons c t ih =>
    rw [List.cons_append, spL_hd m c _ (fun e => h (by simp [e])), ih (fun e => h (by simp [e]))]
    rfl
theorem jn_one (sep p : List UInt8) : jn sep [p] = p := by simp [jn]
theorem jn_two (sep p q : List UInt8) (r : List (List UInt8)) : jn sep (p :: q :: r) = p ++ (sep ++ jn sep (q :: r)) := by
  unfold jn
  rw [List.intercalate_cons_cons]
  simp
theorem spL_jn (m : UInt8) : ∀ ws : List (List UInt8), ws ≠ [] → (∀ p ∈ ws, m ∉ p) → spL m (jn [m] ws) = ws := by
  intro ws
  induction ws with
  | nil => intro h; exact absurd rfl h
  | cons p r ih =>
    intro _ h
    cases r with
    | nil => rw [jn_one]; exact spL_none m p (h p (by simp))
    | cons q r =>
      rw [jn_two, List.singleton_append, spL_app m p _ (h p (by simp)), ih (by simp) (fun x hx => h x (by simp [hx]))]
theorem jn_hd (m c : UInt8) (p : List UInt8) (ps : List (List UInt8)) : jn [m] ((c :: p) :: ps) = c :: jn [m] (p :: ps) := by
  cases ps with
  | nil => rw [jn_one, jn_one]
  | cons q r => rw [jn_two, jn_two]; rfl
theorem jn_spL (m : UInt8) (l : List UInt8) : jn [m] (spL m l) = l := by
  induction l with
  | nil => exact jn_one _ _
  | cons c r ih =>
    have hne := spL_ne m r
    by_cases hc : c = m
    · have e : spL m (c :: r) = [] :: spL m r := by show (if c = m then _ else _) = _; rw [if_pos hc]
      rw [e]
      cases hs : spL m r with
      | nil => exact absurd hs hne
      | cons p ps => rw [jn_two, ← hs, ih, hc]; rfl
    · rw [spL_hd m c r hc]
      cases hs : spL m r with
      | nil => exact absurd hs hne
      | cons p ps =>
        show jn [m] ((c :: p) :: ps) = _
        rw [jn_hd, ← hs, ih]
theorem jn_length (m : UInt8) (ws : List (List UInt8)) : (jn [m] ws).length = (ws.map List.length).sum + (ws.length - 1) := by
  induction ws with
  | nil => rfl
  | cons p r ih =>
    cases r with
    | nil => rw [jn_one]; simp
    | cons q r =>
      rw [jn_two, List.length_append, List.length_append, ih]
      simp only [List.map_cons, List.sum_cons, List.length_cons, List.length_nil]
      omega
/-! Hexadecimal words. -/
theorem dgt_hex (k : Nat) (h : k < 16) : hexv (dgt k) = (k : Int) ∧ ((48 ≤ (dgt k).toNat ∧ (dgt k).toNat ≤ 57) ∨ (97 ≤ (dgt k).toNat ∧ (dgt k).toNat ≤ 102)) := by
  have : ∀ k : Fin 16, hexv (dgt k.val) = (k.val : Int) ∧ ((48 ≤ (dgt k.val).toNat ∧ (dgt k.val).toNat ≤ 57) ∨ (97 ≤ (dgt k.val).toNat ∧ (dgt k.val).toNat ≤ 102)) := by decide
  exact this ⟨k, h⟩
theorem hexd_val : ∀ n : Nat, hval (hexd n) = (n : Int) ∧ ∀ c ∈ hexd n, ∃ k, k < 16 ∧ c = dgt k := by
  intro n
  induction n using Nat.strongRecOn with
  | ind n ih =>
    by_cases h : n < 16
    · rw [hexd_small n h]
      refine ⟨?_, fun c hc => ⟨n, h, List.mem_singleton.1 hc⟩⟩
      show 16 * 0 + hexv (dgt n) = (n : Int)
      rw [(dgt_hex n h).1]
      omega
    · rw [hexd_big n h]
      have i := ih (n / 16) (by omega)
      refine ⟨by rw [hval_snoc, i.1, (dgt_hex _ (Nat.mod_lt _ (by omega))).1]; omega, fun c hc => ?_⟩
      rcases List.mem_append.1 hc with h1 | h1
      · exact i.2 c h1
      · exact ⟨n % 16, Nat.mod_lt _ (by omega), List.mem_singleton.1 h1⟩
theorem hexb_hexd (n : Nat) (h : n < 65536) : hexb (hexd n) = (n : Int) := by
  have hl := hexd_len n h
  have hv := hexd_val n
  unfold hexb
  rw [if_neg (by omega), if_pos (by
    rw [List.all_eq_true]
    intro c hc
    obtain ⟨k, hk, rfl⟩ := hv.2 c hc
    unfold isHex
    rw [(dgt_hex k hk).1]
    exact decide_eq_true (by omega))]
  exact hv.1
theorem hexd_sign (n : Nat) : ∀ c ∈ hexd n, (48 ≤ c.toNat ∧ c.toNat ≤ 57) ∨ (97 ≤ c.toNat ∧ c.toNat ≤ 102) := fun c hc => by
  obtain ⟨k, hk, rfl⟩ := (hexd_val n).2 c hc
  exact (dgt_hex k hk).2
theorem hexd_no (n : Nat) (m : UInt8) (hm : m = 58 ∨ m = 47) : m ∉ hexd n := fun h => by
  have h1 := hexd_sign n m h
  have e1 : ((58 : UInt8)).toNat = 58 := rfl
  have e2 : ((47 : UInt8)).toNat = 47 := rfl
  rcases hm with rfl | rfl <;> omega
theorem hexd_hok (n : Nat) (h : n < 65536) : hok (hexd n) = true := by
  unfold hok
  rw [hexb_hexd n h]
  exact decide_eq_true (by omega)
theorem wds6_mem (x : List UInt8) : ∀ p ∈ wds6 x, ∃ i, p = hexd (grpN x i) := fun p hp => by
  unfold wds6 at hp
  rw [List.mem_map] at hp
  obtain ⟨i, _, rfl⟩ := hp
  exact ⟨i, rfl⟩
theorem wds6_no (x : List UInt8) (m : UInt8) (hm : m = 58 ∨ m = 47) : ∀ p ∈ wds6 x, m ∉ p := fun p hp => by
  obtain ⟨i, rfl⟩ := wds6_mem x p hp
  exact hexd_no _ m hm
theorem wds6_hok (x : List UInt8) : ∀ p ∈ wds6 x, hok p = true := fun p hp => by
  obtain ⟨i, rfl⟩ := wds6_mem x p hp
  exact hexd_hok _ (grpN_lt x i)
theorem wds6_ne (x : List UInt8) : ∀ p ∈ wds6 x, p ≠ [] := fun p hp h => by
  obtain ⟨i, rfl⟩ := wds6_mem x p hp
  have := (hexd_len _ (grpN_lt x i)).1
  rw [h] at this
  simp at this
/-- An address's groups. -/
def gps (x : List UInt8) : List Int := (List.range 8).map fun i => ((grpN x i : Nat) : Int)
theorem gps_len (x : List UInt8) : (gps x).length = 8 := by unfold gps; simp
theorem gps_at (x : List UInt8) (i : Nat) (h : i < 8) : (gps x)[i]? = some ((grpN x i : Nat) : Int) := by
  unfold gps
  rw [List.getElem?_map, List.getElem?_range h]
  rfl
theorem wds6_hexb (x : List UInt8) : (wds6 x).map hexb = gps x := by
  unfold wds6 gps
  rw [List.map_map]
  apply List.map_congr_left
  intro i _
  exact hexb_hexd _ (grpN_lt x i)
/-! What is read of joined groups. -/
theorem grs_jn (ws : List (List UInt8)) (hl : ws.length ≤ 8) (hno : ∀ p ∈ ws, (58 : UInt8) ∉ p) (hk : ∀ p ∈ ws, hok p = true) : ∃ f, grs (jn [58] ws) = some f ∧ ints' f = ws.map hexb ∧ f.length = ws.length := by
  by_cases hne : ws = []
  · subst hne
    exact ⟨[], rfl, rfl, rfl⟩
  have h := spL_jn 58 ws hne hno
  have hl0 : jn [58] ws ≠ [] := by
    intro h0
    rw [h0] at h
    have h1 : ws = [[]] := h.symm
    have h2 := hk [] (by rw [h1]; simp)
    exact absurd h2 (by decide)
  have h3 := grs_ok (jn [58] ws) hl0 (by rw [h]; exact List.all_eq_true.2 hk) (by rw [h]; exact hl)
  rw [h] at h3
  exact h3
theorem cutP_none : ∀ ps : List (List UInt8), (∀ p ∈ ps, p ≠ []) → cutP ps = none ∧ ∀ q, cutP (ps ++ [q]) = none := by
  intro ps
  induction ps with
  | nil => intro _; exact ⟨rfl, fun q => rfl⟩
  | cons p r ih =>
    intro h
    cases r with
    | nil =>
      refine ⟨rfl, fun q => ?_⟩
      show (if q = [] ∧ ([] : List (List UInt8)) ≠ [] then _ else (cutP [q]).map _) = none
      rw [if_neg (fun h => h.2 rfl)]
      rfl
    | cons p2 r =>
      have i := ih (fun x hx => h x (by simp [hx]))
      have h2 : p2 ≠ [] := h p2 (by simp)
      refine ⟨?_, fun q => ?_⟩
      · show (if p2 = [] ∧ r ≠ [] then _ else (cutP (p2 :: r)).map _) = none
        rw [if_neg (fun h => h2 h.1), i.1]
        rfl
      · show (if p2 = [] ∧ r ++ [q] ≠ [] then _ else (cutP (p2 :: (r ++ [q]))).map _) = none
        rw [if_neg (fun h => h2 h.1)]
        have := i.2 q
        rw [List.cons_append] at this
        rw [this]
        rfl
theorem cutR_pieces (l : List UInt8) (h : cutP (spL 58 l) = none) : cutR [58, 58] l = none := by
  have := cut_two l
  rw [h] at this
  cases hc : cutR [58, 58] l with
  | none => rfl
  | some q => rw [hc] at this; cases this
theorem cutR_first (a b : List UInt8) (h : cutR [58, 58] (a ++ [58]) = none) : cutR [58, 58] (a ++ [58, 58] ++ b) = some (a, b) := by
  induction a with
  | nil => rfl
  | cons c a ih =>
    have e : cutR [58, 58] (c :: a ++ [58]) = if ([58, 58] : List UInt8).isPrefixOf (c :: (a ++ [58])) = true then some ([], (c :: (a ++ [58])).drop 2) else (cutR [58, 58] (a ++ [58])).map fun q => (c :: q.1, q.2) := rfl
    rw [e] at h
    have e2 : cutR [58, 58] (c :: a ++ [58, 58] ++ b) = if ([58, 58] : List UInt8).isPrefixOf (c :: (a ++ [58, 58] ++ b)) = true then some ([], (c :: (a ++ [58, 58] ++ b)).drop 2) else (cutR [58, 58] (a ++ [58, 58] ++ b)).map fun q => (c :: q.1, q.2) := rfl
    rw [e2]
    split at h
    · cases h
    · rename_i hp
      have hn : cutR [58, 58] (a ++ [58]) = none := by
        cases hc : cutR [58, 58] (a ++ [58]) with
        | none => rfl
        | some q => rw [hc] at h; cases h
      rw [if_neg (by
        cases a with
        | nil => simpa using hp
        | cons d a => simpa using hp), ih hn]
      rfl
theorem cutR_gap (A : List (List UInt8)) (b : List UInt8) (hno : ∀ p ∈ A, (58 : UInt8) ∉ p) (hne : ∀ p ∈ A, p ≠ []) : cutR [58, 58] (jn [58] A ++ [58, 58] ++ b) = some (jn [58] A, b) := by
  apply cutR_first
  by_cases hA : A = []
  · subst hA
    rfl
  · apply cutR_pieces
    rw [spL_snoc, if_pos rfl, spL_jn 58 A hA hno]
    exact (cutP_none A hne).2 []
/-! An IPv6 address's own word. -/
theorem gps_gap (x : List UInt8) (F N : Nat) (hin : F + N ≤ 8) (hz : ∀ j, F ≤ j → j < F + N → grpN x j = 0) : gps x = (gps x).take F ++ zs8 N ++ (gps x).drop (F + N) := by
  have e : ((gps x).drop F).take N = zs8 N := by
    unfold zs8
    rw [List.eq_replicate_iff]
    have hl := gps_len x
    refine ⟨by rw [List.length_take, List.length_drop, hl]; omega, fun v hv => ?_⟩
    obtain ⟨i, hi, rfl⟩ := List.mem_iff_getElem.1 hv
    rw [List.length_take, List.length_drop, hl] at hi
    have hi1 : i < N := Nat.lt_of_lt_of_le hi (Nat.min_le_left _ _)
    rw [List.getElem_take, List.getElem_drop]
    have h1 := gps_at x (F + i) (by omega)
    rw [List.getElem?_eq_getElem (by rw [hl]; omega)] at h1
    rw [Option.some.inj h1, hz (F + i) (Nat.le_add_right _ _) (by omega)]
    rfl
  rw [← e, List.append_assoc, ← List.drop_drop, List.take_append_drop, List.take_append_drop]
theorem by16_gps (x : List UInt8) (hx : x.length = 16) : by16 (gps x) = x.map fun c => (c.toNat : Int) := by
  match x, hx with
  | [a0, a1, a2, a3, a4, a5, a6, a7, a8, a9, aa, ab, ac, ad, ae, af], _ =>
    have key : ∀ a b : UInt8, (((256 * a.toNat + b.toNat : Nat)) : Int) / 256 = (a.toNat : Int) ∧ (((256 * a.toNat + b.toNat : Nat)) : Int) % 256 = (b.toNat : Int) := fun a b => by
      have := a.toNat_lt
      have := b.toNat_lt
      omega
    show [_, _, _, _, _, _, _, _, _, _, _, _, _, _, _, _] = _
    simp only [List.map_cons, List.map_nil]
    rw [← (key a0 a1).1, ← (key a2 a3).1, ← (key a4 a5).1, ← (key a6 a7).1, ← (key a8 a9).1, ← (key aa ab).1, ← (key ac ad).1, ← (key ae af).1]
    have h2 : ∀ a b : UInt8, (b.toNat : Int) = (((256 * a.toNat + b.toNat : Nat)) : Int) % 256 := fun a b => (key a b).2.symm
    simp only [h2 a0 a1, h2 a2 a3, h2 a4 a5, h2 a6 a7, h2 a8 a9, h2 aa ab, h2 ac ad, h2 ae af]
    rfl
theorem hok_ne (p : List UInt8) (h : hok p = true) : p ≠ [] := fun e => by rw [e] at h; exact absurd h (by decide)
/-- Eight words of groups, one behind the other. -/
theorem six_full (x : List UInt8) (hx : x.length = 16) (W : List (List UInt8)) (hl : W.length = 8) (hno : ∀ p ∈ W, (58 : UInt8) ∉ p) (hk : ∀ p ∈ W, hok p = true) (hv : W.map hexb = gps x) : six (jn [58] W) = some (x.map fun c => (c.toNat : Int)) := by
  unfold six
  rw [cutR_pieces _ (by
    rw [spL_jn 58 W (by intro h; rw [h] at hl; cases hl) hno]
    exact (cutP_none _ (fun p hp => hok_ne p (hk p hp))).1)]
  dsimp only
  obtain ⟨f, hf, hi, hfl⟩ := grs_jn W (by omega) hno hk
  rw [hf]
  dsimp only
  rw [if_pos (by omega)]
  unfold fill6
  rw [hi, hv, hfl, hl]
  show some (by16 (gps x ++ [] ++ [])) = _
  rw [List.append_nil, List.append_nil, by16_gps x hx]
/-- Words of groups with a run of noughts left out. -/
theorem six_run (x : List UInt8) (hx : x.length = 16) (W : List (List UInt8)) (hl : W.length = 8) (hno : ∀ p ∈ W, (58 : UInt8) ∉ p) (hk : ∀ p ∈ W, hok p = true) (hv : W.map hexb = gps x) (F N : Nat) (hN : 0 < N) (hin : F + N ≤ 8) (hz : ∀ j, F ≤ j → j < F + N → grpN x j = 0) :
    six (jn [58] (W.take F) ++ [58, 58] ++ jn [58] (W.drop (F + N))) = some (x.map fun c => (c.toNat : Int)) := by
  unfold six
  have hA : ∀ p ∈ W.take F, p ∈ W := fun p hp => List.mem_of_mem_take hp
  have hB : ∀ p ∈ W.drop (F + N), p ∈ W := fun p hp => List.mem_of_mem_drop hp
  rw [cutR_gap _ _ (fun p hp => hno p (hA p hp)) (fun p hp => hok_ne p (hk p (hA p hp)))]
  dsimp only
  obtain ⟨f, hf, hi, hfl⟩ := grs_jn (W.take F) (by rw [List.length_take]; omega) (fun p hp => hno p (hA p hp)) (fun p hp => hk p (hA p hp))
  obtain ⟨b, hb, hj, hbl⟩ := grs_jn (W.drop (F + N)) (by rw [List.length_drop]; omega) (fun p hp => hno p (hB p hp)) (fun p hp => hk p (hB p hp))
  rw [List.length_take, hl] at hfl
  rw [List.length_drop, hl] at hbl
  rw [hf, hb]
  dsimp only
  rw [if_pos (by omega)]
  unfold fill6
  rw [hi, hj, List.map_take, List.map_drop, hv, show 8 - (f.length + b.length) = N by omega, ← gps_gap x F N hin hz, by16_gps x hx]
theorem six_txt6 (x : List UInt8) (hx : x.length = 16) : six (txt6 x) = some (x.map fun c => (c.toNat : Int)) := by
  unfold txt6
  by_cases h2 : lrN x < 2
  · rw [if_pos h2]
    exact six_full x hx _ (wds6_len x) (wds6_no x 58 (.inl rfl)) (wds6_hok x) (wds6_hexb x)
  · rw [if_neg h2]
    exact six_run x hx _ (wds6_len x) (wds6_no x 58 (.inl rfl)) (wds6_hok x) (wds6_hexb x) _ _ (by omega) (lrS_in x 8).1 (lrS_zero x 8).1
theorem txt6_back (x : List UInt8) (hx : x.length = 16) (s : ByteArray) (hs : bl s = txt6 x) : ok6 s = true ∧ val6 s = x.map fun c => (c.toNat : Int) := by
  have h := six_doc s
  rw [hs, six_txt6 x hx] at h
  exact h
theorem bu_of (x : List UInt8) : b8 (x.map fun c => (c.toNat : Int)) = bu x := by
  unfold b8 bu
  rw [List.map_map]
  rfl
theorem un_of (x : List UInt8) : ((x.map fun c => (c.toNat : Int)).map fun n => UInt8.ofNat n.toNat) = x := by
  rw [List.map_map]
  conv => rhs; rw [← List.map_id x]
  apply List.map_congr_left
  intro c _
  show UInt8.ofNat ((c.toNat : Int)).toNat = c
  simp
/-! An IPv4 address's word. -/
theorem itoa_byte (n : Nat) (h : n < 256) : numb (Lib.itoa (n : Int)) 255 = (n : Int) ∧ (46 : UInt8) ∉ Lib.itoa (n : Int) ∧ (47 : UInt8) ∉ Lib.itoa (n : Int) := by
  have : ∀ k : Fin 256, numb (Lib.itoa ((k.val : Nat) : Int)) 255 = ((k.val : Nat) : Int) ∧ (46 : UInt8) ∉ Lib.itoa ((k.val : Nat) : Int) ∧ (47 : UInt8) ∉ Lib.itoa ((k.val : Nat) : Int) := by decide +kernel
  exact this ⟨n, h⟩
theorem txt4_spL (x : List UInt8) (hx : x.length = 4) : spL 46 (txt4 x) = x.map fun c => Lib.itoa ((c.toNat : Nat) : Int) := by
  unfold txt4
  refine spL_jn 46 _ (by intro h; have := congrArg List.length h; rw [List.length_map, hx] at this; cases this) (fun p hp => ?_)
  rw [List.mem_map] at hp
  obtain ⟨c, _, rfl⟩ := hp
  exact (itoa_byte _ c.toNat_lt).2.1
theorem txt4_back (x : List UInt8) (hx : x.length = 4) (s : ByteArray) (hs : bl s = txt4 x) : ok4 s = true ∧ val4 s = x.map fun c => (c.toNat : Int) := by
  have h := four_doc s
  have hsp := txt4_spL x hx
  have hr : rd P4 (bl s) [] 0 0 = if (spL 46 (bl s)).length ≤ 4 ∧ (spL 46 (bl s)).all (okP P4) = true then some ((spL 46 (bl s)).map (vaP P4)) else none := rd_all P4 (bl s) (by decide)
  have hk : ∀ c : UInt8, okP P4 (Lib.itoa ((c.toNat : Nat) : Int)) = true := fun c => by
    have h1 := (ok_dec 46 255 4 (Lib.itoa ((c.toNat : Nat) : Int))).1
    have h2 := (itoa_byte _ c.toNat_lt).1
    have e1 : ((255 : Nat) : Int) = 255 := rfl
    rw [e1, h2] at h1
    exact h1.trans (decide_eq_true (by omega))
  have hv : ∀ c : UInt8, (vaP P4 (Lib.itoa ((c.toNat : Nat) : Int)) : Int) = (c.toNat : Int) := fun c => by
    have h1 := (ok_dec 46 255 4 (Lib.itoa ((c.toNat : Nat) : Int))).2 (hk c)
    have h2 := (itoa_byte _ c.toNat_lt).1
    have e1 : ((255 : Nat) : Int) = 255 := rfl
    rw [e1, h2] at h1
    exact h1
  rw [hs, hsp, if_pos ⟨by rw [List.length_map]; omega, by
    rw [List.all_map, List.all_eq_true]
    intro c _
    exact hk c⟩] at hr
  rw [hs, hr] at h
  dsimp only at h
  rw [if_pos (by simp [hx])] at h
  refine ⟨h.1, ?_⟩
  rw [h.2]
  unfold ints'
  rw [List.map_map, List.map_map]
  apply List.map_congr_left
  intro c _
  exact hv c
end Go.Proofs.YtkdplnbabelkoaaDoor
