/-
  Proved here: plain facts: prefixes' words, as the program reads them.
  Conditions: as each fact says.
-/
import Derived.Test.YtkdplnbabelkoaaDoorMays
import Derived.Test.YtkdplnbabelkoaaDoorPn
import Derived.Test.YtkdplnbabelkoaaDoorSix
namespace Go.Proofs.YtkdplnbabelkoaaDoor
open Go.RowKit

theorem holds_self (p : Nn) : p.holds p.ad = p.may := by
  rw [may_holds p p.ad rfl]
  unfold Nn.may
  cases decide (0 ≤ p.ln) <;> cases decide (p.ln ≤ 8 * (p.ad.length : Int)) <;> cases decide (clr p.ad p.ln = p.ad) <;> rfl
/-- What the document reads of a prefix's word is what the program reads, whatever reads the address. -/
theorem netp (s : ByteArray) (mx : Nat) (V : ByteArray → List UInt8) (O : ByteArray → Bool) :
    (decide ((parts s 47).length = 2) && (O (txt (parts s 47) 0) && (Nn.mk (V (txt (parts s 47) 0)) (numb (bl (txt (parts s 47) 1)) mx)).holds (V (txt (parts s 47) 0)))) = (O (cutA s) && (leno (cutB s) mx && (Nn.mk (V (cutA s)) (lenv (cutB s) mx)).may)) ∧
    ((O (cutA s) && (leno (cutB s) mx && (Nn.mk (V (cutA s)) (lenv (cutB s) mx)).may)) = true → Nn.mk (V (txt (parts s 47) 0)) (numb (bl (txt (parts s 47) 1)) mx) = Nn.mk (V (cutA s)) (lenv (cutB s) mx)) := by
  obtain ⟨h1, h2⟩ := cut_parts s
  by_cases hl : (parts s 47).length = 2
  · obtain ⟨hp, hs⟩ := h1 hl
    rw [decide_eq_true hl, Bool.true_and]
    have e0 : txt (parts s 47) 0 = cutA s := by rw [hp]; rfl
    have e1 : txt (parts s 47) 1 = cutB s := by rw [hp]; rfl
    rw [e0, e1]
    have hself := holds_self (Nn.mk (V (cutA s)) (numb (bl (cutB s)) mx))
    have hself2 : (Nn.mk (V (cutA s)) (numb (bl (cutB s)) mx)).holds (V (cutA s)) = (Nn.mk (V (cutA s)) (numb (bl (cutB s)) mx)).may := hself
    rw [hself2]
    unfold leno lenv
    by_cases h0 : 0 ≤ numb (bl (cutB s)) mx
    · rw [decide_eq_true (show (spL 47 (bl (cutB s))).length = 1 ∧ 0 ≤ numb (bl (cutB s)) mx from ⟨hs, h0⟩), if_pos ⟨hs, h0⟩, Bool.true_and]
      exact ⟨rfl, fun _ => rfl⟩
    · rw [decide_eq_false (fun h => h0 h.2)]
      have hm : (Nn.mk (V (cutA s)) (numb (bl (cutB s)) mx)).may = false := by
        unfold Nn.may
        rw [decide_eq_false h0]
        rfl
      rw [hm]
      refine ⟨by simp, fun h => ?_⟩
      simp at h
  · rw [decide_eq_false hl, Bool.false_and]
    have hno : leno (cutB s) mx = false := by
      unfold leno
      exact decide_eq_false (fun h => hl (h2 mx h.1 h.2))
    rw [hno]
    refine ⟨by simp, fun h => ?_⟩
    simp at h
def val6u (s : ByteArray) : List UInt8 := (val6 s).map fun n => UInt8.ofNat n.toNat
theorem val6u_len (s : ByteArray) : (val6u s).length = 16 := by unfold val6u; rw [List.length_map]; exact val6_len s
theorem by16_in (G : List Int) (h : ∀ g ∈ G, 0 ≤ g ∧ g < 65536) : ∀ n ∈ by16 G, 0 ≤ n ∧ n ≤ 255 := by
  induction G with
  | nil => intro n hn; cases hn
  | cons g r ih =>
    intro n hn
    have hg := h g (by simp)
    have e : by16 (g :: r) = (g / 256) :: (g % 256) :: by16 r := rfl
    rw [e] at hn
    rcases List.mem_cons.1 hn with rfl | hn
    · omega
    · rcases List.mem_cons.1 hn with rfl | hn
      · omega
      · exact ih (fun x hx => h x (by simp [hx])) n hn
theorem grs_in (l : List UInt8) (f : List Nat) (h : grs l = some f) : ∀ n ∈ f, n < 65536 := by
  unfold grs at h
  by_cases hl : l = []
  · rw [if_pos hl] at h
    have := Option.some.inj h
    subst this
    intro n hn; cases hn
  · rw [if_neg hl, rd_all hexS l (by decide)] at h
    by_cases hc : (spL hexS.mark l).length ≤ hexS.count ∧ (spL hexS.mark l).all (okP hexS) = true
    · rw [if_pos hc] at h
      have := Option.some.inj h
      subst this
      intro n hn
      rw [List.mem_map] at hn
      obtain ⟨p, hp, rfl⟩ := hn
      have h1 := List.all_eq_true.mp hc.2 p hp
      have h2 := (ok_hex p).2 h1
      have h3 := hexb_lt p
      omega
    · rw [if_neg hc] at h
      cases h
theorem fill6_in (f b : List Nat) (hf : ∀ n ∈ f, n < 65536) (hb : ∀ n ∈ b, n < 65536) : ∀ n ∈ fill6 f b, 0 ≤ n ∧ n ≤ 255 := by
  unfold fill6
  apply by16_in
  intro g hg
  rcases List.mem_append.1 hg with hg | hg
  · rcases List.mem_append.1 hg with hg | hg
    · unfold ints' at hg
      rw [List.mem_map] at hg
      obtain ⟨n, hn, rfl⟩ := hg
      have := hf n hn
      show 0 ≤ (n : Int) ∧ (n : Int) < 65536
      omega
    · unfold zs8 at hg
      have := (List.mem_replicate.1 hg).2
      omega
  · unfold ints' at hg
    rw [List.mem_map] at hg
    obtain ⟨n, hn, rfl⟩ := hg
    have := hb n hn
    show 0 ≤ (n : Int) ∧ (n : Int) < 65536
    omega
theorem val6_in (s : ByteArray) : ∀ n ∈ val6 s, 0 ≤ n ∧ n ≤ 255 := by
  have h := six_doc s
  cases hx : six (bl s) with
  | none =>
    rw [hx] at h
    dsimp only at h
    rw [h.2]
    intro n hn
    unfold zs8 at hn
    have := (List.mem_replicate.1 hn).2
    omega
  | some v =>
    rw [hx] at h
    dsimp only at h
    rw [h.2]
    unfold six at hx
    split at hx
    · split at hx
      · cases hx
      · rename_i f hf
        split at hx
        · have := Option.some.inj hx
          rw [← this]
          exact fill6_in f [] (grs_in _ f hf) (fun n hn => (by cases hn))
        · cases hx
    · split at hx
      · rename_i f b hf hb
        split at hx
        · have := Option.some.inj hx
          rw [← this]
          exact fill6_in f b (grs_in _ f hf) (grs_in _ b hb)
        · cases hx
      · cases hx
theorem val6u_b8 (s : ByteArray) : bu (val6u s) = b8 (val6 s) := by
  unfold val6u bu b8
  rw [List.map_map]
  apply List.map_congr_left
  intro n hn
  have := val6_in s n hn
  show Value.int .u8 (((UInt8.ofNat n.toNat).toNat : Nat) : Int) = .int .u8 n
  rw [UInt8.toNat_ofNat', Nat.mod_eq_of_lt (by omega)]
  congr 1
  omega
/-- The prefix that a word would be. -/
def net6 (s : ByteArray) : Nn := ⟨val6u (txt (parts s 47) 0), numb (bl (txt (parts s 47) 1)) 128⟩
def okN6 (s : ByteArray) : Bool := decide ((parts s 47).length = 2) && (ok6 (txt (parts s 47) 0) && (net6 s).holds (net6 s).ad)
def zeroN6 : Nn := ⟨[0, 0, 0, 0, 0, 0, 0, 0, 0, 0, 0, 0, 0, 0, 0, 0], 0⟩
def valN6 (s : ByteArray) : Nn := if okN6 s = true then net6 s else zeroN6
/-- What the program reads of a prefix's word. -/
def pN4 (s : ByteArray) : Nn := ⟨val4u (cutA s), lenv (cutB s) 32⟩
def pN6 (s : ByteArray) : Nn := ⟨val6u (cutA s), lenv (cutB s) 128⟩
theorem okN4_p (s : ByteArray) : okN4 s = (ok4 (cutA s) && (leno (cutB s) 32 && (pN4 s).may)) ∧ valN4 s = if okN4 s = true then pN4 s else zeroN4 := by
  have h := netp s 32 val4u ok4
  have h1 : okN4 s = (ok4 (cutA s) && (leno (cutB s) 32 && (pN4 s).may)) := h.1
  refine ⟨h1, ?_⟩
  unfold valN4
  split
  · rename_i ht
    rw [h1] at ht
    exact h.2 ht
  · rfl
theorem okN6_p (s : ByteArray) : okN6 s = (ok6 (cutA s) && (leno (cutB s) 128 && (pN6 s).may)) ∧ valN6 s = if okN6 s = true then pN6 s else zeroN6 := by
  have h := netp s 128 val6u ok6
  have h1 : okN6 s = (ok6 (cutA s) && (leno (cutB s) 128 && (pN6 s).may)) := h.1
  refine ⟨h1, ?_⟩
  unfold valN6
  split
  · rename_i ht
    rw [h1] at ht
    exact h.2 ht
  · rfl
theorem valN6_len (s : ByteArray) : (valN6 s).ad.length = 16 := by
  unfold valN6
  split
  · exact val6u_len _
  · rfl
end Go.Proofs.YtkdplnbabelkoaaDoor
