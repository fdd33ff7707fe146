/-
  Proved here: plain facts on the bytes of a message that may be: what they are parsed as, that they are right, that a turned bit is told; and on what is parsed.
  Conditions: the message may be; the head has an even size.
-/
import Derived.Test.YtmfolkbmkfifcaaTurn
namespace Go.Proofs.Ytmfolkbmkfifcaa
open Go.RowKit

theorem tw_acc {x : Int} (h0 : 0 ≤ x) (h1 : x ≤ 65535) : acc true (tw x).data.toList = x.toNat := by
  obtain ⟨n, rfl⟩ : ∃ n : Nat, x = n := ⟨x.toNat, by omega⟩
  exact twoB_acc (by omega)
theorem acc_cat (a b : ByteArray) (h : a.size % 2 = 0) : acc true (a ++ b).data.toList = acc true a.data.toList + acc true b.data.toList := by
  rw [cat_list]
  exact acc_even _ (by unfold evn; rw [ba_size, beq_iff_eq]; exact h)
/-- What stands ahead of the sum, and behind it. -/
def Ms.pre (d : Ms) : ByteArray := strOfNums [d.kd, d.cd]
def Ms.post (d : Ms) : ByteArray := fw d.rs ++ d.da
theorem form_pre (d : Ms) (x : Int) : d.form x = d.pre ++ tw x ++ d.post := rfl
theorem form_acc (d : Ms) (ps : ByteArray) (he : ps.size % 2 = 0) {x : Int} (h0 : 0 ≤ x) (h1 : x ≤ 65535) :
    acc true (ps ++ d.form x).data.toList = (acc true ps.data.toList + acc true d.pre.data.toList + acc true d.post.data.toList) + x.toNat := by
  have hp : d.pre.size = 2 := rfl
  rw [form_pre, acc_cat _ _ he, acc_cat _ _ (by rw [dcat_len, hp, tw_size]), acc_cat _ _ (by rw [hp]), tw_acc h0 h1]
  omega
theorem bytes_right (d : Ms) (ps : ByteArray) (he : ps.size % 2 = 0) : sumL (ps ++ d.bytes ps).data.toList = 0 := by
  have hs := sumN_le d ps
  unfold Ms.bytes
  rw [sumL_zero, form_acc d ps he (by omega) (by omega)]
  have hN : d.sumN ps = 65535 - fold (acc true ps.data.toList + acc true d.pre.data.toList + acc true d.post.data.toList) := by
    unfold Ms.sumN sumL
    rw [form_acc d ps he (show (0 : Int) ≤ 0 by omega) (by omega), show (0 : Int).toNat = 0 from rfl, Nat.add_zero]
  generalize acc true ps.data.toList + acc true d.pre.data.toList + acc true d.post.data.toList = X at *
  rw [hN]
  by_cases hX : 0 < X
  · exact fold_own hX
  · obtain rfl : X = 0 := by omega
    rfl
theorem bytes_code (d : Ms) (ps : ByteArray) (he : ps.size % 2 = 0) : mcode ps (d.bytes ps) = 0 := by
  unfold mcode
  rw [if_neg (by unfold Ms.bytes; rw [form_size]; omega), if_pos (bytes_right d ps he)]
theorem bytes_turned (d : Ms) (ps : ByteArray) (he : ps.size % 2 = 0) (K : Nat) (hK : K < (d.bytes ps).size) (y : UInt8) (hy : y ≠ (d.bytes ps)[K]'hK) : mcode ps (setB (d.bytes ps) K y) ≠ 0 := by
  unfold mcode
  by_cases h1 : (setB (d.bytes ps) K y).size < 8
  · rw [if_pos h1]
    decide
  · rw [if_neg h1]
    have h0 := bytes_right d ps he
    have e : (ps ++ setB (d.bytes ps) K y).data.toList = (ps ++ d.bytes ps).data.toList.set (ps.size + K) y := by
      rw [cat_list, cat_list, setB_list, List.set_append_right _ _ (by rw [ba_size]; omega), ba_size, Nat.add_sub_cancel_left]
    have hlt : ps.size + K < (ps ++ d.bytes ps).data.toList.length := by rw [ba_size, dcat_len]; omega
    have hne : y ≠ (ps ++ d.bytes ps).data.toList[ps.size + K]'hlt := by
      intro h
      apply hy
      rw [h]
      have e2 : (ps ++ d.bytes ps).data.toList[ps.size + K]? = some ((d.bytes ps)[K]'hK) := by
        rw [cat_list, List.getElem?_append_right (by rw [ba_size]; omega), ba_size, Nat.add_sub_cancel_left, List.getElem?_eq_getElem (by rw [ba_size]; exact hK)]
        rfl
      rw [List.getElem?_eq_getElem hlt] at e2
      injection e2
    have h3 := sum_turned hlt hne
    rw [← e, h0] at h3
    rw [if_neg h3]
    decide
theorem fw_back (n : Nat) (hn : n < 4294967296) : ∀ (a b c d : UInt8), fwL n = [a, b, c, d] → (256 * a.toNat + b.toNat) * 65536 + (256 * c.toNat + d.toNat) = n := by
  intro a b c d h
  unfold fwL at h
  injection h with h1 h
  injection h with h2 h
  injection h with h3 h
  injection h with h4 h
  have g1 := u8i_nat (x := ((n : Nat) : Int) / 16777216) (by omega) (by omega)
  have g2 := u8i_nat (x := ((n : Nat) : Int) / 65536 % 256) (by omega) (by omega)
  have g3 := u8i_nat (x := ((n : Nat) : Int) / 256 % 256) (by omega) (by omega)
  have g4 := u8i_nat (x := ((n : Nat) : Int) % 256) (by omega) (by omega)
  rw [h1] at g1
  rw [h2] at g2
  rw [h3] at g3
  rw [h4] at g4
  omega
theorem fwL_four (n : Nat) : ∃ a b c d, fwL n = [a, b, c, d] := ⟨_, _, _, _, rfl⟩
theorem form_mpkt {d : Ms} (hw : d.why = 0) (hx : d.rs < 4294967296) (x : Int) : (mpkt (d.form x)).kd = d.kd ∧ (mpkt (d.form x)).cd = d.cd ∧ (mpkt (d.form x)).rs = d.rs ∧ (mpkt (d.form x)).da = d.da := by
  obtain ⟨⟨p0, p1⟩, ⟨q0, q1⟩⟩ := why_zero hw
  obtain ⟨f0, f1, f2, f3, hf⟩ := fwL_four d.rs
  have g0 := u8i_nat (x := d.kd) (by omega) (by omega)
  have g1 := u8i_nat (x := d.cd) (by omega) (by omega)
  have b1 := (u8i d.cd).toNat_lt
  have hb := fw_back d.rs hx _ _ _ _ hf
  have hl := form_list d x
  rw [hf] at hl
  have w0 : wd (d.form x).data.toList 0 = 256 * (u8i d.kd).toNat + (u8i d.cd).toNat := by rw [hl]; rfl
  have w2 : wd (d.form x).data.toList 2 = 256 * f0.toNat + f1.toNat := by rw [hl]; rfl
  have w3 : wd (d.form x).data.toList 3 = 256 * f2.toNat + f3.toNat := by rw [hl]; rfl
  refine ⟨?_, ?_, ?_, ?_⟩
  · show ((wd (d.form x).data.toList 0 / 256 : Nat) : Int) = _
    rw [w0]
    omega
  · show ((wd (d.form x).data.toList 0 % 256 : Nat) : Int) = _
    rw [w0]
    omega
  · show wd (d.form x).data.toList 2 * 65536 + wd (d.form x).data.toList 3 = _
    rw [w2, w3]
    exact hb
  · show (d.form x).extract 8 (d.form x).size = _
    apply ba_ext
    rw [ext_end, hl]
    rfl
theorem eight (l : List UInt8) (h : 8 ≤ l.length) : ∃ a0 a1 a2 a3 a4 a5 a6 a7 t, l = a0 :: a1 :: a2 :: a3 :: a4 :: a5 :: a6 :: a7 :: t := by
  rcases l with _ | ⟨a0, l⟩
  · simp at h
  rcases l with _ | ⟨a1, l⟩
  · simp at h
  rcases l with _ | ⟨a2, l⟩
  · simp at h
  rcases l with _ | ⟨a3, l⟩
  · simp at h
  rcases l with _ | ⟨a4, l⟩
  · simp at h
  rcases l with _ | ⟨a5, l⟩
  · simp at h
  rcases l with _ | ⟨a6, l⟩
  · simp at h
  rcases l with _ | ⟨a7, l⟩
  · simp at h
  exact ⟨a0, a1, a2, a3, a4, a5, a6, a7, l, rfl⟩
theorem u8i_back (c : UInt8) (x : Int) (h : x = (c.toNat : Int)) : u8i x = c := by
  subst h
  exact UInt8.toNat_inj.1 (by have := u8i_nat (x := (c.toNat : Int)) (by omega) (by have := c.toNat_lt; omega); omega)
theorem mpkt_form (s : ByteArray) (h : 8 ≤ s.size) (x : Int) : (mpkt s).why = 0 ∧ ((mpkt s).form x).size = s.size ∧ ((mpkt s).form x).extract 0 2 = s.extract 0 2 ∧ ((mpkt s).form x).extract 4 s.size = s.extract 4 s.size := by
  obtain ⟨a0, a1, a2, a3, a4, a5, a6, a7, t, hl⟩ := eight s.data.toList (by rw [ba_size]; exact h)
  have w0 : wd s.data.toList 0 = 256 * a0.toNat + a1.toNat := by rw [hl]; rfl
  have w2 : wd s.data.toList 2 = 256 * a4.toNat + a5.toNat := by rw [hl]; rfl
  have w3 : wd s.data.toList 3 = 256 * a6.toNat + a7.toNat := by rw [hl]; rfl
  have t0 := a0.toNat_lt
  have t1 := a1.toNat_lt
  have t4 := a4.toNat_lt
  have t5 := a5.toNat_lt
  have t6 := a6.toNat_lt
  have t7 := a7.toNat_lt
  have hk : (mpkt s).kd = (a0.toNat : Int) := by
    show ((wd s.data.toList 0 / 256 : Nat) : Int) = _
    rw [w0]
    omega
  have hc : (mpkt s).cd = (a1.toNat : Int) := by
    show ((wd s.data.toList 0 % 256 : Nat) : Int) = _
    rw [w0]
    omega
  have hr : (mpkt s).rs = (256 * a4.toNat + a5.toNat) * 65536 + (256 * a6.toNat + a7.toNat) := by
    show wd s.data.toList 2 * 65536 + wd s.data.toList 3 = _
    rw [w2, w3]
  have hd : (mpkt s).da.data.toList = t := by
    show (s.extract 8 s.size).data.toList = _
    rw [ext_end, hl]
    rfl
  have hz : (mpkt s).da.size + 8 = s.size := by rw [← ba_size, hd, ← ba_size s, hl]; rfl
  have hL : ((mpkt s).form x).data.toList = [a0, a1, hiB x, loB x] ++ [a4, a5, a6, a7] ++ t := by
    rw [form_list, hd, u8i_back a0 _ hk, u8i_back a1 _ hc]
    unfold fwL
    rw [u8i_back a4 _ (by rw [hr]; omega), u8i_back a5 _ (by rw [hr]; omega), u8i_back a6 _ (by rw [hr]; omega), u8i_back a7 _ (by rw [hr]; omega)]
  have hS : ((mpkt s).form x).size = s.size := by rw [form_size]; omega
  refine ⟨?_, hS, ?_, ?_⟩
  · unfold Ms.why
    rw [if_neg (by omega)]
  · apply ba_ext
    rw [ext_list, ext_list, hL, hl]
    rfl
  · apply ba_ext
    rw [ext_end, show ((mpkt s).form x).extract 4 s.size = ((mpkt s).form x).extract 4 ((mpkt s).form x).size by rw [hS], ext_end, hL, hl]
    rfl
end Go.Proofs.Ytmfolkbmkfifcaa
