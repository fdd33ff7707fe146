/-
  Proved here: plain facts on the bytes of a segment that may be: what they are parsed as, that they are right, that a turned bit is told.
  Conditions: the segment may be; the pseudo head has an even size.
-/
import Derived.Test.YtljlonligbheaaaTurn
namespace Go.Proofs.Ytljlonligbheaaa
open Go.RowKit

theorem tw_acc {x : Int} (h0 : 0 ≤ x) (h1 : x ≤ 65535) : acc true (tw x).data.toList = x.toNat := by
  obtain ⟨n, rfl⟩ : ∃ n : Nat, x = n := ⟨x.toNat, by omega⟩
  exact twoB_acc (by omega)
theorem acc_cat (a b : ByteArray) (h : a.size % 2 = 0) : acc true (a ++ b).data.toList = acc true a.data.toList + acc true b.data.toList := by
  rw [cat_list]
  exact acc_even _ (by unfold evn; rw [ba_size, beq_iff_eq]; exact h)
theorem acc_pos {l : List UInt8} {k : Nat} (h : k < l.length) (hn : 0 < l[k].toNat) : 0 < acc true l := by
  obtain ⟨x, f, hf, hx⟩ := acc_mid (l.take k) (l.drop (k + 1))
  have e := hx l[k]
  rw [List.getElem_cons_drop, List.take_append_drop] at e
  rw [e]
  rcases hf with rfl | rfl <;> omega
/-- What stands ahead of the sum. -/
def Sg.pre (d : Sg) : ByteArray := tw d.fr ++ tw d.dst ++ d.raw.extract 4 16
theorem pre_size (d : Sg) (h : 20 ≤ d.raw.size) : d.pre.size = 16 := by
  unfold Sg.pre
  rw [dcat_len, dcat_len, tw_size, tw_size]
  simp
  omega
theorem form_pre (d : Sg) (x : Int) : d.form x = d.pre ++ tw x ++ d.raw.extract 18 d.raw.size := rfl
theorem form_acc (d : Sg) (ps : ByteArray) (hr : 20 ≤ d.raw.size) (he : ps.size % 2 = 0) {x : Int} (h0 : 0 ≤ x) (h1 : x ≤ 65535) :
    acc true (ps ++ d.form x).data.toList = (acc true ps.data.toList + acc true d.pre.data.toList + acc true (d.raw.extract 18 d.raw.size).data.toList) + x.toNat := by
  have hp := pre_size d hr
  rw [form_pre, acc_cat _ _ he, acc_cat _ _ (by rw [dcat_len, hp, tw_size]), acc_cat _ _ (by rw [hp]), tw_acc h0 h1]
  omega
theorem form_byte (d : Sg) (x : Int) (hr : 20 ≤ d.raw.size) (i : Nat) (h4 : 4 ≤ i) (h16 : i ≠ 16) (h17 : i ≠ 17) : byN (d.form x) i = byN d.raw i := by
  unfold byN
  rw [form_list d x (by omega)]
  simp only [List.getD_eq_getElem?_getD]
  rw [List.getElem?_set_ne (by omega), List.getElem?_set_ne (by omega), List.getElem?_set_ne (by omega), List.getElem?_set_ne (by omega), List.getElem?_set_ne (by omega), List.getElem?_set_ne (by omega)]
theorem form_mid (d : Sg) (x : Int) (hr : 20 ≤ d.raw.size) : (d.form x).extract 4 16 = d.raw.extract 4 16 := by
  apply ba_ext
  rw [ext_list, ext_list, form_list d x (by omega)]
  obtain ⟨a0, a1, a2, a3, a4, a5, a6, a7, a8, a9, a10, a11, a12, a13, a14, a15, a16, a17, t, e⟩ := list18 d.raw.data.toList (by rw [ba_size]; omega)
  rw [e]
  rfl
theorem form_rest (d : Sg) (x : Int) (hr : 20 ≤ d.raw.size) : (d.form x).extract 18 d.raw.size = d.raw.extract 18 d.raw.size := by
  have hs := form_size d x (by omega)
  apply ba_ext
  rw [ext_end]
  rw [show (d.form x).extract 18 d.raw.size = (d.form x).extract 18 (d.form x).size by rw [hs], ext_end, form_list d x (by omega)]
  obtain ⟨a0, a1, a2, a3, a4, a5, a6, a7, a8, a9, a10, a11, a12, a13, a14, a15, a16, a17, t, e⟩ := list18 d.raw.data.toList (by rw [ba_size]; omega)
  rw [e]
  rfl
theorem form_head (d : Sg) (x y : Int) (hr : 20 ≤ d.raw.size) : (d.form x).extract 0 16 = (d.form y).extract 0 16 := by
  apply ba_ext
  rw [ext_list, ext_list, form_list d x (by omega), form_list d y (by omega)]
  obtain ⟨a0, a1, a2, a3, a4, a5, a6, a7, a8, a9, a10, a11, a12, a13, a14, a15, a16, a17, t, e⟩ := list18 d.raw.data.toList (by rw [ba_size]; omega)
  rw [e]
  rfl
theorem tw_word {x : Int} (h0 : 0 ≤ x) (h1 : x ≤ 65535) : (256 * (hiB x).toNat + (loB x).toNat : Nat) = x.toNat := by
  have a := hiB_int h0 h1
  have b := loB_int (x := x)
  omega
theorem form_word0 (d : Sg) (x : Int) (hr : 20 ≤ d.raw.size) (h0 : 0 ≤ d.fr) (h1 : d.fr ≤ 65535) : ((wd (d.form x).data.toList 0 : Nat) : Int) = d.fr := by
  rw [form_list d x (by omega)]
  obtain ⟨a0, a1, a2, a3, a4, a5, a6, a7, a8, a9, a10, a11, a12, a13, a14, a15, a16, a17, t, e⟩ := list18 d.raw.data.toList (by rw [ba_size]; omega)
  rw [e]
  show ((256 * (hiB d.fr).toNat + (loB d.fr).toNat : Nat) : Int) = _
  rw [tw_word h0 h1]
  omega
theorem form_word1 (d : Sg) (x : Int) (hr : 20 ≤ d.raw.size) (h0 : 0 ≤ d.dst) (h1 : d.dst ≤ 65535) : ((wd (d.form x).data.toList 1 : Nat) : Int) = d.dst := by
  rw [form_list d x (by omega)]
  obtain ⟨a0, a1, a2, a3, a4, a5, a6, a7, a8, a9, a10, a11, a12, a13, a14, a15, a16, a17, t, e⟩ := list18 d.raw.data.toList (by rw [ba_size]; omega)
  rw [e]
  show ((256 * (hiB d.dst).toNat + (loB d.dst).toNat : Nat) : Int) = _
  rw [tw_word h0 h1]
  omega
theorem form_word8 (d : Sg) (x : Int) (hr : 20 ≤ d.raw.size) (h0 : 0 ≤ x) (h1 : x ≤ 65535) : byN (d.form x) 16 * 256 + byN (d.form x) 17 = x.toNat := by
  unfold byN
  rw [form_list d x (by omega)]
  obtain ⟨a0, a1, a2, a3, a4, a5, a6, a7, a8, a9, a10, a11, a12, a13, a14, a15, a16, a17, t, e⟩ := list18 d.raw.data.toList (by rw [ba_size]; omega)
  rw [e]
  show (hiB x).toNat * 256 + (loB x).toNat = _
  rw [← tw_word h0 h1]
  omega
section
variable {d : Sg} {ps : ByteArray} (hw : d.why = 0)
include hw
theorem why_size : 20 ≤ d.raw.size ∧ 20 ≤ byN d.raw 12 / 16 * 4 ∧ byN d.raw 12 / 16 * 4 ≤ d.raw.size := tcode_ok (why_zero hw).1
theorem form_code (x : Int) : tcode (d.form x) = 0 := by
  obtain ⟨h1, h2, h3⟩ := why_size hw
  unfold tcode
  rw [form_byte d x h1 12 (by omega) (by omega) (by omega), form_size d x (by omega), if_neg (by omega), if_neg (by omega), if_neg (by omega)]
theorem form_tans (x : Int) : (tans (d.form x)).fr = d.fr ∧ (tans (d.form x)).dst = d.dst ∧ (tans (d.form x)).fl = (byN d.raw 13 % 64 : Nat) ∧ (tans (d.form x)).raw = d.form x := by
  obtain ⟨h1, h2, h3⟩ := why_size hw
  obtain ⟨_, ⟨p0, p1⟩, ⟨q0, q1⟩⟩ := why_zero hw
  unfold tans
  rw [if_pos (form_code hw x)]
  refine ⟨form_word0 d x h1 p0 p1, form_word1 d x h1 q0 q1, ?_, rfl⟩
  show ((byN (d.form x) 13 % 64 : Nat) : Int) = _
  rw [form_byte d x h1 13 (by omega) (by omega) (by omega)]
theorem pre_pos : 0 < acc true d.pre.data.toList := by
  obtain ⟨h1, h2, h3⟩ := why_size hw
  have hp := pre_size d h1
  have hl : d.pre.data.toList.length = 16 := by rw [ba_size]; exact hp
  have e : byN d.raw 12 = (d.pre.data.toList[12]'(by omega)).toNat := by
    unfold byN Sg.pre
    obtain ⟨a0, a1, a2, a3, a4, a5, a6, a7, a8, a9, a10, a11, a12, a13, a14, a15, a16, a17, t, e⟩ := list18 d.raw.data.toList (by rw [ba_size]; omega)
    simp only [cat_list, ext_list, tw_list, e]
    rfl
  exact acc_pos (k := 12) (by omega) (by rw [← e]; omega)
theorem bytes_right (he : ps.size % 2 = 0) : sumL (ps ++ d.bytes ps).data.toList = 0 := by
  obtain ⟨h1, h2, h3⟩ := why_size hw
  have hs := sumN_le d ps
  unfold Sg.bytes
  rw [sumL_zero, form_acc d ps h1 he (by omega) (by omega)]
  have hp := pre_pos hw
  have hN : d.sumN ps = 65535 - fold (acc true ps.data.toList + acc true d.pre.data.toList + acc true (d.raw.extract 18 d.raw.size).data.toList) := by
    unfold Sg.sumN sumL
    rw [form_acc d ps h1 he (show (0 : Int) ≤ 0 by omega) (by omega), show (0 : Int).toNat = 0 from rfl, Nat.add_zero]
  have hX : 0 < acc true ps.data.toList + acc true d.pre.data.toList + acc true (d.raw.extract 18 d.raw.size).data.toList := by omega
  generalize acc true ps.data.toList + acc true d.pre.data.toList + acc true (d.raw.extract 18 d.raw.size).data.toList = X at *
  rw [hN]
  exact fold_own hX
theorem bytes_checked (he : ps.size % 2 = 0) : kcode (d.bytes ps) ps = 0 := by
  unfold kcode
  rw [if_neg (fun h => h (form_code hw _)), if_neg (fun h => h (bytes_right hw he))]
theorem bytes_turned (he : ps.size % 2 = 0) (K : Nat) (hK : K < (d.bytes ps).size) (y : UInt8) (hy : y ≠ (d.bytes ps)[K]'hK) : kcode (setB (d.bytes ps) K y) ps ≠ 0 := by
  unfold kcode
  by_cases h1 : tcode (setB (d.bytes ps) K y) ≠ 0
  · rw [if_pos h1]
    exact h1
  · rw [if_neg h1]
    have h0 := bytes_right hw he
    have e : (ps ++ setB (d.bytes ps) K y).data.toList = (ps ++ d.bytes ps).data.toList.set (ps.size + K) y := by
      rw [cat_list, cat_list, setB_list, List.set_append_right _ _ (by rw [ba_size]; omega), ba_size, Nat.add_sub_cancel_left]
    have hlt : ps.size + K < (ps ++ d.bytes ps).data.toList.length := by rw [ba_size, dcat_len]; omega
    have hne : y ≠ (ps ++ d.bytes ps).data.toList[ps.size + K]'hlt := by
      intro h
      apply hy
      rw [h]
      have e2 : (ps ++ d.bytes ps).data.toList[ps.size + K]? = some ((d.bytes ps)[K]'hK) := by
        rw [cat_list, List.getElem?_append_right (by rw [ba_size]; omega), ba_size, Nat.add_sub_cancel_left, List.getElem?_eq_getElem (by rw [ba_size]; exact hK)]
        rfl
      rw [List.getElem?_eq_getElem hlt] at e2
      injection e2
    have h3 := sum_turned hlt hne
    rw [← e, h0] at h3
    rw [if_pos h3]
    decide
end
end Go.Proofs.Ytljlonligbheaaa
