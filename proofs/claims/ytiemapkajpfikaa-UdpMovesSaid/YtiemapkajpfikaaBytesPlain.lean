/-
  Proved here: plain facts on the bytes of a datagram that may be: what they are parsed as, that they are right, that a turned bit is told.
  Conditions: the datagram may be; the pseudo head has an even size.
-/
import Derived.Test.YtiemapkajpfikaaTurn
namespace Go.Proofs.Ytiemapkajpfikaa
open Go.RowKit

theorem cat_list (a b : ByteArray) : (a ++ b).data.toList = a.data.toList ++ b.data.toList := by rw [ByteArray.data_append, Array.toList_append]
theorem tw_list (x : Int) : (tw x).data.toList = [UInt8.ofNat (x / 256).toNat, UInt8.ofNat (x % 256).toNat] := rfl
theorem tw_acc {x : Int} (h0 : 0 ≤ x) (h1 : x ≤ 65535) : acc true (tw x).data.toList = x.toNat := by
  obtain ⟨n, rfl⟩ : ∃ n : Nat, x = n := ⟨x.toNat, by omega⟩
  exact twoB_acc (by omega)
theorem acc_cat (a b : ByteArray) (h : a.size % 2 = 0) : acc true (a ++ b).data.toList = acc true a.data.toList + acc true b.data.toList := by
  rw [cat_list]
  exact acc_even _ (by unfold evn; rw [ba_size, beq_iff_eq]; exact h)
theorem tw_word {x : Int} (h0 : 0 ≤ x) (h1 : x ≤ 65535) : (256 * (UInt8.ofNat (x / 256).toNat).toNat + (UInt8.ofNat (x % 256).toNat).toNat : Nat) = x.toNat := by
  rw [u8_of_int (by omega) (by omega), u8_of_int (by omega) (by omega)]
  omega
theorem total_acc (d : Dg) (ps : ByteArray) (he : ps.size % 2 = 0) {x : Int} (h0 : 0 ≤ x) (h1 : x ≤ 65535) :
    acc true (ps ++ d.ahead ++ tw x ++ d.data).data.toList = (acc true (ps ++ d.ahead).data.toList + acc true d.data.data.toList) + x.toNat := by
  have ha := ahead_size d
  rw [acc_cat _ _ (by rw [dcat_len, dcat_len, ha, tw_size]; omega), acc_cat _ _ (by rw [dcat_len, ha]; omega), tw_acc h0 h1]
  omega
theorem sum1_pos (d : Dg) (ps : ByteArray) : d.sum1 ps ≠ 0 := by
  unfold Dg.sum1
  split <;> omega
theorem bytes_list (d : Dg) (ps : ByteArray) : (d.bytes ps).data.toList = [UInt8.ofNat (d.fr / 256).toNat, UInt8.ofNat (d.fr % 256).toNat, UInt8.ofNat (d.dst / 256).toNat, UInt8.ofNat (d.dst % 256).toNat, UInt8.ofNat ((8 + (d.data.size : Int)) / 256).toNat, UInt8.ofNat ((8 + (d.data.size : Int)) % 256).toNat, UInt8.ofNat (d.sum1 ps / 256).toNat, UInt8.ofNat (d.sum1 ps % 256).toNat] ++ d.data.data.toList := by
  unfold Dg.bytes Dg.ahead
  rw [cat_list, cat_list, cat_list, cat_list, tw_list, tw_list, tw_list, tw_list]
  rfl
theorem bytes_size (d : Dg) (ps : ByteArray) : (d.bytes ps).size = 8 + d.data.size := by
  unfold Dg.bytes
  rw [dcat_len, dcat_len, ahead_size, tw_size]
section
variable {d : Dg} {ps : ByteArray} (hw : d.why = 0)
include hw
theorem len_facts : 0 ≤ 8 + (d.data.size : Int) ∧ 8 + (d.data.size : Int) ≤ 65535 := by
  obtain ⟨_, _, h⟩ := why_zero hw
  omega
theorem ahead_pos (he : ps.size % 2 = 0) : 0 < acc true (ps ++ d.ahead).data.toList := by
  obtain ⟨⟨p0, p1⟩, ⟨q0, q1⟩, _⟩ := why_zero hw
  obtain ⟨l0, l1⟩ := len_facts hw
  unfold Dg.ahead
  rw [acc_cat _ _ he, acc_cat _ _ (by rw [dcat_len, tw_size, tw_size]), acc_cat _ _ (by rw [tw_size]), tw_acc p0 p1, tw_acc q0 q1, tw_acc l0 l1]
  omega
theorem bytes_right (he : ps.size % 2 = 0) : sumL (ps ++ d.bytes ps).data.toList = 0 := by
  have hs := sum1_le d ps
  have e : ps ++ d.bytes ps = ps ++ d.ahead ++ tw (d.sum1 ps) ++ d.data := by
    unfold Dg.bytes
    simp only [ByteArray.append_assoc]
  rw [e, sumL_zero, total_acc d ps he hs.1 hs.2]
  have hp := ahead_pos hw he
  have hN : d.sumN ps = 65535 - fold (acc true (ps ++ d.ahead).data.toList + acc true d.data.data.toList) := by
    unfold Dg.sumN sumL
    rw [total_acc d ps he (show (0 : Int) ≤ 0 by omega) (by omega)]
    rfl
  unfold Dg.sum1
  have hX : 0 < acc true (ps ++ d.ahead).data.toList + acc true d.data.data.toList := by omega
  have hf := fold_le (acc true (ps ++ d.ahead).data.toList + acc true d.data.data.toList)
  generalize acc true (ps ++ d.ahead).data.toList + acc true d.data.data.toList = X at *
  by_cases hn : d.sumN ps = 0
  · rw [if_pos hn]
    have h1 : fold X = 65535 := by omega
    have h2 := fold_more (W := 1) hX
    rw [h1] at h2
    exact h2
  · rw [if_neg hn, hN]
    exact fold_own hX
theorem bytes_code : dcode (d.bytes ps) = 0 := by
  obtain ⟨l0, l1⟩ := len_facts hw
  have h2 : wd (d.bytes ps).data.toList 2 = 8 + d.data.size := by
    rw [bytes_list d ps]
    show (256 * (UInt8.ofNat ((8 + (d.data.size : Int)) / 256).toNat).toNat + (UInt8.ofNat ((8 + (d.data.size : Int)) % 256).toNat).toNat : Nat) = _
    rw [tw_word l0 l1]
    omega
  unfold dcode
  rw [bytes_size d ps, h2, if_neg (by omega), if_neg (fun h => h rfl)]
theorem bytes_dans : (dans (d.bytes ps)).fr = d.fr ∧ (dans (d.bytes ps)).dst = d.dst ∧ (dans (d.bytes ps)).sm = d.sum1 ps ∧ (dans (d.bytes ps)).data = d.data := by
  obtain ⟨⟨p0, p1⟩, ⟨q0, q1⟩, _⟩ := why_zero hw
  obtain ⟨s0, s1⟩ := sum1_le d ps
  unfold dans
  rw [if_pos (bytes_code hw)]
  unfold dpkt
  refine ⟨?_, ?_, ?_, ?_⟩
  · show ((wd (d.bytes ps).data.toList 0 : Nat) : Int) = _
    rw [bytes_list d ps]
    show ((256 * (UInt8.ofNat (d.fr / 256).toNat).toNat + (UInt8.ofNat (d.fr % 256).toNat).toNat : Nat) : Int) = _
    rw [tw_word p0 p1]
    omega
  · show ((wd (d.bytes ps).data.toList 1 : Nat) : Int) = _
    rw [bytes_list d ps]
    show ((256 * (UInt8.ofNat (d.dst / 256).toNat).toNat + (UInt8.ofNat (d.dst % 256).toNat).toNat : Nat) : Int) = _
    rw [tw_word q0 q1]
    omega
  · show ((wd (d.bytes ps).data.toList 3 : Nat) : Int) = _
    rw [bytes_list d ps]
    show ((256 * (UInt8.ofNat (d.sum1 ps / 256).toNat).toNat + (UInt8.ofNat (d.sum1 ps % 256).toNat).toNat : Nat) : Int) = _
    rw [tw_word s0 s1]
    omega
  · apply ba_ext
    rw [ext_end, bytes_list d ps]
    rfl
theorem bytes_checked (he : ps.size % 2 = 0) : ccode (d.bytes ps) ps = 0 := by
  unfold ccode
  rw [if_neg (fun h => h (bytes_code hw)), (bytes_dans hw).2.2.1, if_neg (sum1_pos d ps), if_neg (fun h => h (bytes_right hw he))]
theorem bytes_turned (he : ps.size % 2 = 0) (K : Nat) (hK : K < (d.bytes ps).size) (y : UInt8) (hy : y ≠ (d.bytes ps)[K]'hK) : ccode (setB (d.bytes ps) K y) ps ≠ 0 := by
  unfold ccode
  by_cases h1 : dcode (setB (d.bytes ps) K y) ≠ 0
  · rw [if_pos h1]
    exact h1
  · rw [if_neg h1]
    by_cases h2 : (dans (setB (d.bytes ps) K y)).sm = 0
    · rw [if_pos h2]
      decide
    · rw [if_neg h2]
      have h0 := bytes_right hw he
      have e : (ps ++ setB (d.bytes ps) K y).data.toList = (ps ++ d.bytes ps).data.toList.set (ps.size + K) y := by
        rw [cat_list, cat_list, setB_list, List.set_append_right _ _ (by rw [ba_size]; omega), ba_size, Nat.add_sub_cancel_left]
      have hlt : ps.size + K < (ps ++ d.bytes ps).data.toList.length := by rw [ba_size, dcat_len]; omega
      have hne : y ≠ (ps ++ d.bytes ps).data.toList[ps.size + K]'hlt := by
        intro h
        apply hy
        rw [h]
        have e2 : (ps ++ d.bytes ps).data.toList[ps.size + K]? = some ((d.bytes ps)[K]'hK) := by
          rw [cat_list, List.getElem?_append_right (by rw [ba_size]; omega), ba_size, Nat.add_sub_cancel_left, List.getElem?_eq_getElem (by rw [ba_size]; exact hK)]
          rfl
        rw [List.getElem?_eq_getElem hlt] at e2
        injection e2
      have h3 := sum_turned hlt hne
      rw [← e, h0] at h3
      rw [if_pos h3]
      decide
end
end Go.Proofs.Ytiemapkajpfikaa
