/-
  Proved here: plain facts on sums that are kept up.
  Conditions: none.
-/
import Derived.Test.YtfpmkadlidbboaaAwake
namespace Go.Proofs.Ytfpmkadlidbboaa
open Go.RowKit

theorem even_cut (s : ByteArray) : evn (s.extract 0 (s.size / 2 * 2)).data.toList.length = true ∧ (s.extract 0 (s.size / 2 * 2)).size ≤ s.size := by
  have h : (s.extract 0 (s.size / 2 * 2)).size = s.size / 2 * 2 := by rw [ByteArray.size_extract]; omega
  refine ⟨?_, by omega⟩
  rw [show (s.extract 0 (s.size / 2 * 2)).data.toList.length = (s.extract 0 (s.size / 2 * 2)).size by simp, h]
  unfold evn
  simp
theorem list_len (a : ByteArray) : a.data.toList.length = a.size := by simp
theorem all2_even {a : ByteArray} (b : ByteArray) (ha : evn a.data.toList.length = true) : acc true (allOf [a, b]) = acc true a.data.toList + acc true b.data.toList := by
  rw [show allOf [a, b] = a.data.toList ++ b.data.toList by simp [allOf], acc_even _ ha]
theorem all4_even {a b c : ByteArray} (d : ByteArray) (ha : evn a.data.toList.length = true) (hb : evn b.data.toList.length = true) (hc : evn c.data.toList.length = true) :
    acc true (allOf [a, b, c, d]) = acc true a.data.toList + (acc true b.data.toList + (acc true c.data.toList + acc true d.data.toList)) := by
  rw [show allOf [a, b, c, d] = a.data.toList ++ (b.data.toList ++ (c.data.toList ++ d.data.toList)) by simp [allOf], acc_even _ ha, acc_even _ hb, acc_even _ hc]
theorem all5_even {a b c d : ByteArray} (f : ByteArray) (ha : evn a.data.toList.length = true) (hb : evn b.data.toList.length = true) (hc : evn c.data.toList.length = true) (hd : evn d.data.toList.length = true) :
    acc true (allOf [a, b, c, d, f]) = acc true a.data.toList + (acc true b.data.toList + (acc true c.data.toList + (acc true d.data.toList + acc true f.data.toList))) := by
  rw [show allOf [a, b, c, d, f] = a.data.toList ++ (b.data.toList ++ (c.data.toList ++ (d.data.toList ++ f.data.toList))) by simp [allOf], acc_even _ ha, acc_even _ hb, acc_even _ hc, acc_even _ hd]
theorem cat2_list (a b : ByteArray) : (a ++ b).data.toList = allOf [a, b] := by simp [allOf]
theorem cat4_list (a b c d : ByteArray) : (a ++ b ++ c ++ d).data.toList = allOf [a, b, c, d] := by simp [allOf]
theorem two_even (n : Nat) : evn (twoB n).data.toList.length = true := by rw [twoB_len]; rfl

theorem upd_nat {n : Nat} (h : n ≤ 65535) (old new : List UInt8) : upd n old new = 65535 - fold (65535 - n + (65535 * ((old.length + 1) / 2) - acc true old) + acc true new) := by
  unfold upd
  rw [show (65535 - (n : Int) % 65536).toNat = 65535 - n by omega]
/-- The sum of a text with a piece in front, kept up. -/
theorem upd_back {p r o : ByteArray} (hp : evn p.data.toList.length = true) (ho : evn o.data.toList.length = true) (h : cleanB (allOf [o, r]) = false) :
    upd (sumL (allOf [p, r]) : Nat) p.data.toList o.data.toList = sumL (allOf [o, r]) := by
  have h0 := cleanB_no h
  rw [all2_even r ho] at h0
  rw [upd_nat (sumL_le _)]
  unfold sumL
  rw [all2_even r hp, all2_even r ho]
  have h1 := fold_le (acc true p.data.toList + acc true r.data.toList)
  rw [show 65535 - (65535 - fold (acc true p.data.toList + acc true r.data.toList)) = fold (acc true p.data.toList + acc true r.data.toList) by omega,
    fold_upd rfl h0 (acc_words' p.data.toList)]
theorem keep_right {a b p h : ByteArray} (ha : evn a.data.toList.length = true) (hb : evn b.data.toList.length = true) (hp : evn p.data.toList.length = true) (hc : cleanB (allOf [a, b, p, h]) = false) :
    rightB (allOf [a, twoB (sumL (allOf [a, b, p, h])), b, p, h]) = true := by
  have h0 := cleanB_no hc
  apply rightB_yes
  rw [all5_even h ha (two_even _) hb hp, twoB_acc (sumL_le _)]
  unfold sumL
  rw [all4_even h ha hb hp] at h0 ⊢
  have := fold_own h0
  rw [← this]
  congr 1
  omega
theorem keep_upd {a b p o h : ByteArray} (ha : evn a.data.toList.length = true) (hb : evn b.data.toList.length = true) (hp : evn p.data.toList.length = true) (ho : evn o.data.toList.length = true) (hc : cleanB (allOf [a, b, o, h]) = false) :
    rightB (allOf [a, twoB (upd (sumL (allOf [a, b, p, h]) : Nat) p.data.toList o.data.toList), b, o, h]) = true := by
  have h0 := cleanB_no hc
  apply rightB_yes
  rw [all5_even h ha (two_even _) hb ho, twoB_acc (upd_le _ _ _)]
  rw [upd_nat (sumL_le _)]
  unfold sumL
  rw [all4_even h ha hb ho] at h0
  rw [all4_even h ha hb hp]
  have h1 := fold_le (acc true a.data.toList + (acc true b.data.toList + (acc true p.data.toList + acc true h.data.toList)))
  rw [show 65535 - (65535 - fold (acc true a.data.toList + (acc true b.data.toList + (acc true p.data.toList + acc true h.data.toList)))) = fold (acc true a.data.toList + (acc true b.data.toList + (acc true p.data.toList + acc true h.data.toList))) by omega,
    fold_upd (r := acc true a.data.toList + acc true b.data.toList + acc true h.data.toList) (by omega) (by omega) (acc_words' p.data.toList)]
  have := fold_own (a := acc true o.data.toList + (acc true a.data.toList + acc true b.data.toList + acc true h.data.toList)) (by omega)
  rw [← this]
  congr 1
  omega

/-! A sum of 16 bits that is not 65535. -/
theorem chain_once {n : Nat} (h : n < 65535) (a b c : List UInt8) : upd (upd n a b : Nat) b c = upd n a c := by
  have hw := acc_words' a
  rw [upd_nat (upd_le _ _ _), upd_nat (by omega), upd_nat (by omega)]
  have h1 := fold_le (65535 - n + (65535 * ((a.length + 1) / 2) - acc true a) + acc true b)
  rw [show 65535 - (65535 - fold (65535 - n + (65535 * ((a.length + 1) / 2) - acc true a) + acc true b)) = fold (65535 - n + (65535 * ((a.length + 1) / 2) - acc true a) + acc true b) by omega,
    fold_chain (by omega) (acc_words' b)]
theorem chain_same {n : Nat} (h : n < 65535) (a : List UInt8) : upd n a a = n := by
  have hw := acc_words' a
  rw [upd_nat (by omega), show 65535 - n + (65535 * ((a.length + 1) / 2) - acc true a) + acc true a = 65535 - n + 65535 * ((a.length + 1) / 2) by omega, fold_more (by omega), fold_small (by omega)]
  omega
theorem chain_more {n : Nat} (h : n < 65535) (a z c : List UInt8) (hz : acc true (a ++ z) = acc true a) (hl : (a.length + z.length + 1) / 2 = (a.length + 1) / 2 + 1) : upd n (a ++ z) c = upd n a c := by
  have hw := acc_words' a
  rw [upd_nat (by omega), upd_nat (by omega), hz, List.length_append, hl]
  rw [show 65535 - n + (65535 * ((a.length + 1) / 2 + 1) - acc true a) + acc true c = 65535 - n + (65535 * ((a.length + 1) / 2) - acc true a) + acc true c + 65535 * 1 by omega, fold_more (by omega)]
end Go.Proofs.Ytfpmkadlidbboaa
