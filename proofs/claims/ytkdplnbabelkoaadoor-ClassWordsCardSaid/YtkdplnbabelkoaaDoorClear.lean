/-
  Proved here: what the program's clearBehind does.
  Conditions: a block of at most 16 bytes, a length from 0 to 128.
-/
import Derived.Test.YtkdplnbabelkoaaDoorClr
import Derived.Test.YtkdplnbabelkoaaDoorHeld
import Derived.Test.YtkdplnbabelkoaaDoorPut
namespace Go.Proofs.YtkdplnbabelkoaaDoor
open Go.RowKit

/-- The first k bytes cleared. -/
def clrU (x : List UInt8) (n : Int) (k : Nat) : List UInt8 := (clr x n).take k ++ x.drop k
theorem clrU_len (x : List UInt8) (n : Int) (k : Nat) (h : k ≤ x.length) : (clrU x n k).length = x.length := by
  unfold clrU
  rw [List.length_append, List.length_take, List.length_drop, clr_len]
  omega
theorem clrU_at (x : List UInt8) (n : Int) (k : Nat) (h : k < x.length) : (clrU x n k).getD k 0 = x.getD k 0 := by
  unfold clrU
  have hl : ((clr x n).take k).length = k := by rw [List.length_take, clr_len]; omega
  rw [List.getD_eq_getElem?_getD, List.getD_eq_getElem?_getD, List.getElem?_append_right (by omega), hl, Nat.sub_self, List.getElem?_drop, Nat.add_zero]
theorem clrU_next (x : List UInt8) (n : Int) (k : Nat) (h : k < x.length) : (clrU x n k).set k (clr1 (x.getD k 0) (kpt n k)) = clrU x n (k + 1) := by
  unfold clrU
  have hl : ((clr x n).take k).length = k := by rw [List.length_take, clr_len]; omega
  have hc : k < (clr x n).length := by rw [clr_len]; exact h
  rw [List.set_append_right _ _ (by omega), hl, Nat.sub_self, List.drop_eq_getElem_cons h, List.set_cons_zero, List.take_succ_eq_append_getElem hc]
  have e := clr_at x n k h
  rw [List.getD_eq_getElem?_getD, List.getElem?_eq_getElem hc] at e
  rw [← e]
  simp only [List.append_assoc, List.singleton_append]
  rfl
theorem clrU_end (x : List UInt8) (n : Int) : clrU x n x.length = clr x n := by
  unfold clrU
  rw [List.drop_length, List.append_nil, List.take_of_length_le (by rw [clr_len]; exact Nat.le_refl _)]
theorem mask_fin : ∀ k : Fin 9, ∀ c : Fin 256, bits BinOp.and IntKind.u8 ((c.val : Nat) : Int) (255 * 2 ^ (8 - k.val) % 256) = ((c.val >>> (8 - k.val) <<< (8 - k.val) : Nat) : Int) := by decide +kernel
theorem mask_is (c : UInt8) (k : Nat) (hk : k ≤ 8) : bits BinOp.and IntKind.u8 (c.toNat : Int) (255 * 2 ^ (8 - k) % 256) = ((clr1 c k).toNat : Int) := by
  rw [clr1_nat]
  exact mask_fin ⟨k, by omega⟩ ⟨c.toNat, c.toNat_lt⟩
theorem kpt_exp (n : Int) (k : Nat) : (8 - min (max (n - (k : Int) * 8) 0) 8).toNat = 8 - kpt n k := by unfold kpt; omega
theorem bu_set (l : List UInt8) (i : Nat) (v : UInt8) : bu (l.set i v) = (bu l).set i (.int .u8 (v.toNat : Int)) := by unfold bu; rw [List.map_set]
set_option maxRecDepth 100000 in
set_option maxHeartbeats 4000000 in
theorem clear_any (b : Nat) (x : List UInt8) (n : Int) (c : Nat) (T : TypeId) (w0 w : World) (B : Nat) (l : List (Nat × TypeId × List Value)) (hK : Kp w0 B ((b, T, bu x) :: l) w) (hne : ∀ y ∈ l, y.1 ≠ b) (hB : B ≤ b) (hx : x.length ≤ 16) (hn0 : 0 ≤ n) (hn9 : n ≤ 128) :
    Calls Tryd.prog 66 #[.slice (some ⟨b, 0, none⟩) x.length c, .int .i64 n] w fun e w' => e = .returned (.tuple #[]) ∧ Kp w0 B ((b, T, bu (clr x n)) :: l) w' := by
  have HK0 := Lib.hid hK
  have Hne := Lib.hid hne
  have HB := Lib.hid hB
  have hK0 : Kp w0 B ((b, T, bu (clrU x n 0)) :: l) w := by
    have e : clrU x n 0 = x := by unfold clrU; rw [List.take_zero, List.nil_append, List.drop_zero]
    rw [e]; exact hK
  have HK1 := Lib.hid hK0
  clear hK hne hB hK0 HK0
  go_enter Tryd.func66, Tryd.ntmps66
  go_wp2_with fail
  go_loopw [8] (fun i wr => ∃ k : Nat, k ≤ x.length ∧ i = .int .i64 k ∧ Kp w0 B ((b, T, bu (clrU x n k)) :: l) wr) (fun i _ => x.length - (intOf i).toNat)
  case atStart => exact ⟨0, Nat.zero_le _, rfl, HK1.out⟩
  case round =>
    obtain ⟨k, hk, rfl, hK⟩ := hrel
    have HK := Lib.hid hK
    clear hK HK1
    by_cases hlt : k < x.length
    · have il : ((k : Nat) : Int) < (x.length : Int) := by omega
      have j16 : ((k : Nat) : Int) < 16 := by omega
      have cc := HK.out.hd.at (i := k) (bu_at _ k (by rw [clrU_len x n k hk]; exact hlt))
      have cz := HK.out.hd.z k
      rw [clrU_at x n k hlt] at cc
      go_upto_region 4 with (fail)
      have hxk : x.getD k 0 = x[k] := by rw [List.getD_eq_getElem?_getD, List.getElem?_eq_getElem hlt]; rfl
      have hv : bits BinOp.and IntKind.u8 ((x[k].toNat : Nat) : Int) (255 * 2 ^ (8 - min (max (n - (k : Int) * 8) 0) 8).toNat % 256) = ((clr1 (x.getD k 0) (kpt n k)).toNat : Int) := by
        rw [kpt_exp, hxk]
        exact mask_is _ _ (kpt_le n k)
      have hk2 := HK.out.set1 Hne.out HB.out k (.int .u8 ((clr1 (x.getD k 0) (kpt n k)).toNat : Int))
      rw [← bu_set, clrU_next x n k hlt] at hk2
      have HK2 := Lib.hid hk2.drew
      have HV := Lib.hid hv
      clear hk2 hv hxk
      generalize clr1 (x.getD k 0) (kpt n k) = q at *
      go_region
      rw [HV.out]
      go_wp2_with fail
      go_roundw
      case rel => exact ⟨k + 1, hlt, by go_num, HK2.out⟩
      case measure => simp [intOf]; omega
    · obtain rfl : k = x.length := by omega
      have hk2 := HK.out
      rw [clrU_end] at hk2
      have HK2 := Lib.hid hk2
      clear hk2 HK
      go_wp2_with fail
      go_end0
      exact ⟨rfl, HK2.out⟩
end Go.Proofs.YtkdplnbabelkoaaDoor
