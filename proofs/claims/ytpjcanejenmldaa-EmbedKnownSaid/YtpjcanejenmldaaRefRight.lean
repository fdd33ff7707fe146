/-
  Proved here: what the document's Right answers.
  Conditions: the address has 16 bytes.
-/
import Derived.Test.YtpjcanejenmldaaNet
namespace Go.Proofs.Ytpjcanejenmldaa
open Go.RowKit

set_option maxRecDepth 100000 in
set_option maxHeartbeats 1000000 in
theorem rright_any (p : Nt) (hl : p.ad.length = 16) (w : World) :
    Calls Try.prog 18 #[.agg p.vals.toArray] w fun e w' => e = .returned (.bool p.right) ∧ Below w.heap.size w w' := by
  have HR : Hid (p.right = (okL p.ln && ((p.ad.getD 8 0 == 0) && nil8 p.ad (cut8 p.ln) 16))) := Lib.hid rfl
  generalize p.right = R at *
  have HN := Lib.hid (nil8_next p.ad)
  have HM := Lib.hid (nil8_more p.ad)
  have HL := Lib.hid hl
  have HA := Lib.hid (nvals_at p hl)
  have hV16 := nvals_ln p hl
  have hV8 := nvals_at p hl 8 (by omega)
  have HB := Lib.hid (show Below w.heap.size w (w.alloc (.cells p.vals.toArray 26)) from (Below.refl _ _).alloc (Nat.le_refl _) _)
  have hk := bk_new w 26 p.vals.toArray
  have c16 := hk.at hV16
  have c8 := hk.at hV8
  have HK := Lib.hid hk
  clear hk hV16 hV8 hl
  generalize p.vals = V at *
  generalize p.ad.getD 8 0 = d8 at *
  generalize p.ln = L at *
  generalize p.ad = A at *
  generalize hw1 : w.alloc (.cells V.toArray 26) = w1 at *
  go_enter Try.func18, Try.ntmps18
  go_upto_region 1 with (fail)
  clear hw1
  cases hok : okL L
  · obtain ⟨h1, h2, h3, h4, h5, h6⟩ := okL_not hok
    have n32 : (L != 32) = true := by rw [bne_iff_ne]; exact h1
    have n40 : (L != 40) = true := by rw [bne_iff_ne]; exact h2
    have n48 : (L != 48) = true := by rw [bne_iff_ne]; exact h3
    have n56 : (L != 56) = true := by rw [bne_iff_ne]; exact h4
    have n64 : (L != 64) = true := by rw [bne_iff_ne]; exact h5
    have n96 : (L != 96) = true := by rw [bne_iff_ne]; exact h6
    have HX : Hid (R = false) := Lib.hid (by rw [HR.out, hok]; rfl)
    clear h1 h2 h3 h4 h5 h6 hok
    go_wp2_with fail
    go_ret
    exact ⟨by rw [HX.out]; rfl, HB.out⟩
  rcases okL_cases hok with rfl | rfl | rfl | rfl | rfl | rfl
  · have k1 : (32 : Int).tdiv 8 = 4 := by decide
    by_cases h8 : d8 = 0
    · have e8 : (d8 != 0) = false := by rw [h8]; rfl
      have HT : Hid (R = nil8 A 4 16) := Lib.hid (by rw [HR.out, h8]; rfl)
      clear h8 HR hok
      go_wp2_with fail
      go_loop [3] (fun i => ∃ k : Nat, 4 ≤ k ∧ k ≤ 16 ∧ i = .int .i64 k ∧ Hid (nil8 A 4 k = true)) (fun i => 16 - (intOf i).toNat)
      case atStart => exact ⟨4, Nat.le_refl _, by decide, rfl, Lib.hid (nil8_start A 4)⟩
      case round =>
        obtain ⟨k, hkn, hk, rfl, hC⟩ := hrel
        by_cases hlt : k < 16
        · have hx := HN.out 4 k hkn (by rw [HL.out]; exact hlt)
          rw [hC.out] at hx
          have ck := HK.out.at (HA.out k hlt)
          generalize A.getD k 0 = dk at *
          by_cases h0 : dk = 0
          · have e0 : (dk != 0) = false := by rw [h0]; rfl
            have HX : Hid (nil8 A 4 (k + 1) = true) := Lib.hid (by rw [hx, h0]; rfl)
            clear hx h0
            go_wp2_with fail
            go_round
            case rel => exact ⟨k + 1, by omega, by omega, by go_num, HX⟩
            case measure => simp [intOf]; omega
          · have e0 : (dk != 0) = true := by rw [bne_iff_ne]; exact h0
            have HX : Hid (nil8 A 4 16 = false) := Lib.hid (HM.out 4 (k + 1) 16 (by omega) (by rw [hx]; simpa using h0))
            clear hx h0
            go_wp2_with fail
            go_ret
            exact ⟨by rw [HT.out, HX.out]; rfl, HB.out⟩
        · obtain rfl : k = 16 := by omega
          go_wp2_with fail
          go_ret
          exact ⟨by rw [HT.out, hC.out]; rfl, HB.out⟩
    · have e8 : (d8 != 0) = true := by rw [bne_iff_ne]; exact h8
      have HX : Hid (R = false) := Lib.hid (by rw [HR.out, beq_eq_false_iff_ne.2 h8]; rfl)
      clear h8 HR hok
      go_wp2_with fail
      go_ret
      exact ⟨by rw [HX.out]; rfl, HB.out⟩
  · have k1 : (40 : Int).tdiv 8 = 5 := by decide
    by_cases h8 : d8 = 0
    · have e8 : (d8 != 0) = false := by rw [h8]; rfl
      have HT : Hid (R = nil8 A 5 16) := Lib.hid (by rw [HR.out, h8]; rfl)
      clear h8 HR hok
      go_wp2_with fail
      go_loop [3] (fun i => ∃ k : Nat, 5 ≤ k ∧ k ≤ 16 ∧ i = .int .i64 k ∧ Hid (nil8 A 5 k = true)) (fun i => 16 - (intOf i).toNat)
      case atStart => exact ⟨5, Nat.le_refl _, by decide, rfl, Lib.hid (nil8_start A 5)⟩
      case round =>
        obtain ⟨k, hkn, hk, rfl, hC⟩ := hrel
        by_cases hlt : k < 16
        · have hx := HN.out 5 k hkn (by rw [HL.out]; exact hlt)
          rw [hC.out] at hx
          have ck := HK.out.at (HA.out k hlt)
          generalize A.getD k 0 = dk at *
          by_cases h0 : dk = 0
          · have e0 : (dk != 0) = false := by rw [h0]; rfl
            have HX : Hid (nil8 A 5 (k + 1) = true) := Lib.hid (by rw [hx, h0]; rfl)
            clear hx h0
            go_wp2_with fail
            go_round
            case rel => exact ⟨k + 1, by omega, by omega, by go_num, HX⟩
            case measure => simp [intOf]; omega
          · have e0 : (dk != 0) = true := by rw [bne_iff_ne]; exact h0
            have HX : Hid (nil8 A 5 16 = false) := Lib.hid (HM.out 5 (k + 1) 16 (by omega) (by rw [hx]; simpa using h0))
            clear hx h0
            go_wp2_with fail
            go_ret
            exact ⟨by rw [HT.out, HX.out]; rfl, HB.out⟩
        · obtain rfl : k = 16 := by omega
          go_wp2_with fail
          go_ret
          exact ⟨by rw [HT.out, hC.out]; rfl, HB.out⟩
    · have e8 : (d8 != 0) = true := by rw [bne_iff_ne]; exact h8
      have HX : Hid (R = false) := Lib.hid (by rw [HR.out, beq_eq_false_iff_ne.2 h8]; rfl)
      clear h8 HR hok
      go_wp2_with fail
      go_ret
      exact ⟨by rw [HX.out]; rfl, HB.out⟩
  · have k1 : (48 : Int).tdiv 8 = 6 := by decide
    by_cases h8 : d8 = 0
    · have e8 : (d8 != 0) = false := by rw [h8]; rfl
      have HT : Hid (R = nil8 A 6 16) := Lib.hid (by rw [HR.out, h8]; rfl)
      clear h8 HR hok
      go_wp2_with fail
      go_loop [3] (fun i => ∃ k : Nat, 6 ≤ k ∧ k ≤ 16 ∧ i = .int .i64 k ∧ Hid (nil8 A 6 k = true)) (fun i => 16 - (intOf i).toNat)
      case atStart => exact ⟨6, Nat.le_refl _, by decide, rfl, Lib.hid (nil8_start A 6)⟩
      case round =>
        obtain ⟨k, hkn, hk, rfl, hC⟩ := hrel
        by_cases hlt : k < 16
        · have hx := HN.out 6 k hkn (by rw [HL.out]; exact hlt)
          rw [hC.out] at hx
          have ck := HK.out.at (HA.out k hlt)
          generalize A.getD k 0 = dk at *
          by_cases h0 : dk = 0
          · have e0 : (dk != 0) = false := by rw [h0]; rfl
            have HX : Hid (nil8 A 6 (k + 1) = true) := Lib.hid (by rw [hx, h0]; rfl)
            clear hx h0
            go_wp2_with fail
            go_round
            case rel => exact ⟨k + 1, by omega, by omega, by go_num, HX⟩
            case measure => simp [intOf]; omega
          · have e0 : (dk != 0) = true := by rw [bne_iff_ne]; exact h0
            have HX : Hid (nil8 A 6 16 = false) := Lib.hid (HM.out 6 (k + 1) 16 (by omega) (by rw [hx]; simpa using h0))
            clear hx h0
            go_wp2_with fail
            go_ret
            exact ⟨by rw [HT.out, HX.out]; rfl, HB.out⟩
        · obtain rfl : k = 16 := by omega
          go_wp2_with fail
          go_ret
          exact ⟨by rw [HT.out, hC.out]; rfl, HB.out⟩
    · have e8 : (d8 != 0) = true := by rw [bne_iff_ne]; exact h8
      have HX : Hid (R = false) := Lib.hid (by rw [HR.out, beq_eq_false_iff_ne.2 h8]; rfl)
      clear h8 HR hok
      go_wp2_with fail
      go_ret
      exact ⟨by rw [HX.out]; rfl, HB.out⟩
  · have k1 : (56 : Int).tdiv 8 = 7 := by decide
    by_cases h8 : d8 = 0
    · have e8 : (d8 != 0) = false := by rw [h8]; rfl
      have HT : Hid (R = nil8 A 7 16) := Lib.hid (by rw [HR.out, h8]; rfl)
      clear h8 HR hok
      go_wp2_with fail
      go_loop [3] (fun i => ∃ k : Nat, 7 ≤ k ∧ k ≤ 16 ∧ i = .int .i64 k ∧ Hid (nil8 A 7 k = true)) (fun i => 16 - (intOf i).toNat)
      case atStart => exact ⟨7, Nat.le_refl _, by decide, rfl, Lib.hid (nil8_start A 7)⟩
      case round =>
        obtain ⟨k, hkn, hk, rfl, hC⟩ := hrel
        by_cases hlt : k < 16
        · have hx := HN.out 7 k hkn (by rw [HL.out]; exact hlt)
          rw [hC.out] at hx
          have ck := HK.out.at (HA.out k hlt)
          generalize A.getD k 0 = dk at *
          by_cases h0 : dk = 0
          · have e0 : (dk != 0) = false := by rw [h0]; rfl
            have HX : Hid (nil8 A 7 (k + 1) = true) := Lib.hid (by rw [hx, h0]; rfl)
            clear hx h0
            go_wp2_with fail
            go_round
            case rel => exact ⟨k + 1, by omega, by omega, by go_num, HX⟩
            case measure => simp [intOf]; omega
          · have e0 : (dk != 0) = true := by rw [bne_iff_ne]; exact h0
            have HX : Hid (nil8 A 7 16 = false) := Lib.hid (HM.out 7 (k + 1) 16 (by omega) (by rw [hx]; simpa using h0))
            clear hx h0
            go_wp2_with fail
            go_ret
            exact ⟨by rw [HT.out, HX.out]; rfl, HB.out⟩
        · obtain rfl : k = 16 := by omega
          go_wp2_with fail
          go_ret
          exact ⟨by rw [HT.out, hC.out]; rfl, HB.out⟩
    · have e8 : (d8 != 0) = true := by rw [bne_iff_ne]; exact h8
      have HX : Hid (R = false) := Lib.hid (by rw [HR.out, beq_eq_false_iff_ne.2 h8]; rfl)
      clear h8 HR hok
      go_wp2_with fail
      go_ret
      exact ⟨by rw [HX.out]; rfl, HB.out⟩
  · have k1 : (64 : Int).tdiv 8 = 8 := by decide
    by_cases h8 : d8 = 0
    · have e8 : (d8 != 0) = false := by rw [h8]; rfl
      have HT : Hid (R = nil8 A 8 16) := Lib.hid (by rw [HR.out, h8]; rfl)
      clear h8 HR hok
      go_wp2_with fail
      go_loop [3] (fun i => ∃ k : Nat, 8 ≤ k ∧ k ≤ 16 ∧ i = .int .i64 k ∧ Hid (nil8 A 8 k = true)) (fun i => 16 - (intOf i).toNat)
      case atStart => exact ⟨8, Nat.le_refl _, by decide, rfl, Lib.hid (nil8_start A 8)⟩
      case round =>
        obtain ⟨k, hkn, hk, rfl, hC⟩ := hrel
        by_cases hlt : k < 16
        · have hx := HN.out 8 k hkn (by rw [HL.out]; exact hlt)
          rw [hC.out] at hx
          have ck := HK.out.at (HA.out k hlt)
          generalize A.getD k 0 = dk at *
          by_cases h0 : dk = 0
          · have e0 : (dk != 0) = false := by rw [h0]; rfl
            have HX : Hid (nil8 A 8 (k + 1) = true) := Lib.hid (by rw [hx, h0]; rfl)
            clear hx h0
            go_wp2_with fail
            go_round
            case rel => exact ⟨k + 1, by omega, by omega, by go_num, HX⟩
            case measure => simp [intOf]; omega
          · have e0 : (dk != 0) = true := by rw [bne_iff_ne]; exact h0
            have HX : Hid (nil8 A 8 16 = false) := Lib.hid (HM.out 8 (k + 1) 16 (by omega) (by rw [hx]; simpa using h0))
            clear hx h0
            go_wp2_with fail
            go_ret
            exact ⟨by rw [HT.out, HX.out]; rfl, HB.out⟩
        · obtain rfl : k = 16 := by omega
          go_wp2_with fail
          go_ret
          exact ⟨by rw [HT.out, hC.out]; rfl, HB.out⟩
    · have e8 : (d8 != 0) = true := by rw [bne_iff_ne]; exact h8
      have HX : Hid (R = false) := Lib.hid (by rw [HR.out, beq_eq_false_iff_ne.2 h8]; rfl)
      clear h8 HR hok
      go_wp2_with fail
      go_ret
      exact ⟨by rw [HX.out]; rfl, HB.out⟩
  · have k1 : (96 : Int).tdiv 8 = 12 := by decide
    by_cases h8 : d8 = 0
    · have e8 : (d8 != 0) = false := by rw [h8]; rfl
      have HT : Hid (R = nil8 A 12 16) := Lib.hid (by rw [HR.out, h8]; rfl)
      clear h8 HR hok
      go_wp2_with fail
      go_loop [3] (fun i => ∃ k : Nat, 12 ≤ k ∧ k ≤ 16 ∧ i = .int .i64 k ∧ Hid (nil8 A 12 k = true)) (fun i => 16 - (intOf i).toNat)
      case atStart => exact ⟨12, Nat.le_refl _, by decide, rfl, Lib.hid (nil8_start A 12)⟩
      case round =>
        obtain ⟨k, hkn, hk, rfl, hC⟩ := hrel
        by_cases hlt : k < 16
        · have hx := HN.out 12 k hkn (by rw [HL.out]; exact hlt)
          rw [hC.out] at hx
          have ck := HK.out.at (HA.out k hlt)
          generalize A.getD k 0 = dk at *
          by_cases h0 : dk = 0
          · have e0 : (dk != 0) = false := by rw [h0]; rfl
            have HX : Hid (nil8 A 12 (k + 1) = true) := Lib.hid (by rw [hx, h0]; rfl)
            clear hx h0
            go_wp2_with fail
            go_round
            case rel => exact ⟨k + 1, by omega, by omega, by go_num, HX⟩
            case measure => simp [intOf]; omega
          · have e0 : (dk != 0) = true := by rw [bne_iff_ne]; exact h0
            have HX : Hid (nil8 A 12 16 = false) := Lib.hid (HM.out 12 (k + 1) 16 (by omega) (by rw [hx]; simpa using h0))
            clear hx h0
            go_wp2_with fail
            go_ret
            exact ⟨by rw [HT.out, HX.out]; rfl, HB.out⟩
        · obtain rfl : k = 16 := by omega
          go_wp2_with fail
          go_ret
          exact ⟨by rw [HT.out, hC.out]; rfl, HB.out⟩
    · have e8 : (d8 != 0) = true := by rw [bne_iff_ne]; exact h8
      have HX : Hid (R = false) := Lib.hid (by rw [HR.out, beq_eq_false_iff_ne.2 h8]; rfl)
      clear h8 HR hok
      go_wp2_with fail
      go_ret
      exact ⟨by rw [HX.out]; rfl, HB.out⟩
end Go.Proofs.Ytpjcanejenmldaa
