/-
  Proved here: plain facts on cut prefixes.
  Conditions: as each fact says.
-/
import Derived.Test.YtkkgcmfcfacakaaDoorCutb
namespace Go.Proofs.YtkkgcmfcfacakaaDoor
open Go.RowKit

theorem clr1_all (c : UInt8) : clr1 c 8 = c := by rw [← kut1_end, kut1_self]
theorem clr1_none (c : UInt8) : clr1 c 0 = 0 := by
  apply UInt8.toNat_inj.mp
  rw [clr1_nat]
  have h := c.toNat_lt
  have e : c.toNat >>> (8 - 0) = 0 := by
    rw [Nat.shiftRight_eq_div_pow]
    exact Nat.div_eq_of_lt h
  rw [e]
  rfl
theorem clr1_less (c : UInt8) (p q : Nat) (h : q ≤ p) : clr1 (clr1 c p) q = clr1 c q := by
  apply byte_eq
  intro t _
  rw [clr1_bit, clr1_bit, clr1_bit]
  by_cases h1 : 8 - q ≤ t
  · have h2 : 8 - p ≤ t := by omega
    simp [h1, h2]
  · simp [h1]
theorem clr_all (x : List UInt8) (n : Int) (h : 8 * (x.length : Int) ≤ n) : clr x n = x := by
  apply list_eq
  · exact clr_len _ _
  · intro i hi
    rw [clr_len] at hi
    rw [clr_at x n i hi]
    have e : kpt n i = 8 := by unfold kpt; omega
    rw [e, clr1_all]
theorem clr_less (x : List UInt8) (n m : Int) (h : m ≤ n) : clr (clr x n) m = clr x m := by
  apply list_eq
  · rw [clr_len, clr_len, clr_len]
  · intro i hi
    rw [clr_len, clr_len] at hi
    rw [clr_at _ m i (by rw [clr_len]; exact hi), clr_at x n i hi, clr_at x m i hi, clr1_less]
    unfold kpt
    omega
theorem clr_none (x y : List UInt8) (h : x.length = y.length) : clr x 0 = clr y 0 := by
  apply list_eq
  · rw [clr_len, clr_len, h]
  · intro i hi
    rw [clr_len] at hi
    have e : kpt 0 i = 0 := by unfold kpt; omega
    rw [clr_at x 0 i hi, clr_at y 0 i (by omega), e, clr1_none, clr1_none]
theorem cut_holds (x y : List UInt8) (n : Nat) (hl : y.length = x.length) (hn : n ≤ 8 * x.length) : (Nn.mk (clr x n) n).holds y = decide (clr y n = clr x n) := by
  rw [may_holds _ y (by rw [hl]; exact (clr_len _ _).symm)]
  have e : (Nn.mk (clr x n) n).may = true := by
    unfold Nn.may
    dsimp only
    rw [clr_len, clr_less x n n (Int.le_refl _)]
    simp
    omega
  rw [e]
  rfl
theorem cut_shorter (x y : List UInt8) (n m : Nat) (hl : y.length = x.length) (hn : n ≤ 8 * x.length) (hm : m ≤ n) (h : (Nn.mk (clr x n) n).holds y = true) : (Nn.mk (clr x m) m).holds y = true := by
  rw [cut_holds x y n hl hn, decide_eq_true_eq] at h
  rw [cut_holds x y m hl (by omega), decide_eq_true_eq, ← clr_less y n m (by omega), h, clr_less x n m (by omega)]
theorem cut_whole (x y : List UInt8) (n : Nat) (hl : y.length = x.length) (hn : n = 8 * x.length) : (Nn.mk (clr x n) n).holds y = decide (x = y) := by
  rw [cut_holds x y n hl (by omega), clr_all x n (by omega), clr_all y n (by omega)]
  exact decide_eq_decide.2 ⟨Eq.symm, Eq.symm⟩
theorem cut_self (x : List UInt8) (n : Nat) (hn : n ≤ 8 * x.length) : (Nn.mk (clr x n) n).holds x = true := by
  rw [cut_holds x x n rfl hn]
  simp
theorem empty_holds (z x : List UInt8) (hl : x.length = z.length) (hz : clr z 0 = z) : (Nn.mk z 0).holds x = true := by
  have h := cut_holds z x 0 hl (by omega)
  have e : ((0 : Nat) : Int) = 0 := rfl
  rw [e, hz, clr_none x z hl, hz] at h
  rw [h]
  simp
theorem bz6 (W : World) : (Instr.build 36 #[]).run Tryd.prog W = .ok (.agg ([.int .u8 0, .int .u8 0, .int .u8 0, .int .u8 0, .int .u8 0, .int .u8 0, .int .u8 0, .int .u8 0, .int .u8 0, .int .u8 0, .int .u8 0, .int .u8 0, .int .u8 0, .int .u8 0, .int .u8 0, .int .u8 0, .int .i64 0] : List Value).toArray) W := by kernel_rfl
theorem bz4 (W : World) : (Instr.build 32 #[]).run Tryd.prog W = .ok (.agg ([.int .u8 0, .int .u8 0, .int .u8 0, .int .u8 0, .int .i64 0] : List Value).toArray) W := by kernel_rfl
end Go.Proofs.YtkkgcmfcfacakaaDoor
