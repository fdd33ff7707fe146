/-
  Proved here: the law IcmpmapAll answers true.
  Conditions: none.
-/
import Derived.Test.YtnehabpdpkjaeaaDoorLSays
namespace Go.Proofs.YtnehabpdpkjaeaaDoor
open Go.RowKit

set_option maxRecDepth 100000 in
set_option maxHeartbeats 4000000 in
theorem icmpmapAll_any (r x y len : Int) (w : World) (hm : Hm w) (ir : (Lit.int .u32 r).wf = true) (ix : (Lit.int .u16 x).wf = true) (iy : (Lit.int .u16 y).wf = true) : Calls Tryd.prog 5 #[.int .u32 r, .int .u16 x, .int .u16 y, .int .i64 len] w (fun e w' => e = .returned (.bool true) ∧ Below w.heap.size w w') := by
  have HMB : Hid (∀ W, Below w.heap.size w W → Hm W) := Lib.hid (fun W hW => hm.below hW)
  have ir : 0 ≤ r ∧ r < 4294967296 := by
    have h : 0 ≤ r ∧ r ≤ 4294967295 := by simpa [Lit.wf, IntKind.min, IntKind.max, IntKind.signed, IntKind.bits] using ir
    omega
  have ix : 0 ≤ x ∧ x ≤ 65535 := by simpa [Lit.wf, IntKind.min, IntKind.max, IntKind.signed, IntKind.bits] using ix
  have iy : 0 ≤ y ∧ y ≤ 65535 := by simpa [Lit.wf, IntKind.min, IntKind.max, IntKind.signed, IntKind.bits] using iy
  have kx : IntKind.i64.wrap x = x := IntWalk.i64_in _ (by omega)
  have ky : IntKind.i64.wrap y = y := IntWalk.i64_in _ (by omega)
  have CO : Hid (∀ (k c a b : Int) (W : World), Below w.heap.size w W → Calls Tryd.prog 6 #[.agg #[.int .i64 k, .int .i64 c, .int .u32 r, .string ⟨#[100]⟩], .int .i64 a, .int .i64 b, .int .i64 len] W (fun e w' => e = .returned (.bool true) ∧ Below W.heap.size W w')) := Lib.hid (fun k c a b W hW => icmpmapOne_all (⟨k, c, r, ⟨#[100]⟩⟩ : Mg) a b len W (HMB.out W hW) ir)
  go_enter Tryd.func5, Tryd.ntmps5
  go_wp2_with fail
  refine (awake14_true _ hm).mono ?_
  rintro e w1 ⟨rfl, bb⟩
  have HB1 := Lib.hid bb
  clear bb
  go_upto_region 4 with (fail)
  generalize max x 68 = A at *
  generalize max y 1280 = B at *
  clear kx ky ix iy
  go_wp2_with fail
  go_loopw [11] (fun i wr => ∃ k : Nat, k ≤ 256 ∧ i = .int .i64 k ∧ Hid (Below w.heap.size w wr)) (fun i _ => 257 - (intOf i).toNat)
  case atStart => exact ⟨0, Nat.zero_le _, rfl, HB1⟩
  case round =>
    obtain ⟨k, hk, rfl, HB⟩ := hrel
    by_cases hlt : k < 256
    · have hi : (k : Int) < 256 := by omega
      go_wp2_with fail
      go_loopw [12] (fun j wr => ∃ c : Nat, c ≤ 20 ∧ j = .int .i64 c ∧ Hid (Below w.heap.size w wr)) (fun j _ => 21 - (intOf j).toNat)
      case atStart => exact ⟨0, Nat.zero_le _, rfl, HB⟩
      case round =>
        obtain ⟨c, hc, rfl, HB⟩ := hrel
        by_cases hlc : c < 20
        · have hj : (c : Int) < 20 := by omega
          go_wp2_with fail
          refine (CO.out _ _ _ _ _ HB.out).mono ?_
          rintro e w2 ⟨rfl, bb⟩
          have HB2 := Lib.hid (HB.out.trans (bb.mono HB.out.size))
          clear bb
          go_wp2_with fail
          go_roundw
          case rel => exact ⟨c + 1, by omega, by go_num, HB2⟩
          case measure => simp [intOf]; omega
        · obtain rfl : c = 20 := by omega
          rw [show ((20 : Nat) : Int) = 20 from rfl]
          go_wp2_with fail
          go_roundw
          case rel => exact ⟨k + 1, by omega, by go_num, HB⟩
          case measure => simp [intOf]; omega
    · obtain rfl : k = 256 := by omega
      rw [show ((256 : Nat) : Int) = 256 from rfl]
      go_wp2_with fail
      go_ret
      exact ⟨rfl, HB.out⟩
end Go.Proofs.YtnehabpdpkjaeaaDoor
