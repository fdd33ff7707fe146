/-
  Proved here: what the program's group and longestRun answer.
  Conditions: an address of 16 bytes.
-/
import Derived.Test.YtkdplnbabelkoaaDoorLr
import Derived.Test.YtkdplnbabelkoaaDoorHexw
import Derived.Test.YtkdplnbabelkoaaDoorFirst
namespace Go.Proofs.YtkdplnbabelkoaaDoor
open Go.RowKit

theorem or_256 (a b : Nat) (ha : a < 256) (hb : b < 256) : bits .or .i64 ((a : Int) * 256) (b : Int) = ((256 * a + b : Nat) : Int) := by
  show IntKind.i64.wrap ((BitVec.ofInt 64 ((a : Int) * 256) ||| BitVec.ofInt 64 (b : Int)).toNat : Int) = _
  have e1 : (a : Int) * 256 = ((a * 256 : Nat) : Int) := by omega
  rw [e1, BitVec.ofInt_natCast, BitVec.ofInt_natCast, BitVec.toNat_or, BitVec.toNat_ofNat, BitVec.toNat_ofNat, Nat.mod_eq_of_lt (by omega), Nat.mod_eq_of_lt (by omega)]
  have h := Nat.shiftLeft_add_eq_or_of_lt (i := 8) (b := b) (by omega) a
  rw [Nat.shiftLeft_eq] at h
  rw [← h]
  unfold IntKind.wrap IntKind.bits IntKind.signed
  simp
  omega
theorem grpN_lt (x : List UInt8) (i : Nat) : grpN x i < 65536 := by
  unfold grpN
  have := (x.getD (2 * i) 0).toNat_lt
  have := (x.getD (2 * i + 1) 0).toNat_lt
  omega
set_option maxRecDepth 100000 in
set_option maxHeartbeats 4000000 in
theorem group_any (x : List UInt8) (i : Nat) (w : World) (hx : x.length = 16) (hi : i < 8) :
    Calls Tryd.prog 39 #[.agg (bu x).toArray, .int .i64 (i : Int)] w fun e w' => e = .returned (.int .i64 (grpN x i : Nat)) ∧ Below w.heap.size w w' := by
  have hk := (Kp.start w).new 24 (bu x)
  have c0 := hk.hd.at (i := 2 * i) (bu_at x _ (by omega))
  have c1 := hk.hd.at (i := 2 * i + 1) (bu_at x _ (by omega))
  have HB := Lib.hid hk.2.1
  have ho := or_256 (x.getD (2 * i) 0).toNat (x.getD (2 * i + 1) 0).toNat (UInt8.toNat_lt _) (UInt8.toNat_lt _)
  have HR : Hid (grpN x i = 256 * (x.getD (2 * i) 0).toNat + (x.getD (2 * i + 1) 0).toNat) := Lib.hid rfl
  generalize grpN x i = R at *
  have ha9 := (x.getD (2 * i) 0).toNat_lt
  have hb9 := (x.getD (2 * i + 1) 0).toNat_lt
  generalize (x.getD (2 * i) 0).toNat = a at *
  generalize (x.getD (2 * i + 1) 0).toNat = b at *
  rw [← HR.out] at ho
  obtain ⟨p, hp⟩ : ∃ p, p = 2 * i := ⟨_, rfl⟩
  obtain ⟨p1, hp1⟩ : ∃ p1, p1 = p + 1 := ⟨_, rfl⟩
  have e1 : 2 * (i : Int) = (p : Int) := by omega
  have e2 : (p : Int) + 1 = (p1 : Int) := by omega
  rw [← hp, ← hp1] at c1
  rw [← hp] at c0
  have j0 : (p : Int) < 16 := by omega
  have j1 : (p1 : Int) < 16 := by omega
  clear hk hx hi hp hp1 HR
  generalize bu x = X at *
  generalize hw1 : w.alloc (.cells X.toArray 24) = w1 at *
  go_enter Tryd.func39, Tryd.ntmps39
  go_upto_region 1 with (fail)
  clear hw1
  go_region
  go_wp2_with fail
  go_ret
  exact ⟨rfl, HB.out.drew⟩
set_option maxRecDepth 100000 in
set_option maxHeartbeats 4000000 in
theorem longest_any (x : List UInt8) (w : World) (hx : x.length = 16) :
    Calls Tryd.prog 40 #[.agg (bu x).toArray] w fun e w' => e = .returned (.tuple #[.int .i64 (lrF x : Nat), .int .i64 (lrN x : Nat)]) ∧ Below w.heap.size w w' := by
  have HK1 := Lib.hid ((Kp.start w).new 24 (bu x))
  have CG := Lib.hid (fun i (hi : i < 8) W => group_any x i W hx hi)
  have HIX : Hid ((Tryd.prog.info? 24).map (·.size) = some (bu x).length) := Lib.hid (Tryd.infoU6 _ hx)
  have HFN : Hid (lrF x = (lrS x 8).1 ∧ lrN x = (lrS x 8).2.1) := Lib.hid ⟨rfl, rfl⟩
  have HIn := Lib.hid (lrS_in x)
  have HNx : Hid (∀ i, lrS x (i + 1) = if grpN x i ≠ 0 then ((lrS x i).1, (lrS x i).2.1, 0) else if (lrS x i).2.1 < (lrS x i).2.2 + 1 then (i + 1 - ((lrS x i).2.2 + 1), (lrS x i).2.2 + 1, (lrS x i).2.2 + 1) else ((lrS x i).1, (lrS x i).2.1, (lrS x i).2.2 + 1)) := Lib.hid (fun _ => rfl)
  generalize lrF x = F at *
  generalize lrN x = N at *
  clear hx
  generalize bu x = X at *
  generalize hw1 : w.alloc (.cells X.toArray 24) = w1 at *
  go_enter Tryd.func40, Tryd.ntmps40
  go_upto_region 1 with (fail)
  clear hw1
  go_wp2_with fail
  go_loopw [2, 3, 4, 6] (fun f n r i wr => ∃ k : Nat, k ≤ 8 ∧ i = .int .i64 k ∧ f = .int .i64 ((lrS x k).1 : Nat) ∧ n = .int .i64 ((lrS x k).2.1 : Nat) ∧ r = .int .i64 ((lrS x k).2.2 : Nat) ∧ Kp w w.heap.size [(w.heap.size, 24, X)] wr) (fun _ _ _ i _ => 8 - (intOf i).toNat)
  case atStart => exact ⟨0, Nat.zero_le _, rfl, rfl, rfl, rfl, HK1.out⟩
  case round =>
    obtain ⟨k, hk, rfl, rfl, rfl, rfl, hK⟩ := hrel
    have HK := Lib.hid hK
    clear hK HK1
    by_cases hlt : k < 8
    · have i8 : ((k : Nat) : Int) < 8 := by omega
      have hr := HK.out.hd.range
      have CG1 := Lib.hid (CG.out k hlt)
      obtain ⟨hin1, hin2⟩ := HIn.out k
      have hnx := HNx.out k
      by_cases hg : grpN x k ≠ 0
      · have eg : (((grpN x k : Nat) : Int) != 0) = true := by rw [bne_iff_ne]; omega
        rw [if_pos hg] at hnx
        have HN2 := Lib.hid hnx
        clear hnx hg
        generalize grpN x k = g at *
        generalize (lrS x k).1 = f at *
        generalize (lrS x k).2.1 = n at *
        generalize (lrS x k).2.2 = r at *
        go_wp2_with (first | (refine wpList_load_mid rfl 24 _ rfl w.heap.size 0 rfl X _ hr Tryd.underlying24 rfl HIX.out ?_) | (go_at_call 39; refine (CG1.out _).mono ?_; rintro e w9 ⟨rfl, hb9⟩; have HK9 := Lib.hid (HK.out.below hb9 (Nat.le_refl _)); clear hb9 hr))
        go_roundw
        case rel => exact ⟨k + 1, by omega, by go_num, by rw [HN2.out], by rw [HN2.out], by rw [HN2.out]; rfl, HK9.out⟩
        case measure => simp [intOf]; omega
      · have eg : (((grpN x k : Nat) : Int) != 0) = false := by rw [bne_eq_false_iff_eq]; omega
        rw [if_neg hg] at hnx
        have hg0 : grpN x k = 0 := Decidable.not_not.mp hg
        clear hg hg0
        by_cases hm : (lrS x k).2.1 < (lrS x k).2.2 + 1
        · rw [if_pos hm] at hnx
          have HN2 := Lib.hid hnx
          clear hnx
          generalize grpN x k = g at *
          generalize (lrS x k).1 = f at *
          generalize (lrS x k).2.1 = n at *
          generalize (lrS x k).2.2 = r at *
          have im : (n : Int) < (r : Int) + 1 := by omega
          have dm := decide_eq_true im
          obtain ⟨q, hq⟩ : ∃ q, q = k + 1 - (r + 1) := ⟨_, rfl⟩
          have eq1 : ((k : Nat) : Int) + 1 - ((r : Int) + 1) = (q : Int) := by omega
          rw [← hq] at HN2
          clear hq hm
          go_wp2_with (first | (refine wpList_load_mid rfl 24 _ rfl w.heap.size 0 rfl X _ hr Tryd.underlying24 rfl HIX.out ?_) | (go_at_call 39; refine (CG1.out _).mono ?_; rintro e w9 ⟨rfl, hb9⟩; have HK9 := Lib.hid (HK.out.below hb9 (Nat.le_refl _)); clear hb9 hr))
          go_roundw
          case rel => exact ⟨k + 1, by omega, by go_num, by rw [HN2.out], by rw [HN2.out]; rfl, by rw [HN2.out]; rfl, HK9.out⟩
          case measure => simp [intOf]; omega
        · rw [if_neg hm] at hnx
          have HN2 := Lib.hid hnx
          clear hnx
          generalize grpN x k = g at *
          generalize (lrS x k).1 = f at *
          generalize (lrS x k).2.1 = n at *
          generalize (lrS x k).2.2 = r at *
          have im : ¬ (n : Int) < (r : Int) + 1 := by omega
          have dm := decide_eq_false im
          clear hm
          go_wp2_with (first | (refine wpList_load_mid rfl 24 _ rfl w.heap.size 0 rfl X _ hr Tryd.underlying24 rfl HIX.out ?_) | (go_at_call 39; refine (CG1.out _).mono ?_; rintro e w9 ⟨rfl, hb9⟩; have HK9 := Lib.hid (HK.out.below hb9 (Nat.le_refl _)); clear hb9 hr))
          go_roundw
          case rel => exact ⟨k + 1, by omega, by go_num, by rw [HN2.out], by rw [HN2.out], by rw [HN2.out]; rfl, HK9.out⟩
          case measure => simp [intOf]; omega
    · obtain rfl : k = 8 := by omega
      have e8 : ((8 : Nat) : Int) = 8 := rfl
      simp only [e8] at *
      go_wp2_with fail
      go_ret2
      exact ⟨by rw [HFN.out.1, HFN.out.2]; rfl, HK.out.2.1⟩
end Go.Proofs.YtkdplnbabelkoaaDoor
