/-
  Proved here: the law Ip4Used answers true, and leaves old memory as it was.
  Conditions: none.
-/
import Derived.Test.YtjfkfeobmcnonaaRoute
import Derived.Test.YtjfkfeobmcnonaaAwake
namespace Go.Proofs.Ytjfkfeobmcnonaa
open Go.RowKit

theorem routed_some (s : ByteArray) (b : Bool) (h : rtE s.data.toList false = some b) (w : World) :
    Calls Try.prog 17 #[.string s] w fun e w' => e = .returned (.tuple #[.bool b, .nilIface]) ∧ Below w.heap.size w w' := by
  have := routed_any s w
  rw [h] at this
  exact this
theorem rt_ones (l : List UInt8) (a : Bool) : ∀ k, rtE (List.replicate k 1 ++ l) a = rtE l a
  | 0 => by simp
  | k + 1 => by
    rw [List.replicate_succ, List.cons_append]
    have h0 : ¬ ((1 :: (List.replicate k 1 ++ l) : List UInt8).length = 0 ∨ lb (1 :: (List.replicate k 1 ++ l)) 0 = 0) := by
      simp [lb]
    rw [rtE_next a h0 (.inl rfl)]
    show rtE (List.replicate k 1 ++ l) (a || false) = _
    rw [Bool.or_false]
    exact rt_ones l a k
theorem rt_tail (x : UInt8) : rtE [137, 7, x, 97, 98, 99, 100] false = some (decide (x.toNat ≤ 7)) := by
  have h0 : ¬ (([137, 7, x, 97, 98, 99, 100] : List UInt8).length = 0 ∨ lb [137, 7, x, 97, 98, 99, 100] 0 = 0) := by
    show ¬ (7 = 0 ∨ 137 = 0)
    omega
  have h1 : rtOk [137, 7, x, 97, 98, 99, 100] := .inr ⟨by show 2 ≤ 7; omega, by show (if rte 137 then 3 else 2) ≤ 7; decide, by show 7 ≤ 7; omega⟩
  rw [rtE_next _ h0 h1]
  rfl
theorem used_a (P : ByteArray) (k : Nat) (p : Int) (h0 : 0 ≤ p) (h1 : p ≤ 255) (hP : P.data.toList = List.replicate k 1) : rtE (P ++ ⟨#[137, 7]⟩ ++ strOfNums [p] ++ ⟨#[97, 98, 99, 100]⟩ : ByteArray).data.toList false = some (decide (p ≤ 7)) := by
  have e : (P ++ ⟨#[137, 7]⟩ ++ strOfNums [p] ++ ⟨#[97, 98, 99, 100]⟩ : ByteArray).data.toList = List.replicate k 1 ++ [137, 7, UInt8.ofNat p.toNat, 97, 98, 99, 100] := by
    simp only [ByteArray.data_append, Array.toList_append, hP, List.append_assoc]
    rfl
  rw [e, rt_ones, rt_tail]
  congr 1
  have : (UInt8.ofNat p.toNat).toNat = p.toNat := by rw [UInt8.toNat_ofNat']; omega
  rw [this]
  by_cases h : p ≤ 7
  · rw [decide_eq_true h, decide_eq_true (by omega)]
  · rw [decide_eq_false h, decide_eq_false (by omega)]
theorem used_b (P s : ByteArray) (k : Nat) (hP : P.data.toList = List.replicate k 1) : rtE (P ++ ⟨#[0]⟩ ++ s : ByteArray).data.toList false = some false := by
  have e : (P ++ ⟨#[0]⟩ ++ s : ByteArray).data.toList = List.replicate k 1 ++ (0 :: s.data.toList) := by
    simp only [ByteArray.data_append, Array.toList_append, hP, List.append_assoc]
    rfl
  rw [e, rt_ones]
  exact rtE_end _ (.inr rfl)
theorem used_c (P : ByteArray) (k : Nat) (hP : P.data.toList = List.replicate k 1) : rtE P.data.toList false = some false := by
  rw [hP]
  have := rt_ones [] false k
  rw [List.append_nil] at this
  rw [this]
  rfl
theorem ip4Used_long (s : ByteArray) (ones pointer : Int) (w : World) (h : 200 < s.size) :
    Calls Try.prog 10 #[.string s, .int .u8 ones, .int .u8 pointer] w fun e w' => e = .returned (.bool true) ∧ Below w.heap.size w w' := by
  go_enter Try.func10, Try.ntmps10
  go_wp2_with fail
  refine (awake_true w).mono ?_
  rintro e w1 ⟨rfl, b1⟩
  have HB1 := Lib.hid b1
  clear b1
  go_wp2_with fail
  go_ret
  exact ⟨rfl, HB1.out⟩
set_option maxRecDepth 100000 in
set_option maxHeartbeats 1000000 in
theorem ip4Used_walk (s : ByteArray) (ones : Nat) (p : Int) (w : World) (h : s.size ≤ 200) (ho : ones ≤ 255) (p0 : 0 ≤ p) (p1 : p ≤ 255) :
    Calls Try.prog 10 #[.string s, .int .u8 ones, .int .u8 p] w fun e w' => e = .returned (.bool true) ∧ Below w.heap.size w w' := by
  go_enter Try.func10, Try.ntmps10
  go_wp2_with fail
  refine (awake_true w).mono ?_
  rintro e w1 ⟨rfl, b1⟩
  have HB1 := Lib.hid b1
  clear b1
  go_wp2_with fail
  go_loop [7, 8] (fun v i => ∃ (P : ByteArray) (k : Nat), k ≤ ones ∧ v = .string P ∧ i = .int .i64 k ∧ P.size = k ∧ Hid (P.data.toList = List.replicate k 1)) (fun _ i => ones - (intOf i).toNat)
  case atStart => exact ⟨⟨#[]⟩, 0, Nat.zero_le _, rfl, rfl, rfl, Lib.hid rfl⟩
  case round =>
    obtain ⟨P, k, hk, rfl, rfl, hz, HP⟩ := hrel
    have hz1 : P.size ≤ 255 := by omega
    have HZ := Lib.hid hz
    clear hz
    by_cases hlt : k < ones
    · have zc := cat_len
      go_wp2_with fail
      clear zc
      go_round
      case rel => exact ⟨_, k + 1, by omega, rfl, by go_num, by rw [ByteArray.size_append, HZ.out]; rfl, Lib.hid (by rw [ByteArray.data_append, Array.toList_append, HP.out, List.replicate_succ'])⟩
      case measure => simp [intOf]; omega
    · have HA := Lib.hid (used_a P k p p0 p1 HP.out)
      have HBb := Lib.hid (used_b P s k HP.out)
      have HC := Lib.hid (used_c P k HP.out)
      have hcv := conv1
      have zc := cat_len
      have zs := fun x : Int => (show (strOfNums [x]).size = 1 from rfl)
      clear HP HZ
      go_wp2_with fail
      refine (routed_some _ _ HA.out _).mono ?_
      rintro e w2 ⟨rfl, b2⟩
      have HB2 := Lib.hid (HB1.out.trans (((Below.refl w1.heap.size w1).alloc (Nat.le_refl _) (.cells #[.int .u8 p] 5)).trans (b2.mono (by simp)) |>.mono HB1.out.size))
      clear b2 hcv
      go_wp2_with fail
      refine (routed_some _ _ HBb.out _).mono ?_
      rintro e w3 ⟨rfl, b3⟩
      have HB3 := Lib.hid (HB2.out.trans (b3.mono HB2.out.size))
      clear b3
      go_wp2_with fail
      refine (routed_some _ _ HC.out _).mono ?_
      rintro e w4 ⟨rfl, b4⟩
      have HB4 := Lib.hid (HB3.out.trans (b4.mono HB3.out.size))
      clear b4 zc zs
      go_wp2_with fail
      go_ret
      exact ⟨rfl, HB4.out⟩
theorem ip4Used_any (s : ByteArray) (ones pointer : Int) (w : World) (w1 : (Lit.int .u8 ones).wf = true) (w2 : (Lit.int .u8 pointer).wf = true) :
    Calls Try.prog 10 #[.string s, .int .u8 ones, .int .u8 pointer] w fun e w' => e = .returned (.bool true) ∧ Below w.heap.size w w' := by
  have h3 : 0 ≤ ones ∧ ones ≤ 255 := by simpa [Lit.wf, IntKind.min, IntKind.max, IntKind.signed, IntKind.bits] using w1
  have h4 : 0 ≤ pointer ∧ pointer ≤ 255 := by simpa [Lit.wf, IntKind.min, IntKind.max, IntKind.signed, IntKind.bits] using w2
  by_cases h : s.size ≤ 200
  · obtain ⟨o, rfl⟩ : ∃ o : Nat, ones = o := ⟨ones.toNat, by omega⟩
    exact ip4Used_walk s o pointer w h (by omega) h4.1 h4.2
  · exact ip4Used_long s ones pointer w (by omega)
end Go.Proofs.Ytjfkfeobmcnonaa
