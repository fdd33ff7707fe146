/-
  Proved here: what the document's Pseudo4 and Pseudo6 answer.
  Conditions: none.
-/
import Derived.Test.YtfpmkadlidbboaaPseudo
import Derived.Test.YtfpmkadlidbboaaRefLow
namespace Go.Proofs.Ytfpmkadlidbboaa
open Go.RowKit

theorem nums_append (a b : List Int) : strOfNums a ++ strOfNums b = strOfNums (a ++ b) := by
  apply ByteArray.ext
  simp [strOfNums]
theorem nums_take (l : List Int) (k : Nat) (hk : k < l.length) : strOfNums (l.take k) ++ strOfNums [l[k]] = strOfNums (l.take (k + 1)) := by
  rw [nums_append, List.take_succ_eq_append_getElem hk]
theorem nums_take2 (a l : List Int) (k : Nat) (hk : k < l.length) : strOfNums (a ++ l.take k) ++ strOfNums [l[k]] = strOfNums (a ++ l.take (k + 1)) := by
  rw [nums_append, List.take_succ_eq_append_getElem hk, List.append_assoc]

set_option maxRecDepth 100000 in
set_option maxHeartbeats 2000000 in
theorem rpseudo4_any (a0 a1 a2 a3 b0 b1 b2 b3 p l : Int) (w : World) :
    Calls Try.prog 20 #[.agg #[.int .u8 a0, .int .u8 a1, .int .u8 a2, .int .u8 a3], .agg #[.int .u8 b0, .int .u8 b1, .int .u8 b2, .int .u8 b3], .int .i64 p, .int .i64 l] w fun e w' => e = .returned (.string (strOfNums [a0, a1, a2, a3] ++ strOfNums [b0, b1, b2, b3] ++ strOfNums (lowN 1 0) ++ strOfNums (lowN 1 p) ++ strOfNums (lowN 2 l))) ∧ Below w.heap.size w w' := by
  obtain ⟨LA, hLA⟩ : ∃ LA, LA = [a0, a1, a2, a3] := ⟨_, rfl⟩
  obtain ⟨LB, hLB⟩ : ∃ LB, LB = [b0, b1, b2, b3] := ⟨_, rfl⟩
  have hlA : LA.length = 4 := by rw [hLA]; rfl
  have hlB : LB.length = 4 := by rw [hLB]; rfl
  have HLA := Lib.hid hLA
  have HLB := Lib.hid hLB
  have HlA := Lib.hid hlA
  have HlB := Lib.hid hlB
  go_enter Try.func20, Try.ntmps20
  clear hLA hLB hlA hlB
  go_wp2_with fail
  obtain ⟨h1, h2, h3⟩ := two_new w 28 [a0, a1, a2, a3] [b0, b1, b2, b3] #[.int .u8 a0, .int .u8 a1, .int .u8 a2, .int .u8 a3] #[.int .u8 b0, .int .u8 b1, .int .u8 b2, .int .u8 b3] rfl rfl
  generalize (w.alloc (.cells #[.int .u8 a0, .int .u8 a1, .int .u8 a2, .int .u8 a3] 28)).alloc (.cells #[.int .u8 b0, .int .u8 b1, .int .u8 b2, .int .u8 b3] 28) = W at h1 h2 h3
  rw [← HLA.out] at h1
  rw [← HLB.out] at h2
  obtain ⟨B, hBd⟩ : ∃ B, B = w.heap.size := ⟨_, rfl⟩
  rw [← hBd] at h3
  have hN : B ≤ w.heap.size := by omega
  have HN := Lib.hid hN
  have HBd := Lib.hid hBd
  clear hBd hN
  generalize w.heap.size + 1 = p2 at h2
  generalize w.heap.size = p1 at h1
  have HA := Lib.hid h1
  have HB := Lib.hid h2
  have HC := Lib.hid h3
  clear h1 h2 h3
  go_loopw [9, 10] (fun s i wr => ∃ k : Nat, k ≤ 4 ∧ i = .int .i64 k ∧ s = .string (strOfNums (LA.take k)) ∧ Arr wr p1 28 LA ∧ Arr wr p2 28 LB ∧ Below B w wr) (fun _ i _ => 4 - (intOf i).toNat)
  case atStart => exact ⟨0, Nat.zero_le _, rfl, rfl, HA.out, HB.out, HC.out⟩
  case round =>
    obtain ⟨k, hk, rfl, rfl, h1, h2, h3⟩ := hrel
    clear HA HB HC
    have HA := Lib.hid h1
    have HB := Lib.hid h2
    have HC := Lib.hid h3
    clear h1 h2 h3
    by_cases hlt : k < 4
    · have hlt' : k < LA.length := by rw [HlA.out]; exact hlt
      have hcell := HA.out.cell k hlt'
      have hcv := conv1 LA[k] wr
      have hz : (strOfNums (LA.take k)).size = k := by rw [strOfNums_size, List.length_take, HlA.out]; omega
      have hz1 : (strOfNums [LA[k]]).size = 1 := rfl
      have HT := Lib.hid (nums_take LA k hlt')
      go_wp2_with fail
      clear hz hz1 hcv hcell
      go_roundw
      case rel => exact ⟨k + 1, by omega, by go_num, by rw [HT.out], HA.out.alloc _, HB.out.alloc _, HC.out.alloc (Nat.le_trans HN.out HC.out.size) _⟩
      case measure => simp [intOf]; omega
    · have ht : LA.take k = LA := List.take_of_length_le (by rw [HlA.out]; omega)
      rw [ht]
      clear ht
      go_wp2_with fail
      go_loopw [9, 11] (fun s i wr => ∃ j : Nat, j ≤ 4 ∧ i = .int .i64 j ∧ s = .string (strOfNums (LA ++ LB.take j)) ∧ Arr wr p2 28 LB ∧ Below B w wr) (fun _ i _ => 4 - (intOf i).toNat)
      case atStart => exact ⟨0, Nat.zero_le _, rfl, by simp, HB.out, HC.out⟩
      case round =>
        obtain ⟨j, hj, rfl, rfl, h2, h3⟩ := hrel
        clear HA HB HC
        have HB := Lib.hid h2
        have HC := Lib.hid h3
        clear h2 h3
        by_cases hlt2 : j < 4
        · have hlt' : j < LB.length := by rw [HlB.out]; exact hlt2
          have hcell := HB.out.cell j hlt'
          have hcv := conv1 LB[j] wr
          have hz : (strOfNums (LA ++ LB.take j)).size = 4 + j := by rw [strOfNums_size, List.length_append, HlA.out, List.length_take, HlB.out]; omega
          have hz1 : (strOfNums [LB[j]]).size = 1 := rfl
          have HT := Lib.hid (nums_take2 LA LB j hlt')
          go_wp2_with fail
          clear hz hz1 hcv hcell
          go_roundw
          case rel => exact ⟨j + 1, by omega, by go_num, by rw [HT.out], HB.out.alloc _, HC.out.alloc (Nat.le_trans HN.out HC.out.size) _⟩
          case measure => simp [intOf]; omega
        · have ht : LB.take j = LB := List.take_of_length_le (by rw [HlB.out]; omega)
          rw [ht]
          clear ht
          have hb0 := HC.out
          rw [HBd.out] at hb0
          have hB0 := Lib.hid hb0
          clear hb0
          have hz : (strOfNums (LA ++ LB)).size = 8 := by rw [strOfNums_size, List.length_append, HlA.out, HlB.out]
          have zz := cat_len
          have hs1 := fun x => (show (strOfNums (lowN 1 x)).size = 1 from rfl)
          have hs2 := fun x => (show (strOfNums (lowN 2 x)).size = 2 from rfl)
          have hs3 := fun x => (show (strOfNums (lowN 3 x)).size = 3 from rfl)
          have hs4 := fun x => (show (strOfNums (lowN 4 x)).size = 4 from rfl)
          go_wp2_with fail
          refine (rlow1 _ _).mono ?_
          rintro e w2 ⟨rfl, b2⟩
          have hB1 := Lib.hid (hB0.out.trans (b2.mono hB0.out.size))
          clear b2
          go_wp2_with fail
          refine (rlow1 _ _).mono ?_
          rintro e w3 ⟨rfl, b3⟩
          have hB2 := Lib.hid (hB1.out.trans (b3.mono hB1.out.size))
          clear b3
          go_wp2_with fail
          refine (rlow2 _ _).mono ?_
          rintro e w4 ⟨rfl, b4⟩
          have hB3 := Lib.hid (hB2.out.trans (b4.mono hB2.out.size))
          clear b4
          go_wp2_with fail
          go_ret
          refine ⟨?_, hB3.out⟩
          rw [← HLA.out, ← HLB.out, nums_append LA LB]
          rfl

set_option maxRecDepth 100000 in
set_option maxHeartbeats 2000000 in
theorem rpseudo6_any (a0 a1 a2 a3 a4 a5 a6 a7 a8 a9 a10 a11 a12 a13 a14 a15 b0 b1 b2 b3 b4 b5 b6 b7 b8 b9 b10 b11 b12 b13 b14 b15 p l : Int) (w : World) :
    Calls Try.prog 21 #[.agg #[.int .u8 a0, .int .u8 a1, .int .u8 a2, .int .u8 a3, .int .u8 a4, .int .u8 a5, .int .u8 a6, .int .u8 a7, .int .u8 a8, .int .u8 a9, .int .u8 a10, .int .u8 a11, .int .u8 a12, .int .u8 a13, .int .u8 a14, .int .u8 a15], .agg #[.int .u8 b0, .int .u8 b1, .int .u8 b2, .int .u8 b3, .int .u8 b4, .int .u8 b5, .int .u8 b6, .int .u8 b7, .int .u8 b8, .int .u8 b9, .int .u8 b10, .int .u8 b11, .int .u8 b12, .int .u8 b13, .int .u8 b14, .int .u8 b15], .int .i64 p, .int .i64 l] w fun e w' => e = .returned (.string (strOfNums [a0, a1, a2, a3, a4, a5, a6, a7, a8, a9, a10, a11, a12, a13, a14, a15] ++ strOfNums [b0, b1, b2, b3, b4, b5, b6, b7, b8, b9, b10, b11, b12, b13, b14, b15] ++ strOfNums (lowN 4 l) ++ strOfNums (lowN 3 0) ++ strOfNums (lowN 1 p))) ∧ Below w.heap.size w w' := by
  obtain ⟨LA, hLA⟩ : ∃ LA, LA = [a0, a1, a2, a3, a4, a5, a6, a7, a8, a9, a10, a11, a12, a13, a14, a15] := ⟨_, rfl⟩
  obtain ⟨LB, hLB⟩ : ∃ LB, LB = [b0, b1, b2, b3, b4, b5, b6, b7, b8, b9, b10, b11, b12, b13, b14, b15] := ⟨_, rfl⟩
  have hlA : LA.length = 16 := by rw [hLA]; rfl
  have hlB : LB.length = 16 := by rw [hLB]; rfl
  have HLA := Lib.hid hLA
  have HLB := Lib.hid hLB
  have HlA := Lib.hid hlA
  have HlB := Lib.hid hlB
  go_enter Try.func21, Try.ntmps21
  clear hLA hLB hlA hlB
  go_wp2_with fail
  obtain ⟨h1, h2, h3⟩ := two_new w 31 [a0, a1, a2, a3, a4, a5, a6, a7, a8, a9, a10, a11, a12, a13, a14, a15] [b0, b1, b2, b3, b4, b5, b6, b7, b8, b9, b10, b11, b12, b13, b14, b15] #[.int .u8 a0, .int .u8 a1, .int .u8 a2, .int .u8 a3, .int .u8 a4, .int .u8 a5, .int .u8 a6, .int .u8 a7, .int .u8 a8, .int .u8 a9, .int .u8 a10, .int .u8 a11, .int .u8 a12, .int .u8 a13, .int .u8 a14, .int .u8 a15] #[.int .u8 b0, .int .u8 b1, .int .u8 b2, .int .u8 b3, .int .u8 b4, .int .u8 b5, .int .u8 b6, .int .u8 b7, .int .u8 b8, .int .u8 b9, .int .u8 b10, .int .u8 b11, .int .u8 b12, .int .u8 b13, .int .u8 b14, .int .u8 b15] rfl rfl
  generalize (w.alloc (.cells #[.int .u8 a0, .int .u8 a1, .int .u8 a2, .int .u8 a3, .int .u8 a4, .int .u8 a5, .int .u8 a6, .int .u8 a7, .int .u8 a8, .int .u8 a9, .int .u8 a10, .int .u8 a11, .int .u8 a12, .int .u8 a13, .int .u8 a14, .int .u8 a15] 31)).alloc (.cells #[.int .u8 b0, .int .u8 b1, .int .u8 b2, .int .u8 b3, .int .u8 b4, .int .u8 b5, .int .u8 b6, .int .u8 b7, .int .u8 b8, .int .u8 b9, .int .u8 b10, .int .u8 b11, .int .u8 b12, .int .u8 b13, .int .u8 b14, .int .u8 b15] 31) = W at h1 h2 h3
  rw [← HLA.out] at h1
  rw [← HLB.out] at h2
  obtain ⟨B, hBd⟩ : ∃ B, B = w.heap.size := ⟨_, rfl⟩
  rw [← hBd] at h3
  have hN : B ≤ w.heap.size := by omega
  have HN := Lib.hid hN
  have HBd := Lib.hid hBd
  clear hBd hN
  generalize w.heap.size + 1 = p2 at h2
  generalize w.heap.size = p1 at h1
  have HA := Lib.hid h1
  have HB := Lib.hid h2
  have HC := Lib.hid h3
  clear h1 h2 h3
  go_loopw [9, 10] (fun s i wr => ∃ k : Nat, k ≤ 16 ∧ i = .int .i64 k ∧ s = .string (strOfNums (LA.take k)) ∧ Arr wr p1 31 LA ∧ Arr wr p2 31 LB ∧ Below B w wr) (fun _ i _ => 16 - (intOf i).toNat)
  case atStart => exact ⟨0, Nat.zero_le _, rfl, rfl, HA.out, HB.out, HC.out⟩
  case round =>
    obtain ⟨k, hk, rfl, rfl, h1, h2, h3⟩ := hrel
    clear HA HB HC
    have HA := Lib.hid h1
    have HB := Lib.hid h2
    have HC := Lib.hid h3
    clear h1 h2 h3
    by_cases hlt : k < 16
    · have hlt' : k < LA.length := by rw [HlA.out]; exact hlt
      have hcell := HA.out.cell k hlt'
      have hcv := conv1 LA[k] wr
      have hz : (strOfNums (LA.take k)).size = k := by rw [strOfNums_size, List.length_take, HlA.out]; omega
      have hz1 : (strOfNums [LA[k]]).size = 1 := rfl
      have HT := Lib.hid (nums_take LA k hlt')
      go_wp2_with fail
      clear hz hz1 hcv hcell
      go_roundw
      case rel => exact ⟨k + 1, by omega, by go_num, by rw [HT.out], HA.out.alloc _, HB.out.alloc _, HC.out.alloc (Nat.le_trans HN.out HC.out.size) _⟩
      case measure => simp [intOf]; omega
    · have ht : LA.take k = LA := List.take_of_length_le (by rw [HlA.out]; omega)
      rw [ht]
      clear ht
      go_wp2_with fail
      go_loopw [9, 11] (fun s i wr => ∃ j : Nat, j ≤ 16 ∧ i = .int .i64 j ∧ s = .string (strOfNums (LA ++ LB.take j)) ∧ Arr wr p2 31 LB ∧ Below B w wr) (fun _ i _ => 16 - (intOf i).toNat)
      case atStart => exact ⟨0, Nat.zero_le _, rfl, by simp, HB.out, HC.out⟩
      case round =>
        obtain ⟨j, hj, rfl, rfl, h2, h3⟩ := hrel
        clear HA HB HC
        have HB := Lib.hid h2
        have HC := Lib.hid h3
        clear h2 h3
        by_cases hlt2 : j < 16
        · have hlt' : j < LB.length := by rw [HlB.out]; exact hlt2
          have hcell := HB.out.cell j hlt'
          have hcv := conv1 LB[j] wr
          have hz : (strOfNums (LA ++ LB.take j)).size = 16 + j := by rw [strOfNums_size, List.length_append, HlA.out, List.length_take, HlB.out]; omega
          have hz1 : (strOfNums [LB[j]]).size = 1 := rfl
          have HT := Lib.hid (nums_take2 LA LB j hlt')
          go_wp2_with fail
          clear hz hz1 hcv hcell
          go_roundw
          case rel => exact ⟨j + 1, by omega, by go_num, by rw [HT.out], HB.out.alloc _, HC.out.alloc (Nat.le_trans HN.out HC.out.size) _⟩
          case measure => simp [intOf]; omega
        · have ht : LB.take j = LB := List.take_of_length_le (by rw [HlB.out]; omega)
          rw [ht]
          clear ht
          have hb0 := HC.out
          rw [HBd.out] at hb0
          have hB0 := Lib.hid hb0
          clear hb0
          have hz : (strOfNums (LA ++ LB)).size = 32 := by rw [strOfNums_size, List.length_append, HlA.out, HlB.out]
          have zz := cat_len
          have hs1 := fun x => (show (strOfNums (lowN 1 x)).size = 1 from rfl)
          have hs2 := fun x => (show (strOfNums (lowN 2 x)).size = 2 from rfl)
          have hs3 := fun x => (show (strOfNums (lowN 3 x)).size = 3 from rfl)
          have hs4 := fun x => (show (strOfNums (lowN 4 x)).size = 4 from rfl)
          go_wp2_with fail
          refine (rlow4 _ _).mono ?_
          rintro e w2 ⟨rfl, b2⟩
          have hB1 := Lib.hid (hB0.out.trans (b2.mono hB0.out.size))
          clear b2
          go_wp2_with fail
          refine (rlow3 _ _).mono ?_
          rintro e w3 ⟨rfl, b3⟩
          have hB2 := Lib.hid (hB1.out.trans (b3.mono hB1.out.size))
          clear b3
          go_wp2_with fail
          refine (rlow1 _ _).mono ?_
          rintro e w4 ⟨rfl, b4⟩
          have hB3 := Lib.hid (hB2.out.trans (b4.mono hB2.out.size))
          clear b4
          go_wp2_with fail
          go_ret
          refine ⟨?_, hB3.out⟩
          rw [← HLA.out, ← HLB.out, nums_append LA LB]
          rfl

end Go.Proofs.Ytfpmkadlidbboaa
