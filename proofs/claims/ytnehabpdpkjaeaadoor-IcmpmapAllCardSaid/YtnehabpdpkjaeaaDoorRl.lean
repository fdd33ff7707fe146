/-
  Proved here: what the document's lines6 answers.
  Conditions: none.
-/
import Derived.Test.YtnehabpdpkjaeaaDoorLn
namespace Go.Proofs.YtnehabpdpkjaeaaDoor
open Go.RowKit

def zeroL : List Int := [0, 1, 5, 6, 7, 8, 11, 12]
def oneL : List Int := [9, 10, 13, 15]
def firstL (r : Int) : List Ln := [(8, 0, 128, 0, r), (0, 0, 129, 0, r), (3, 3, 1, 4, 0), (3, 2, 4, 1, 6), (11, 0, 3, 0, 0), (11, 1, 3, 1, 0)]
def withZ (r : Int) (k : Nat) : List Ln := firstL r ++ (zeroL.take k).map (fun c => ((3, c, 1, 0, 0) : Ln))
def withO (r : Int) (k : Nat) : List Ln := withZ r 8 ++ (oneL.take k).map (fun c => ((3, c, 1, 1, 0) : Ln))
theorem withO_all (r : Int) : withO r 4 = ln6 r := rfl
theorem withZ_len (r : Int) (k : Nat) (h : k ≤ 8) : (withZ r k).length = 6 + k := by
  unfold withZ
  rw [List.length_append, List.length_map, List.length_take]
  show 6 + min k 8 = 6 + k
  omega
theorem withO_len (r : Int) (k : Nat) (h : k ≤ 4) : (withO r k).length = 14 + k := by
  unfold withO
  rw [List.length_append, List.length_map, List.length_take, withZ_len r 8 (Nat.le_refl _)]
  show 6 + 8 + min k 4 = 14 + k
  omega
theorem withZ_next (r : Int) (k : Nat) (h : k < 8) : withZ r (k + 1) = withZ r k ++ [(3, zeroL.getD k 0, 1, 0, 0)] := by
  match k, h with
  | 0, _ => rfl
  | 1, _ => rfl
  | 2, _ => rfl
  | 3, _ => rfl
  | 4, _ => rfl
  | 5, _ => rfl
  | 6, _ => rfl
  | 7, _ => rfl
theorem withO_next (r : Int) (k : Nat) (h : k < 4) : withO r (k + 1) = withO r k ++ [(3, oneL.getD k 0, 1, 1, 0)] := by
  match k, h with
  | 0, _ => rfl
  | 1, _ => rfl
  | 2, _ => rfl
  | 3, _ => rfl
theorem zero_at (k : Nat) (h : k < 8) : (#[.int .i64 0, .int .i64 1, .int .i64 5, .int .i64 6, .int .i64 7, .int .i64 8, .int .i64 11, .int .i64 12] : Array Value)[k]? = some (.int .i64 (zeroL.getD k 0)) := by
  match k, h with
  | 0, _ => rfl
  | 1, _ => rfl
  | 2, _ => rfl
  | 3, _ => rfl
  | 4, _ => rfl
  | 5, _ => rfl
  | 6, _ => rfl
  | 7, _ => rfl
theorem one_at (k : Nat) (h : k < 4) : (#[.int .i64 9, .int .i64 10, .int .i64 13, .int .i64 15] : Array Value)[k]? = some (.int .i64 (oneL.getD k 0)) := by
  match k, h with
  | 0, _ => rfl
  | 1, _ => rfl
  | 2, _ => rfl
  | 3, _ => rfl
set_option maxRecDepth 100000 in
set_option maxHeartbeats 4000000 in
theorem rlines6_any (r : Int) (w : World) : Calls Tryd.prog 25 #[.int .i64 r] w fun e w' => ∃ v, e = .returned v ∧ Lns w' v (ln6 r) ∧ Below w.heap.size w w' := by
  obtain ⟨i9, hi9, hz0, hz1, hz2⟩ := info_parts Tryd.infoLn
  have HI := Lib.hid hi9
  have H0 := Lib.hid hz0
  have H1 := Lib.hid hz1
  have H2 := Lib.hid hz2
  clear hi9 hz0 hz1 hz2
  have HO0 : Hid ((w.alloc (.cells #[.int .i64 8, .int .i64 0, .int .i64 128, .int .i64 0, .int .i64 r, .int .i64 0, .int .i64 0, .int .i64 129, .int .i64 0, .int .i64 r, .int .i64 3, .int .i64 3, .int .i64 1, .int .i64 4, .int .i64 0, .int .i64 3, .int .i64 2, .int .i64 4, .int .i64 1, .int .i64 6, .int .i64 11, .int .i64 0, .int .i64 3, .int .i64 0, .int .i64 0, .int .i64 11, .int .i64 1, .int .i64 3, .int .i64 1, .int .i64 0] 42)).ownsRow w.heap.size 42 5 (.slice (some ⟨w.heap.size, 0, none⟩) 6 6) 6 (lnV (withZ r 0))) := Lib.hid (World.ownsRow_lit (base := w.heap.size) (size := 5) (e := 42) w #[.int .i64 8, .int .i64 0, .int .i64 128, .int .i64 0, .int .i64 r, .int .i64 0, .int .i64 0, .int .i64 129, .int .i64 0, .int .i64 r, .int .i64 3, .int .i64 3, .int .i64 1, .int .i64 4, .int .i64 0, .int .i64 3, .int .i64 2, .int .i64 4, .int .i64 1, .int .i64 6, .int .i64 11, .int .i64 0, .int .i64 3, .int .i64 0, .int .i64 0, .int .i64 11, .int .i64 1, .int .i64 3, .int .i64 1, .int .i64 0] 6 (Nat.le_refl _) (by unfold maxLen; omega) rfl)
  have HB0 := Lib.hid ((Below.refl w.heap.size w).alloc (Nat.le_refl _) (.cells #[.int .i64 8, .int .i64 0, .int .i64 128, .int .i64 0, .int .i64 r, .int .i64 0, .int .i64 0, .int .i64 129, .int .i64 0, .int .i64 r, .int .i64 3, .int .i64 3, .int .i64 1, .int .i64 4, .int .i64 0, .int .i64 3, .int .i64 2, .int .i64 4, .int .i64 1, .int .i64 6, .int .i64 11, .int .i64 0, .int .i64 3, .int .i64 0, .int .i64 0, .int .i64 11, .int .i64 1, .int .i64 3, .int .i64 1, .int .i64 0] 42))
  generalize hw1 : w.alloc (.cells #[.int .i64 8, .int .i64 0, .int .i64 128, .int .i64 0, .int .i64 r, .int .i64 0, .int .i64 0, .int .i64 129, .int .i64 0, .int .i64 r, .int .i64 3, .int .i64 3, .int .i64 1, .int .i64 4, .int .i64 0, .int .i64 3, .int .i64 2, .int .i64 4, .int .i64 1, .int .i64 6, .int .i64 11, .int .i64 0, .int .i64 3, .int .i64 0, .int .i64 0, .int .i64 11, .int .i64 1, .int .i64 3, .int .i64 1, .int .i64 0] 42) = w1 at *
  have hk2 := bk_new w1 3 #[.int .i64 0, .int .i64 1, .int .i64 5, .int .i64 6, .int .i64 7, .int .i64 8, .int .i64 11, .int .i64 12]
  have HO1 := Lib.hid (HO0.out.alloc (.cells #[.int .i64 0, .int .i64 1, .int .i64 5, .int .i64 6, .int .i64 7, .int .i64 8, .int .i64 11, .int .i64 12] 3))
  have HB1 := Lib.hid (HB0.out.alloc HB0.out.size (.cells #[.int .i64 0, .int .i64 1, .int .i64 5, .int .i64 6, .int .i64 7, .int .i64 8, .int .i64 11, .int .i64 12] 3))
  generalize hw2 : w1.alloc (.cells #[.int .i64 0, .int .i64 1, .int .i64 5, .int .i64 6, .int .i64 7, .int .i64 8, .int .i64 11, .int .i64 12] 3) = w2 at *
  obtain ⟨g, hg⟩ : ∃ g, g = w1.heap.size := ⟨_, rfl⟩
  rw [← hg] at hk2
  have HK2 := Lib.hid hk2
  clear hk2 HO0 HB0
  go_enter Tryd.func25, Tryd.ntmps25
  go_wp2_with fail
  try rw [hw1]
  try rw [hw2]
  try rw [← hg]
  clear hw1 hw2 hg
  go_loopw [3, 5] (fun v i wr => ∃ k : Nat, k ≤ 8 ∧ i = .int .i64 k ∧ Hid (wr.ownsRow w.heap.size 42 5 v (6 + k) (lnV (withZ r k))) ∧ Hid (Bk wr g 3 #[.int .i64 0, .int .i64 1, .int .i64 5, .int .i64 6, .int .i64 7, .int .i64 8, .int .i64 11, .int .i64 12]) ∧ Hid (Below w.heap.size w wr)) (fun _ i _ => 9 - (intOf i).toNat)
  case atStart => exact ⟨0, Nat.zero_le _, rfl, HO1, HK2, HB1⟩
  case round =>
    obtain ⟨k, hk, rfl, HO, HK, HB⟩ := hrel
    by_cases hlt : k < 8
    · have hi : (k : Int) < 8 := by omega
      have hc := HK.out.c k _ (zero_at k hlt)
      have HN := Lib.hid (withZ_next r k hlt)
      generalize zeroL.getD k 0 = x at *
      have HX1 : Hid ((6 + k) + 1 ≤ maxLen) := Lib.hid (by unfold maxLen; omega)
      have HX2 : Hid (((6 + k) + 1) * 40 ≤ 140737488355328) := Lib.hid (by omega)
      have HX3 : Hid (w.heap.size ≤ (wr.alloc (.cells #[.int .i64 3, .int .i64 x, .int .i64 1, .int .i64 0, .int .i64 0] 42)).heap.size) := Lib.hid (by have := HB.out.size; simp; omega)
      go_wp2_with (at_builtin; refine wpList_append_own _ rfl _ _ 45 rfl w.heap.size 42 i9 (.agg #[.int .i64 0, .int .i64 0, .int .i64 0, .int .i64 0, .int .i64 0]) 5 40 Tryd.underlying45 HI.out H0.out H1.out H2.out rfl (by decide) _ (6 + k) _ rfl (HO.out.alloc _) ⟨wr.heap.size, 0, none⟩ 1 1 [.int .i64 3, .int .i64 x, .int .i64 1, .int .i64 0, .int .i64 0] rfl rfl (World.news_of_block (cs := #[.int .i64 3, .int .i64 x, .int .i64 1, .int .i64 0, .int .i64 0]) (t := 42) (fr := (0, 0)) (heap_alloc_new wr _)) (by simp [Value.oneCell']) HX1.out HX2.out HX3.out ?_; intro v1 w3 hown1 hgrow hnil)
      have HO3 : Hid (w3.ownsRow w.heap.size 42 5 v1 (6 + (k + 1)) (lnV (withZ r (k + 1)))) := Lib.hid (by rw [HN.out, lnV_append]; exact hown1)
      have HK3 := Lib.hid ((HK.out.alloc (.cells #[.int .i64 3, .int .i64 x, .int .i64 1, .int .i64 0, .int .i64 0] 42)).grown hgrow (own_ne HO.out HK.out))
      have HB3 := Lib.hid ((HB.out.alloc HB.out.size (.cells #[.int .i64 3, .int .i64 x, .int .i64 1, .int .i64 0, .int .i64 0] 42)).grown hgrow HX3.out (fun k hk => (HO.out.lt k hk).1))
      clear hown1 hgrow hnil
      go_wp2_with fail
      go_roundw
      case rel => exact ⟨k + 1, by omega, by go_num, HO3, HK3, HB3⟩
      case measure => simp [intOf]; omega
    · obtain rfl : k = 8 := by omega
      rw [show ((8 : Nat) : Int) = 8 from rfl]
      have hk4 := bk_new wr 3 #[.int .i64 9, .int .i64 10, .int .i64 13, .int .i64 15]
      have HO4 := Lib.hid (HO.out.alloc (.cells #[.int .i64 9, .int .i64 10, .int .i64 13, .int .i64 15] 3))
      have HB4 := Lib.hid (HB.out.alloc HB.out.size (.cells #[.int .i64 9, .int .i64 10, .int .i64 13, .int .i64 15] 3))
      generalize hw4 : wr.alloc (.cells #[.int .i64 9, .int .i64 10, .int .i64 13, .int .i64 15] 3) = w4 at *
      obtain ⟨g4, hg4⟩ : ∃ g, g = wr.heap.size := ⟨_, rfl⟩
      rw [← hg4] at hk4
      have HK4 := Lib.hid hk4
      have HO4 : Hid (w4.ownsRow w.heap.size 42 5 _ (14 + 0) (lnV (withO r 0))) := Lib.hid (by
        have e : withO r 0 = withZ r 8 := by unfold withO; rw [List.take_zero, List.map_nil, List.append_nil]
        rw [e]; exact HO4.out)
      clear hk4 HO HK HB
      go_wp2_with fail
      try rw [hw4]
      try rw [← hg4]
      clear hw4 hg4
      go_loopw [3, 7] (fun v i wr => ∃ k : Nat, k ≤ 4 ∧ i = .int .i64 k ∧ Hid (wr.ownsRow w.heap.size 42 5 v (14 + k) (lnV (withO r k))) ∧ Hid (Bk wr g4 3 #[.int .i64 9, .int .i64 10, .int .i64 13, .int .i64 15]) ∧ Hid (Below w.heap.size w wr)) (fun _ i _ => 5 - (intOf i).toNat)
      case atStart => exact ⟨0, Nat.zero_le _, rfl, HO4, HK4, HB4⟩
      case round =>
        obtain ⟨k, hk, rfl, HO, HK, HB⟩ := hrel
        by_cases hlt : k < 4
        · have hi : (k : Int) < 4 := by omega
          have hc := HK.out.c k _ (one_at k hlt)
          have HN := Lib.hid (withO_next r k hlt)
          generalize oneL.getD k 0 = x at *
          have HX1 : Hid ((14 + k) + 1 ≤ maxLen) := Lib.hid (by unfold maxLen; omega)
          have HX2 : Hid (((14 + k) + 1) * 40 ≤ 140737488355328) := Lib.hid (by omega)
          have HX3 : Hid (w.heap.size ≤ (wr.alloc (.cells #[.int .i64 3, .int .i64 x, .int .i64 1, .int .i64 1, .int .i64 0] 42)).heap.size) := Lib.hid (by have := HB.out.size; simp; omega)
          go_wp2_with (at_builtin; refine wpList_append_own _ rfl _ _ 45 rfl w.heap.size 42 i9 (.agg #[.int .i64 0, .int .i64 0, .int .i64 0, .int .i64 0, .int .i64 0]) 5 40 Tryd.underlying45 HI.out H0.out H1.out H2.out rfl (by decide) _ (14 + k) _ rfl (HO.out.alloc _) ⟨wr.heap.size, 0, none⟩ 1 1 [.int .i64 3, .int .i64 x, .int .i64 1, .int .i64 1, .int .i64 0] rfl rfl (World.news_of_block (cs := #[.int .i64 3, .int .i64 x, .int .i64 1, .int .i64 1, .int .i64 0]) (t := 42) (fr := (0, 0)) (heap_alloc_new wr _)) (by simp [Value.oneCell']) HX1.out HX2.out HX3.out ?_; intro v1 w3 hown1 hgrow hnil)
          have HO3 : Hid (w3.ownsRow w.heap.size 42 5 v1 (14 + (k + 1)) (lnV (withO r (k + 1)))) := Lib.hid (by rw [HN.out, lnV_append]; exact hown1)
          have HK3 := Lib.hid ((HK.out.alloc (.cells #[.int .i64 3, .int .i64 x, .int .i64 1, .int .i64 1, .int .i64 0] 42)).grown hgrow (own_ne HO.out HK.out))
          have HB3 := Lib.hid ((HB.out.alloc HB.out.size (.cells #[.int .i64 3, .int .i64 x, .int .i64 1, .int .i64 1, .int .i64 0] 42)).grown hgrow HX3.out (fun k hk => (HO.out.lt k hk).1))
          clear hown1 hgrow hnil
          go_wp2_with fail
          go_roundw
          case rel => exact ⟨k + 1, by omega, by go_num, HO3, HK3, HB3⟩
          case measure => simp [intOf]; omega
        · obtain rfl : k = 4 := by omega
          have HL := Lib.hid (lns_own (l := withO r 4) (by rw [withO_len r 4 (Nat.le_refl _)]; exact HO.out))
          go_wp2_with fail
          go_ret
          exact ⟨_, rfl, HL.out, HB.out⟩
end Go.Proofs.YtnehabpdpkjaeaaDoor
