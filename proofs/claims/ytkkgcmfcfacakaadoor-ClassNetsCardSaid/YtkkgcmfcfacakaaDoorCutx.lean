/-
  Proved here: what the laws' cut6 and cut4 answer.
  Conditions: a length within the address's bits.
  Proved here: plain facts on cut prefixes.
  Conditions: as each fact says.
-/
import Derived.Test.YtkkgcmfcfacakaaDoorNetp
namespace Go.Proofs.YtkkgcmfcfacakaaDoor
open Go.RowKit

/-- A byte whose bits from p before q are noughts. -/
def kut1 (c : UInt8) (p q : Nat) : UInt8 := UInt8.ofNat (c.toNat >>> (8 - p) <<< (8 - p) + c.toNat % 2 ^ (8 - q))
theorem cut_fin : ∀ p : Fin 9, ∀ q : Fin 8, p.val ≤ q.val → ∀ c : Fin 256, bits BinOp.andNot IntKind.u8 (((UInt8.ofNat (c.val >>> (8 - p.val) <<< (8 - p.val) + c.val % 2 ^ (8 - q.val))).toNat : Nat) : Int) (2 ^ (7 - q.val)) = (((UInt8.ofNat (c.val >>> (8 - p.val) <<< (8 - p.val) + c.val % 2 ^ (8 - (q.val + 1)))).toNat : Nat) : Int) := by decide +kernel
theorem cut_is (c : UInt8) (p q : Nat) (hp : p ≤ q) (hq : q < 8) : bits BinOp.andNot IntKind.u8 ((kut1 c p q).toNat : Int) (2 ^ (7 - q)) = ((kut1 c p (q + 1)).toNat : Int) := cut_fin ⟨p, by omega⟩ ⟨q, hq⟩ hp ⟨c.toNat, c.toNat_lt⟩
theorem kut1_self (c : UInt8) (p : Nat) : kut1 c p p = c := by
  apply UInt8.toNat_inj.mp
  unfold kut1
  rw [UInt8.toNat_ofNat', Nat.shiftLeft_eq, Nat.shiftRight_eq_div_pow, Nat.div_add_mod']
  exact Nat.mod_eq_of_lt c.toNat_lt
theorem kut1_end (c : UInt8) (p : Nat) : kut1 c p 8 = clr1 c p := by
  unfold kut1 clr1
  rw [Nat.sub_self, Nat.pow_zero, Nat.mod_one, Nat.add_zero]
/-- An address whose bits from n before k are noughts. -/
def kutB (x : List UInt8) (n : Int) (k : Nat) : List UInt8 := x.mapIdx fun i c => kut1 c (kpt n i) (kpt k i)
theorem kutB_len (x : List UInt8) (n : Int) (k : Nat) : (kutB x n k).length = x.length := by unfold kutB; simp
theorem kutB_at (x : List UInt8) (n : Int) (k i : Nat) (h : i < x.length) : (kutB x n k).getD i 0 = kut1 (x.getD i 0) (kpt n i) (kpt k i) := by
  unfold kutB
  rw [List.getD_eq_getElem?_getD, List.getD_eq_getElem?_getD, List.getElem?_mapIdx, List.getElem?_eq_getElem h]
  rfl
theorem kutB_start (x : List UInt8) (n : Nat) : kutB x n n = x := by
  apply list_eq
  · exact kutB_len _ _ _
  · intro i hi
    rw [kutB_at x n n i (by rwa [kutB_len] at hi), kut1_self]
theorem kutB_end (x : List UInt8) (n : Int) : kutB x n (8 * x.length) = clr x n := by
  apply list_eq
  · rw [kutB_len, clr_len]
  · intro i hi
    rw [kutB_len] at hi
    rw [kutB_at x n _ i hi, clr_at x n i hi]
    have e : kpt ((8 * x.length : Nat) : Int) i = 8 := by unfold kpt; omega
    rw [e, kut1_end]
theorem kutB_next (x : List UInt8) (n : Int) (k : Nat) : (kutB x n k).set (k / 8) (kut1 (x.getD (k / 8) 0) (kpt n (k / 8)) (k % 8 + 1)) = kutB x n (k + 1) := by
  apply list_eq
  · rw [List.length_set, kutB_len, kutB_len]
  · intro i hi
    rw [List.length_set, kutB_len] at hi
    rw [kutB_at x n _ i hi, List.getD_eq_getElem?_getD, List.getElem?_set]
    by_cases e : k / 8 = i
    · rw [if_pos e, if_pos (by rw [kutB_len]; omega)]
      subst e
      have e2 : kpt ((k + 1 : Nat) : Int) (k / 8) = k % 8 + 1 := by unfold kpt; omega
      rw [e2]
      rfl
    · rw [if_neg e, ← List.getD_eq_getElem?_getD, kutB_at x n k i hi]
      have e2 : kpt ((k + 1 : Nat) : Int) i = kpt (k : Int) i := by unfold kpt; omega
      rw [e2]
theorem kutB_now (x : List UInt8) (n : Int) (k : Nat) (hk : k < 8 * x.length) : (kutB x n k).getD (k / 8) 0 = kut1 (x.getD (k / 8) 0) (kpt n (k / 8)) (k % 8) := by
  rw [kutB_at x n k (k / 8) (by omega)]
  have e2 : kpt (k : Int) (k / 8) = k % 8 := by unfold kpt; omega
  rw [e2]
theorem kpt_low (n : Int) (k : Nat) (h : n ≤ k) : kpt n (k / 8) ≤ k % 8 := by unfold kpt; omega
set_option maxRecDepth 100000 in
set_option maxHeartbeats 8000000 in
theorem cut6_any (x : List UInt8) (n : Nat) (w : World) (hx : x.length = 16) (hn : n ≤ 128) :
    Calls Tryd.prog 36 #[.agg (bu x).toArray, .int .i64 (n : Int)] w fun e w' => e = .returned (.agg (Nn.mk (clr x n) n).vals.toArray) ∧ Below w.heap.size w w' := by
  obtain ⟨VZ, hVZ⟩ : ∃ VZ, VZ = ([.int .u8 0, .int .u8 0, .int .u8 0, .int .u8 0, .int .u8 0, .int .u8 0, .int .u8 0, .int .u8 0, .int .u8 0, .int .u8 0, .int .u8 0, .int .u8 0, .int .u8 0, .int .u8 0, .int .u8 0, .int .u8 0, .int .i64 0] : List Value) := ⟨_, rfl⟩
  have HLZ : Hid (VZ.length = 17) := Lib.hid (by rw [hVZ]; rfl)
  have HK1 := Lib.hid (kp2 w 24 36 (bu (kutB x n n)) VZ).swap
  have HX0 : Hid (kutB x n n = x) := Lib.hid (kutB_start x n)
  have HXE : Hid (kutB x n 128 = clr x n) := Lib.hid (by have := kutB_end x n; rwa [hx] at this)
  have HIV : Hid ((Tryd.prog.info? 24).map (·.size) = some (bu (clr x n)).length) := Lib.hid (Tryd.infoU6 _ (by rw [clr_len, hx]))
  have HBN := Lib.hid (fun W => bN6v (Nn.mk (clr x n) n) (by rw [← hx]; exact clr_len _ _) W)
  have HIN : Hid ((Tryd.prog.info? 36).map (·.size) = some ((Nn.mk (clr x n) n).vals).length) := Lib.hid (Tryd.infoNn6 _ (by rw [← hx]; exact clr_len _ _))
  have HON : Hid (((Nn.mk (clr x n) n).vals).toArray.all (·.oneCell') = true) := Lib.hid (nn_one _)
  have HLN : Hid (((Nn.mk (clr x n) n).vals).length = 17) := Lib.hid (by unfold Nn.vals; rw [List.length_append, bu_len, clr_len, hx]; rfl)
  have hz : ([.int .u8 0, .int .u8 0, .int .u8 0, .int .u8 0, .int .u8 0, .int .u8 0, .int .u8 0, .int .u8 0, .int .u8 0, .int .u8 0, .int .u8 0, .int .u8 0, .int .u8 0, .int .u8 0, .int .u8 0, .int .u8 0, .int .i64 0] : List Value).toArray = VZ.toArray := by rw [hVZ]
  have HNow : Hid (∀ k, k < 128 → (kutB x n k).getD (k / 8) 0 = kut1 (x.getD (k / 8) 0) (kpt n (k / 8)) (k % 8)) := Lib.hid (fun k hk => kutB_now x n k (by omega))
  have HNext : Hid (∀ k, (kutB x n k).set (k / 8) (kut1 (x.getD (k / 8) 0) (kpt n (k / 8)) (k % 8 + 1)) = kutB x n (k + 1)) := Lib.hid (fun k => kutB_next x n k)
  have HBL : Hid (∀ k, (kutB x n k).length = 16) := Lib.hid (fun k => by rw [kutB_len, hx])
  have HLow : Hid (∀ k, n ≤ k → kpt n (k / 8) ≤ k % 8) := Lib.hid (fun k h => kpt_low n k (by omega))
  clear hVZ
  generalize (Nn.mk (clr x n) n).vals = NV at *
  rw [← HX0.out]
  generalize hX : bu (kutB x n n) = X at *
  generalize hw1 : (w.alloc (.cells X.toArray 24)).alloc (.cells VZ.toArray 36) = w1 at *
  go_enter Tryd.func36, Tryd.ntmps36
  go_upto_region 1 with (fail)
  clear hw1 hz
  go_wp2_with fail
  go_loopw [5] (fun i wr => ∃ k : Nat, n ≤ k ∧ k ≤ 128 ∧ i = .int .i64 k ∧ Kp w w.heap.size [(w.heap.size, 24, bu (kutB x n k)), (w.heap.size + 1, 36, VZ)] wr) (fun i _ => 128 - (intOf i).toNat)
  case atStart => exact ⟨n, Nat.le_refl _, hn, rfl, by rw [hX]; exact HK1.out⟩
  case round =>
    obtain ⟨k, hnk, hk, rfl, hK⟩ := hrel
    have HK := Lib.hid hK
    clear hK HK1 hX
    by_cases hlt : k < 128
    · have il : ((k : Nat) : Int) < 128 := by omega
      have kd : ((k : Nat) : Int).tdiv 8 = ((k / 8 : Nat) : Int) := by rw [Int.tdiv_eq_ediv_of_nonneg (by omega)]; omega
      have km : ((k : Nat) : Int).tmod 8 = ((k % 8 : Nat) : Int) := by rw [Int.tmod_eq_emod_of_nonneg (by omega)]; omega
      have id : ((k / 8 : Nat) : Int) < 16 := by omega
      have hq : k / 8 < 16 := by omega
      have cc := HK.out.hd.at (i := k / 8) (bu_at _ (k / 8) (by rw [HBL.out]; exact hq))
      have cz := HK.out.hd.z (k / 8)
      have hv := cut_is (x.getD (k / 8) 0) (kpt n (k / 8)) (k % 8) (HLow.out k hnk) (Nat.mod_lt _ (by omega))
      rw [HNow.out k hlt] at cc
      have hk2 := HK.out.set1 (by intro y hy; rw [List.mem_singleton] at hy; rw [hy]; show w.heap.size + 1 ≠ w.heap.size; omega) (Nat.le_refl _) (k / 8) (.int .u8 ((kut1 (x.getD (k / 8) 0) (kpt n (k / 8)) (k % 8 + 1)).toNat : Int))
      rw [← bu_set, HNext.out k] at hk2
      have HK2 := Lib.hid hk2
      have HV := Lib.hid hv
      clear hk2 hv hq HK
      have hm : k % 8 < 8 := Nat.mod_lt _ (by omega)
      generalize kut1 (x.getD (k / 8) 0) (kpt n (k / 8)) (k % 8 + 1) = q2 at *
      generalize kut1 (x.getD (k / 8) 0) (kpt n (k / 8)) (k % 8) = q1 at *
      have gq := q1.toNat_lt
      generalize k / 8 = q at *
      generalize k % 8 = m at *
      have hm' : m = 0 ∨ m = 1 ∨ m = 2 ∨ m = 3 ∨ m = 4 ∨ m = 5 ∨ m = 6 ∨ m = 7 := by omega
      rcases hm' with rfl | rfl | rfl | rfl | rfl | rfl | rfl | rfl
      · go_upto_region 3 with (fail)
        rw [show (128 : Int) = 2 ^ (7 - 0) from rfl, HV.out]
        go_wp2_with fail
        go_roundw
        case rel => exact ⟨k + 1, by omega, hlt, by go_num, HK2.out⟩
        case measure => simp [intOf]; omega
      · go_upto_region 3 with (fail)
        rw [show (64 : Int) = 2 ^ (7 - 1) from rfl, HV.out]
        go_wp2_with fail
        go_roundw
        case rel => exact ⟨k + 1, by omega, hlt, by go_num, HK2.out⟩
        case measure => simp [intOf]; omega
      · go_upto_region 3 with (fail)
        rw [show (32 : Int) = 2 ^ (7 - 2) from rfl, HV.out]
        go_wp2_with fail
        go_roundw
        case rel => exact ⟨k + 1, by omega, hlt, by go_num, HK2.out⟩
        case measure => simp [intOf]; omega
      · go_upto_region 3 with (fail)
        rw [show (16 : Int) = 2 ^ (7 - 3) from rfl, HV.out]
        go_wp2_with fail
        go_roundw
        case rel => exact ⟨k + 1, by omega, hlt, by go_num, HK2.out⟩
        case measure => simp [intOf]; omega
      · go_upto_region 3 with (fail)
        rw [show (8 : Int) = 2 ^ (7 - 4) from rfl, HV.out]
        go_wp2_with fail
        go_roundw
        case rel => exact ⟨k + 1, by omega, hlt, by go_num, HK2.out⟩
        case measure => simp [intOf]; omega
      · go_upto_region 3 with (fail)
        rw [show (4 : Int) = 2 ^ (7 - 5) from rfl, HV.out]
        go_wp2_with fail
        go_roundw
        case rel => exact ⟨k + 1, by omega, hlt, by go_num, HK2.out⟩
        case measure => simp [intOf]; omega
      · go_upto_region 3 with (fail)
        rw [show (2 : Int) = 2 ^ (7 - 6) from rfl, HV.out]
        go_wp2_with fail
        go_roundw
        case rel => exact ⟨k + 1, by omega, hlt, by go_num, HK2.out⟩
        case measure => simp [intOf]; omega
      · go_upto_region 3 with (fail)
        rw [show (1 : Int) = 2 ^ (7 - 7) from rfl, HV.out]
        go_wp2_with fail
        go_roundw
        case rel => exact ⟨k + 1, by omega, hlt, by go_num, HK2.out⟩
        case measure => simp [intOf]; omega
    · obtain rfl : k = 128 := by omega
      have hK2 := HK.out
      rw [HXE.out] at hK2
      generalize bu (clr x n) = XE at *
      have HKE := Lib.hid hK2
      have hr := hK2.hd.range
      have ht : wr.there (w.heap.size + 1) 0 NV.toArray.size := hK2.tl.hd.there _ (by have := HLZ.out; have := HLN.out; simp; omega)
      have hk7 := Bk.sets NV 0 _ _ hK2.tl.hd
      rw [puts_whole VZ.toArray NV (by have := HLZ.out; have := HLN.out; simp; omega)] at hk7
      have HK7 := Lib.hid hk7
      clear hk7 hK2 HK
      have e44 : ((128 : Nat) : Int) = 128 := rfl
      simp only [e44] at *
      go_wp2_with (first | (refine wpList_load_mid rfl 24 _ rfl w.heap.size 0 rfl XE _ hr Tryd.underlying24 rfl HIV.out ?_) | (refine Great.wpList_readTo rfl _ rfl (.agg NV.toArray) (run_execN rfl (by rw [List.map_toArray]; rfl) (HBN.out _)) ?_) | (refine wpList_store_mid rfl 36 _ _ rfl (w.heap.size + 1) 0 NV.toArray rfl rfl ht (by simpa using HIN.out) HON.out ?_))
      refine bodyPost_ret (v := .agg NV.toArray) ?_ rfl ⟨rfl, below_sets _ (by omega) 0 _ HKE.out.2.1⟩
      exact results_cell rfl rfl (run_loadVar_mid _ (w.heap.size + 1) 0 36 NV _ HK7.out.range Tryd.underlying36 rfl HIN.out)
set_option maxRecDepth 100000 in
set_option maxHeartbeats 8000000 in
theorem cut4_any (x : List UInt8) (n : Nat) (w : World) (hx : x.length = 4) (hn : n ≤ 32) :
    Calls Tryd.prog 37 #[.agg (bu x).toArray, .int .i64 (n : Int)] w fun e w' => e = .returned (.agg (Nn.mk (clr x n) n).vals.toArray) ∧ Below w.heap.size w w' := by
  obtain ⟨VZ, hVZ⟩ : ∃ VZ, VZ = ([.int .u8 0, .int .u8 0, .int .u8 0, .int .u8 0, .int .i64 0] : List Value) := ⟨_, rfl⟩
  have HLZ : Hid (VZ.length = 5) := Lib.hid (by rw [hVZ]; rfl)
  have HK1 := Lib.hid (kp2 w 28 32 (bu (kutB x n n)) VZ).swap
  have HX0 : Hid (kutB x n n = x) := Lib.hid (kutB_start x n)
  have HXE : Hid (kutB x n 32 = clr x n) := Lib.hid (by have := kutB_end x n; rwa [hx] at this)
  have HIV : Hid ((Tryd.prog.info? 28).map (·.size) = some (bu (clr x n)).length) := Lib.hid (Tryd.infoU4 _ (by rw [clr_len, hx]))
  have HBN := Lib.hid (fun W => bN4v (Nn.mk (clr x n) n) (by rw [← hx]; exact clr_len _ _) W)
  have HIN : Hid ((Tryd.prog.info? 32).map (·.size) = some ((Nn.mk (clr x n) n).vals).length) := Lib.hid (Tryd.infoNn4 _ (by rw [← hx]; exact clr_len _ _))
  have HON : Hid (((Nn.mk (clr x n) n).vals).toArray.all (·.oneCell') = true) := Lib.hid (nn_one _)
  have HLN : Hid (((Nn.mk (clr x n) n).vals).length = 5) := Lib.hid (by unfold Nn.vals; rw [List.length_append, bu_len, clr_len, hx]; rfl)
  have hz : ([.int .u8 0, .int .u8 0, .int .u8 0, .int .u8 0, .int .i64 0] : List Value).toArray = VZ.toArray := by rw [hVZ]
  have HNow : Hid (∀ k, k < 32 → (kutB x n k).getD (k / 8) 0 = kut1 (x.getD (k / 8) 0) (kpt n (k / 8)) (k % 8)) := Lib.hid (fun k hk => kutB_now x n k (by omega))
  have HNext : Hid (∀ k, (kutB x n k).set (k / 8) (kut1 (x.getD (k / 8) 0) (kpt n (k / 8)) (k % 8 + 1)) = kutB x n (k + 1)) := Lib.hid (fun k => kutB_next x n k)
  have HBL : Hid (∀ k, (kutB x n k).length = 4) := Lib.hid (fun k => by rw [kutB_len, hx])
  have HLow : Hid (∀ k, n ≤ k → kpt n (k / 8) ≤ k % 8) := Lib.hid (fun k h => kpt_low n k (by omega))
  clear hVZ
  generalize (Nn.mk (clr x n) n).vals = NV at *
  rw [← HX0.out]
  generalize hX : bu (kutB x n n) = X at *
  generalize hw1 : (w.alloc (.cells X.toArray 28)).alloc (.cells VZ.toArray 32) = w1 at *
  go_enter Tryd.func37, Tryd.ntmps37
  go_upto_region 1 with (fail)
  clear hw1 hz
  go_wp2_with fail
  go_loopw [5] (fun i wr => ∃ k : Nat, n ≤ k ∧ k ≤ 32 ∧ i = .int .i64 k ∧ Kp w w.heap.size [(w.heap.size, 28, bu (kutB x n k)), (w.heap.size + 1, 32, VZ)] wr) (fun i _ => 32 - (intOf i).toNat)
  case atStart => exact ⟨n, Nat.le_refl _, hn, rfl, by rw [hX]; exact HK1.out⟩
  case round =>
    obtain ⟨k, hnk, hk, rfl, hK⟩ := hrel
    have HK := Lib.hid hK
    clear hK HK1 hX
    by_cases hlt : k < 32
    · have il : ((k : Nat) : Int) < 32 := by omega
      have kd : ((k : Nat) : Int).tdiv 8 = ((k / 8 : Nat) : Int) := by rw [Int.tdiv_eq_ediv_of_nonneg (by omega)]; omega
      have km : ((k : Nat) : Int).tmod 8 = ((k % 8 : Nat) : Int) := by rw [Int.tmod_eq_emod_of_nonneg (by omega)]; omega
      have id : ((k / 8 : Nat) : Int) < 4 := by omega
      have hq : k / 8 < 4 := by omega
      have cc := HK.out.hd.at (i := k / 8) (bu_at _ (k / 8) (by rw [HBL.out]; exact hq))
      have cz := HK.out.hd.z (k / 8)
      have hv := cut_is (x.getD (k / 8) 0) (kpt n (k / 8)) (k % 8) (HLow.out k hnk) (Nat.mod_lt _ (by omega))
      rw [HNow.out k hlt] at cc
      have hk2 := HK.out.set1 (by intro y hy; rw [List.mem_singleton] at hy; rw [hy]; show w.heap.size + 1 ≠ w.heap.size; omega) (Nat.le_refl _) (k / 8) (.int .u8 ((kut1 (x.getD (k / 8) 0) (kpt n (k / 8)) (k % 8 + 1)).toNat : Int))
      rw [← bu_set, HNext.out k] at hk2
      have HK2 := Lib.hid hk2
      have HV := Lib.hid hv
      clear hk2 hv hq HK
      have hm : k % 8 < 8 := Nat.mod_lt _ (by omega)
      generalize kut1 (x.getD (k / 8) 0) (kpt n (k / 8)) (k % 8 + 1) = q2 at *
      generalize kut1 (x.getD (k / 8) 0) (kpt n (k / 8)) (k % 8) = q1 at *
      have gq := q1.toNat_lt
      generalize k / 8 = q at *
      generalize k % 8 = m at *
      have hm' : m = 0 ∨ m = 1 ∨ m = 2 ∨ m = 3 ∨ m = 4 ∨ m = 5 ∨ m = 6 ∨ m = 7 := by omega
      rcases hm' with rfl | rfl | rfl | rfl | rfl | rfl | rfl | rfl
      · go_upto_region 3 with (fail)
        rw [show (128 : Int) = 2 ^ (7 - 0) from rfl, HV.out]
        go_wp2_with fail
        go_roundw
        case rel => exact ⟨k + 1, by omega, hlt, by go_num, HK2.out⟩
        case measure => simp [intOf]; omega
      · go_upto_region 3 with (fail)
        rw [show (64 : Int) = 2 ^ (7 - 1) from rfl, HV.out]
        go_wp2_with fail
        go_roundw
        case rel => exact ⟨k + 1, by omega, hlt, by go_num, HK2.out⟩
        case measure => simp [intOf]; omega
      · go_upto_region 3 with (fail)
        rw [show (32 : Int) = 2 ^ (7 - 2) from rfl, HV.out]
        go_wp2_with fail
        go_roundw
        case rel => exact ⟨k + 1, by omega, hlt, by go_num, HK2.out⟩
        case measure => simp [intOf]; omega
      · go_upto_region 3 with (fail)
        rw [show (16 : Int) = 2 ^ (7 - 3) from rfl, HV.out]
        go_wp2_with fail
        go_roundw
        case rel => exact ⟨k + 1, by omega, hlt, by go_num, HK2.out⟩
        case measure => simp [intOf]; omega
      · go_upto_region 3 with (fail)
        rw [show (8 : Int) = 2 ^ (7 - 4) from rfl, HV.out]
        go_wp2_with fail
        go_roundw
        case rel => exact ⟨k + 1, by omega, hlt, by go_num, HK2.out⟩
        case measure => simp [intOf]; omega
      · go_upto_region 3 with (fail)
        rw [show (4 : Int) = 2 ^ (7 - 5) from rfl, HV.out]
        go_wp2_with fail
        go_roundw
        case rel => exact ⟨k + 1, by omega, hlt, by go_num, HK2.out⟩
        case measure => simp [intOf]; omega
      · go_upto_region 3 with (fail)
        rw [show (2 : Int) = 2 ^ (7 - 6) from rfl, HV.out]
        go_wp2_with fail
        go_roundw
        case rel => exact ⟨k + 1, by omega, hlt, by go_num, HK2.out⟩
        case measure => simp [intOf]; omega
      · go_upto_region 3 with (fail)
        rw [show (1 : Int) = 2 ^ (7 - 7) from rfl, HV.out]
        go_wp2_with fail
        go_roundw
        case rel => exact ⟨k + 1, by omega, hlt, by go_num, HK2.out⟩
        case measure => simp [intOf]; omega
    · obtain rfl : k = 32 := by omega
      have hK2 := HK.out
      rw [HXE.out] at hK2
      generalize bu (clr x n) = XE at *
      have HKE := Lib.hid hK2
      have hr := hK2.hd.range
      have ht : wr.there (w.heap.size + 1) 0 NV.toArray.size := hK2.tl.hd.there _ (by have := HLZ.out; have := HLN.out; simp; omega)
      have hk7 := Bk.sets NV 0 _ _ hK2.tl.hd
      rw [puts_whole VZ.toArray NV (by have := HLZ.out; have := HLN.out; simp; omega)] at hk7
      have HK7 := Lib.hid hk7
      clear hk7 hK2 HK
      have e44 : ((32 : Nat) : Int) = 32 := rfl
      simp only [e44] at *
      go_wp2_with (first | (refine wpList_load_mid rfl 28 _ rfl w.heap.size 0 rfl XE _ hr Tryd.underlying28 rfl HIV.out ?_) | (refine Great.wpList_readTo rfl _ rfl (.agg NV.toArray) (run_execN rfl (by rw [List.map_toArray]; rfl) (HBN.out _)) ?_) | (refine wpList_store_mid rfl 32 _ _ rfl (w.heap.size + 1) 0 NV.toArray rfl rfl ht (by simpa using HIN.out) HON.out ?_))
      refine bodyPost_ret (v := .agg NV.toArray) ?_ rfl ⟨rfl, below_sets _ (by omega) 0 _ HKE.out.2.1⟩
      exact results_cell rfl rfl (run_loadVar_mid _ (w.heap.size + 1) 0 32 NV _ HK7.out.range Tryd.underlying32 rfl HIN.out)

theorem clr1_all (c : UInt8) : clr1 c 8 = c := by rw [← kut1_end, kut1_self]
theorem clr1_none (c : UInt8) : clr1 c 0 = 0 := by
  apply UInt8.toNat_inj.mp
  rw [clr1_nat]
  have h := c.toNat_lt
  have e : c.toNat >>> (8 - 0) = 0 := by
    rw [Nat.shiftRight_eq_div_pow]
    exact Nat.div_eq_of_lt h
  rw [e]
  rfl
theorem clr1_less (c : UInt8) (p q : Nat) (h : q ≤ p) : clr1 (clr1 c p) q = clr1 c q := by
  apply byte_eq
  intro t _
  rw [clr1_bit, clr1_bit, clr1_bit]
  by_cases h1 : 8 - q ≤ t
  · have h2 : 8 - p ≤ t := by omega
    simp [h1, h2]
  · simp [h1]
theorem clr_all (x : List UInt8) (n : Int) (h : 8 * (x.length : Int) ≤ n) : clr x n = x := by
  apply list_eq
  · exact clr_len _ _
  · intro i hi
    rw [clr_len] at hi
    rw [clr_at x n i hi]
    have e : kpt n i = 8 := by unfold kpt; omega
    rw [e, clr1_all]
theorem clr_less (x : List UInt8) (n m : Int) (h : m ≤ n) : clr (clr x n) m = clr x m := by
  apply list_eq
  · rw [clr_len, clr_len, clr_len]
  · intro i hi
    rw [clr_len, clr_len] at hi
    rw [clr_at _ m i (by rw [clr_len]; exact hi), clr_at x n i hi, clr_at x m i hi, clr1_less]
    unfold kpt
    omega
theorem clr_none (x y : List UInt8) (h : x.length = y.length) : clr x 0 = clr y 0 := by
  apply list_eq
  · rw [clr_len, clr_len, h]
  · intro i hi
    rw [clr_len] at hi
    have e : kpt 0 i = 0 := by unfold kpt; omega
    rw [clr_at x 0 i hi, clr_at y 0 i (by omega), e, clr1_none, clr1_none]
theorem cut_holds (x y : List UInt8) (n : Nat) (hl : y.length = x.length) (hn : n ≤ 8 * x.length) : (Nn.mk (clr x n) n).holds y = decide (clr y n = clr x n) := by
  rw [may_holds _ y (by rw [hl]; exact (clr_len _ _).symm)]
  have e : (Nn.mk (clr x n) n).may = true := by
    unfold Nn.may
    dsimp only
    rw [clr_len, clr_less x n n (Int.le_refl _)]
    simp
    omega
  rw [e]
  rfl
theorem cut_shorter (x y : List UInt8) (n m : Nat) (hl : y.length = x.length) (hn : n ≤ 8 * x.length) (hm : m ≤ n) (h : (Nn.mk (clr x n) n).holds y = true) : (Nn.mk (clr x m) m).holds y = true := by
  rw [cut_holds x y n hl hn, decide_eq_true_eq] at h
  rw [cut_holds x y m hl (by omega), decide_eq_true_eq, ← clr_less y n m (by omega), h, clr_less x n m (by omega)]
theorem cut_whole (x y : List UInt8) (n : Nat) (hl : y.length = x.length) (hn : n = 8 * x.length) : (Nn.mk (clr x n) n).holds y = decide (x = y) := by
  rw [cut_holds x y n hl (by omega), clr_all x n (by omega), clr_all y n (by omega)]
  exact decide_eq_decide.2 ⟨Eq.symm, Eq.symm⟩
theorem cut_self (x : List UInt8) (n : Nat) (hn : n ≤ 8 * x.length) : (Nn.mk (clr x n) n).holds x = true := by
  rw [cut_holds x x n rfl hn]
  simp
theorem empty_holds (z x : List UInt8) (hl : x.length = z.length) (hz : clr z 0 = z) : (Nn.mk z 0).holds x = true := by
  have h := cut_holds z x 0 hl (by omega)
  have e : ((0 : Nat) : Int) = 0 := rfl
  rw [e, hz, clr_none x z hl, hz] at h
  rw [h]
  simp
theorem bz6 (W : World) : (Instr.build 36 #[]).run Tryd.prog W = .ok (.agg ([.int .u8 0, .int .u8 0, .int .u8 0, .int .u8 0, .int .u8 0, .int .u8 0, .int .u8 0, .int .u8 0, .int .u8 0, .int .u8 0, .int .u8 0, .int .u8 0, .int .u8 0, .int .u8 0, .int .u8 0, .int .u8 0, .int .i64 0] : List Value).toArray) W := by kernel_rfl
theorem bz4 (W : World) : (Instr.build 32 #[]).run Tryd.prog W = .ok (.agg ([.int .u8 0, .int .u8 0, .int .u8 0, .int .u8 0, .int .i64 0] : List Value).toArray) W := by kernel_rfl
end Go.Proofs.YtkkgcmfcfacakaaDoor
