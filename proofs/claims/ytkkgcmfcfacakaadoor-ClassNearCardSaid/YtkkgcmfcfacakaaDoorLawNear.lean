/-
  Proved here: the law ClassNear answers true.
  Conditions: what the library's and the package's variables hold.
-/
import Derived.Test.YtkkgcmfcfacakaaDoorHoldm
import Derived.Test.YtkkgcmfcfacakaaDoorCutx
import Derived.Deep.CutBlock
import Derived.Deep.DeepCutAuto
namespace Go.Proofs.YtkkgcmfcfacakaaDoor
open Go.RowKit

theorem kp_sub {w0 w : World} {B : Nat} {l l' : List (Nat × TypeId × List Value)} (h : Kp w0 B l w) (hs : ∀ x ∈ l', x ∈ l) : Kp w0 B l' w := ⟨fun x hx => h.1 x (hs x hx), h.2⟩
theorem nn_ln4 (p : Nn) (h : p.ad.length = 4) : p.vals[4]? = some (.int .i64 p.ln) := by have := nn_ln p; rwa [h] at this
theorem nn_ln6 (p : Nn) (h : p.ad.length = 16) : p.vals[16]? = some (.int .i64 p.ln) := by have := nn_ln p; rwa [h] at this
theorem nn_set (p : Nn) (i : Nat) (v : UInt8) (h : i < p.ad.length) : p.vals.set i (.int .u8 (v.toNat : Int)) = (Nn.mk (p.ad.set i v) p.ln).vals := by
  unfold Nn.vals
  dsimp only
  rw [bu_set, List.set_append_left _ _ (by rw [bu_len]; exact h)]
set_option maxRecDepth 100000 in
set_option maxHeartbeats 8000000 in
theorem classNear_any (a b x y : List UInt8) (c d : UInt8) (w : World) (ha : a.length = 4) (hb : b.length = 4) (hx : x.length = 16) (hy : y.length = 16) (h0 : Hw w) (hv : Vc w) (h6 : w.rangeAt 2 0 (flatN mL6)) :
    Calls Tryd.prog 6 #[.agg (bu a).toArray, .agg (bu b).toArray, .agg (bu x).toArray, .agg (bu y).toArray, .int .u8 (c.toNat : Int), .int .u8 (d.toNat : Int)] w fun e w' => e = .returned (.bool true) ∧ Below w.heap.size w w' := by
  have HW := Lib.hid h0
  have HV := Lib.hid hv
  have HG := Lib.hid h6
  have CA := Lib.hid (fun W (h : Hw W) => awakec_true W h)
  have gc := c.toNat_lt
  have gd := d.toNat_lt
  have tc : ((c.toNat : Nat) : Int).tmod 33 = ((c.toNat % 33 : Nat) : Int) := by rw [Int.tmod_eq_emod_of_nonneg (by omega)]; omega
  have td : ((d.toNat : Nat) : Int).tmod 129 = ((d.toNat % 129 : Nat) : Int) := by rw [Int.tmod_eq_emod_of_nonneg (by omega)]; omega
  have hN : c.toNat % 33 ≤ 32 := by have := Nat.mod_lt c.toNat (show 0 < 33 by omega); omega
  have hM : d.toNat % 129 ≤ 128 := by have := Nat.mod_lt d.toNat (show 0 < 129 by omega); omega
  generalize c.toNat = c0 at *
  generalize d.toNat = d0 at *
  generalize c0 % 33 = N at *
  generalize d0 % 129 = M at *
  have HN := Lib.hid hN
  have HM := Lib.hid hM
  have Hha := Lib.hid ha
  have Hhx := Lib.hid hx
  have CL : Hid (∀ (m n : Nn) (a x : List UInt8), m.ad.length = 4 → n.ad.length = 16 → a.length = 4 → x.length = 16 → ∀ W, Hw W → Vc W → W.rangeAt 2 0 (flatN mL6) → Calls Tryd.prog 5 #[.agg m.vals.toArray, .agg n.vals.toArray, .agg (bu a).toArray, .agg (bu x).toArray] W fun e w' => e = .returned (.bool true) ∧ Below W.heap.size W w') := Lib.hid (fun m n a x h1 h2 h3 h4 W k1 k2 k3 => classHolds_any m n a x W h1 h2 h3 h4 k1 k2 k3)
  obtain ⟨K9, hK9⟩ : ∃ K9, K9 = knN := ⟨_, rfl⟩
  have hK9l : K9.ad.length = 16 := by rw [hK9]; rfl
  have CP : Hid (∀ W, Hw W → Calls Tryd.prog 16 #[.string ⟨#[54, 52, 58, 102, 102, 57, 98, 58, 58, 47, 57, 54]⟩] W fun e w' => e = .returned (.tuple #[.agg K9.vals.toArray, .bool true]) ∧ Below W.heap.size W w') := Lib.hid (fun W h => by
    have hk := parsenet6_any knW W (by decide) h.ml
    rw [kn_is, show okN6 knW = true by decide +kernel, ← hK9] at hk
    exact hk)
  have C4 : Hid (∀ W, Calls Tryd.prog 23 #[.agg (Nn.mk (clr a N) N).vals.toArray, .agg (bu a).toArray] W fun e w' => e = .returned (.bool true) ∧ Below W.heap.size W w') := Lib.hid (fun W => by
    have h := holds4_any (Nn.mk (clr a N) N) a W (by rw [← ha]; exact clr_len _ _) ha
    rwa [cut_self a N (by omega)] at h)
  have C6 : Hid (∀ W, Calls Tryd.prog 25 #[.agg (Nn.mk (clr x M) M).vals.toArray, .agg (bu x).toArray] W fun e w' => e = .returned (.bool true) ∧ Below W.heap.size W w') := Lib.hid (fun W => by
    have h := holds6_any (Nn.mk (clr x M) M) x W (by rw [← hx]; exact clr_len _ _) hx
    rwa [cut_self x M (by omega)] at h)
  have HI_VA : Hid ((Tryd.prog.info? 28).map (·.size) = some (bu a).length) := Lib.hid (Tryd.infoU4 _ ha)
  have HO_VA : Hid ((bu a).toArray.all (·.oneCell') = true) := Lib.hid (bu_one _)
  have HL_VA : Hid ((bu a).length = 4) := Lib.hid (by rw [bu_len]; exact ha)
  have HI_VB : Hid ((Tryd.prog.info? 28).map (·.size) = some (bu b).length) := Lib.hid (Tryd.infoU4 _ hb)
  have HO_VB : Hid ((bu b).toArray.all (·.oneCell') = true) := Lib.hid (bu_one _)
  have HL_VB : Hid ((bu b).length = 4) := Lib.hid (by rw [bu_len]; exact hb)
  have HI_VX : Hid ((Tryd.prog.info? 24).map (·.size) = some (bu x).length) := Lib.hid (Tryd.infoU6 _ hx)
  have HO_VX : Hid ((bu x).toArray.all (·.oneCell') = true) := Lib.hid (bu_one _)
  have HL_VX : Hid ((bu x).length = 16) := Lib.hid (by rw [bu_len]; exact hx)
  have HI_VY : Hid ((Tryd.prog.info? 24).map (·.size) = some (bu y).length) := Lib.hid (Tryd.infoU6 _ hy)
  have HO_VY : Hid ((bu y).toArray.all (·.oneCell') = true) := Lib.hid (bu_one _)
  have HL_VY : Hid ((bu y).length = 16) := Lib.hid (by rw [bu_len]; exact hy)
  have HI_VK : Hid ((Tryd.prog.info? 36).map (·.size) = some (K9.vals).length) := Lib.hid (Tryd.infoNn6 _ hK9l)
  have HO_VK : Hid ((K9.vals).toArray.all (·.oneCell') = true) := Lib.hid (nn_one _)
  have HL_VK : Hid ((K9.vals).length = 17) := Lib.hid (by unfold Nn.vals; rw [List.length_append, bu_len, hK9l]; rfl)
  have HI_VP4 : Hid ((Tryd.prog.info? 32).map (·.size) = some ((Nn.mk a N).vals).length) := Lib.hid (Tryd.infoNn4 _ ha)
  have HO_VP4 : Hid (((Nn.mk a N).vals).toArray.all (·.oneCell') = true) := Lib.hid (nn_one _)
  have HL_VP4 : Hid (((Nn.mk a N).vals).length = 5) := Lib.hid (by unfold Nn.vals; rw [List.length_append, bu_len, ha]; rfl)
  have ll4 : (clr a N).length = 4 := by rw [← ha]; exact clr_len _ _
  have HI_VQ4 : Hid ((Tryd.prog.info? 32).map (·.size) = some ((Nn.mk (clr a N) N).vals).length) := Lib.hid (Tryd.infoNn4 _ ll4)
  have HO_VQ4 : Hid (((Nn.mk (clr a N) N).vals).toArray.all (·.oneCell') = true) := Lib.hid (nn_one _)
  have HL_VQ4 : Hid (((Nn.mk (clr a N) N).vals).length = 5) := Lib.hid (by unfold Nn.vals; rw [List.length_append, bu_len, ll4]; rfl)
  have HBN4 := Lib.hid (fun W => bN4v (Nn.mk a N) ha W)
  have HX04 : Hid (kutB a N N = a) := Lib.hid (kutB_start a N)
  have HXE4 : Hid (kutB a N 32 = clr a N) := Lib.hid (by have := kutB_end a N; rwa [ha] at this)
  have HNow4 : Hid (∀ k, k < 32 → (kutB a N k).getD (k / 8) 0 = kut1 (a.getD (k / 8) 0) (kpt N (k / 8)) (k % 8)) := Lib.hid (fun k hk => kutB_now a N k (by omega))
  have HNext4 : Hid (∀ k, (kutB a N k).set (k / 8) (kut1 (a.getD (k / 8) 0) (kpt N (k / 8)) (k % 8 + 1)) = kutB a N (k + 1)) := Lib.hid (fun k => kutB_next a N k)
  have HBL4 : Hid (∀ k, (kutB a N k).length = 4) := Lib.hid (fun k => by rw [kutB_len, ha])
  have HLow4 : Hid (∀ k, N ≤ k → kpt N (k / 8) ≤ k % 8) := Lib.hid (fun k h => kpt_low N k (by omega))
  have HI_VP6 : Hid ((Tryd.prog.info? 36).map (·.size) = some ((Nn.mk x M).vals).length) := Lib.hid (Tryd.infoNn6 _ hx)
  have HO_VP6 : Hid (((Nn.mk x M).vals).toArray.all (·.oneCell') = true) := Lib.hid (nn_one _)
  have HL_VP6 : Hid (((Nn.mk x M).vals).length = 17) := Lib.hid (by unfold Nn.vals; rw [List.length_append, bu_len, hx]; rfl)
  have ll6 : (clr x M).length = 16 := by rw [← hx]; exact clr_len _ _
  have HI_VQ6 : Hid ((Tryd.prog.info? 36).map (·.size) = some ((Nn.mk (clr x M) M).vals).length) := Lib.hid (Tryd.infoNn6 _ ll6)
  have HO_VQ6 : Hid (((Nn.mk (clr x M) M).vals).toArray.all (·.oneCell') = true) := Lib.hid (nn_one _)
  have HL_VQ6 : Hid (((Nn.mk (clr x M) M).vals).length = 17) := Lib.hid (by unfold Nn.vals; rw [List.length_append, bu_len, ll6]; rfl)
  have HBN6 := Lib.hid (fun W => bN6v (Nn.mk x M) hx W)
  have HX06 : Hid (kutB x M M = x) := Lib.hid (kutB_start x M)
  have HXE6 : Hid (kutB x M 128 = clr x M) := Lib.hid (by have := kutB_end x M; rwa [hx] at this)
  have HNow6 : Hid (∀ k, k < 128 → (kutB x M k).getD (k / 8) 0 = kut1 (x.getD (k / 8) 0) (kpt M (k / 8)) (k % 8)) := Lib.hid (fun k hk => kutB_now x M k (by omega))
  have HNext6 : Hid (∀ k, (kutB x M k).set (k / 8) (kut1 (x.getD (k / 8) 0) (kpt M (k / 8)) (k % 8 + 1)) = kutB x M (k + 1)) := Lib.hid (fun k => kutB_next x M k)
  have HBL6 : Hid (∀ k, (kutB x M k).length = 16) := Lib.hid (fun k => by rw [kutB_len, hx])
  have HLow6 : Hid (∀ k, M ≤ k → kpt M (k / 8) ≤ k % 8) := Lib.hid (fun k h => kpt_low M k (by omega))
  obtain ⟨Y0, hY0⟩ : ∃ Y, Y = y := ⟨_, rfl⟩
  obtain ⟨B0', hB0⟩ : ∃ B, B = b := ⟨_, rfl⟩
  have HYl : Hid (Y0.length = 16) := Lib.hid (by rw [hY0]; exact hy)
  have HBl : Hid (B0'.length = 4) := Lib.hid (by rw [hB0]; exact hb)
  have HK1 : Hid (Kp w w.heap.size [(w.heap.size + 1 + 1 + 1, 24, bu y), (w.heap.size + 1 + 1, 24, bu x), (w.heap.size + 1, 28, bu b), (w.heap.size, 28, bu a)] ((((w.alloc (.cells (bu a).toArray 28)).alloc (.cells (bu b).toArray 28)).alloc (.cells (bu x).toArray 24)).alloc (.cells (bu y).toArray 24))) := Lib.hid (by
    have h := (kp2 w 28 28 (bu a) (bu b)).new 24 (bu x)
    have e : ((w.alloc (.cells (bu a).toArray 28)).alloc (.cells (bu b).toArray 28)).heap.size = w.heap.size + 1 + 1 := by simp
    rw [e] at h
    have h2 := h.new 24 (bu y)
    have e2 : (((w.alloc (.cells (bu a).toArray 28)).alloc (.cells (bu b).toArray 28)).alloc (.cells (bu x).toArray 24)).heap.size = w.heap.size + 1 + 1 + 1 := by simp
    rwa [e2] at h2)
  rw [← hY0, ← hB0] at *
  have HK9l := Lib.hid hK9l
  clear hK9 hK9l
  clear hN hM gc gd ha hb hx hy h0 hv h6 ll4 ll6 hY0 hB0
  generalize hw1 : (((w.alloc (.cells (bu a).toArray 28)).alloc (.cells (bu B0').toArray 28)).alloc (.cells (bu x).toArray 24)).alloc (.cells (bu Y0).toArray 24) = w1 at *
  have hwN : wrap64 ((N : Nat) : Int) = ((N : Nat) : Int) := by have := HN.out; unfold wrap64; omega
  have hwM : wrap64 ((M : Nat) : Int) = ((M : Nat) : Int) := by have := HM.out; unfold wrap64; omega
  have HBW4 : Hid (∀ W, (Instr.build 32 #[(0, .agg (bu a).toArray), (1, .int .i64 (wrap64 ((N : Nat) : Int)))]).run Tryd.prog W = .ok (.agg (Nn.mk a N).vals.toArray) W) := Lib.hid (fun W => by rw [hwN]; exact HBN4.out W)
  have HBW6 : Hid (∀ W, (Instr.build 36 #[(0, .agg (bu x).toArray), (1, .int .i64 (wrap64 ((M : Nat) : Int)))]).run Tryd.prog W = .ok (.agg (Nn.mk x M).vals.toArray) W) := Lib.hid (fun W => by rw [hwM]; exact HBN6.out W)
  have HWN := Lib.hid hwN
  have HWM := Lib.hid hwM
  clear hwN hwM
  go_enter Tryd.func6, Tryd.ntmps6
  go_upto_region 1 with (fail)
  clear hw1
  go_wp2_with (fail)
  refine (CA.out _ (HW.out.below HK1.out.2.1)).mono ?_
  rintro e w2 ⟨rfl, bb⟩
  have HK2 := Lib.hid (HK1.out.below bb (Nat.le_refl _))
  clear bb HK1
  have HFg1 : Hid (w.heap.size + 1 + 1 + 1 < w2.heap.size) := Lib.hid (HK2.out.hd.lt)
  have HBg1 : Hid (w.heap.size ≤ w2.heap.size) := Lib.hid HK2.out.2.2
  have hr0 := HK2.out.tl.tl.tl.hd.range
  have ht := (bk_new w2 32 ([.int .u8 0, .int .u8 0, .int .u8 0, .int .u8 0, .int .i64 0] : List Value).toArray).there (Nn.mk a N).vals.toArray.size (by have := HL_VP4.out; simp; omega)
  have hwN := HWN.out
  go_upto_region 4 with (first | (refine wpList_load_mid rfl 28 _ rfl (w.heap.size) 0 rfl (bu a) _ hr0 Tryd.underlying28 rfl HI_VA.out ?_) | (refine Great.wpList_readTo rfl _ rfl (.agg (Nn.mk a N).vals.toArray) (run_execN rfl (by rw [List.map_toArray]; rfl) (HBW4.out _)) ?_) | (refine wpList_store_mid rfl 32 _ _ rfl w2.heap.size 0 (Nn.mk a N).vals.toArray rfl rfl ht (by simpa using HI_VP4.out) HO_VP4.out ?_))
  have HK3 := Lib.hid (HK2.out.put 32 ([.int .u8 0, .int .u8 0, .int .u8 0, .int .u8 0, .int .i64 0] : List Value).toArray (Nn.mk a N).vals (by have := HL_VP4.out; simp; omega))
  clear ht hr0 hwN HK2
  generalize (w2.alloc (.cells ([.int .u8 0, .int .u8 0, .int .u8 0, .int .u8 0, .int .i64 0] : List Value).toArray 32)).setCells w2.heap.size 0 (Nn.mk a N).vals = w3 at *
  generalize w2.heap.size = g1 at *
  have cl := HK3.out.hd.at (nn_ln4 (Nn.mk a N) Hha.out)
  go_upto_block 0 with (fail)
  clear cl
  have HNeg1 : Hid (∀ z ∈ ([(w.heap.size + 1 + 1 + 1, 24, (bu Y0)), (w.heap.size + 1 + 1, 24, (bu x)), (w.heap.size + 1, 28, (bu B0')), (w.heap.size, 28, (bu a))] : List (Nat × TypeId × List Value)), z.1 ≠ g1) := Lib.hid (by intro z hz; simp only [List.mem_cons, List.not_mem_nil, or_false] at hz; rcases hz with rfl | rfl | rfl | rfl <;> (show _ ≠ g1; (have hh1 := HFg1.out; omega)))
  go_cut [14] (fun v9 w' => Kp w w.heap.size ((g1, 32, (Nn.mk (clr a N) N).vals) :: [(w.heap.size + 1 + 1 + 1, 24, (bu Y0)), (w.heap.size + 1 + 1, 24, (bu x)), (w.heap.size + 1, 28, (bu B0')), (w.heap.size, 28, (bu a))]) w')
  case first =>
    go_wp2_with fail
    go_loopw [14] (fun i wr => ∃ k : Nat, N ≤ k ∧ k ≤ 32 ∧ i = .int .i64 k ∧ Kp w w.heap.size ((g1, 32, (Nn.mk (kutB a N k) N).vals) :: [(w.heap.size + 1 + 1 + 1, 24, (bu Y0)), (w.heap.size + 1 + 1, 24, (bu x)), (w.heap.size + 1, 28, (bu B0')), (w.heap.size, 28, (bu a))]) wr) (fun i _ => 32 - (intOf i).toNat)
    case atStart => exact ⟨N, Nat.le_refl _, HN.out, rfl, by rw [HX04.out]; exact HK3.out⟩
    case round =>
      obtain ⟨k, hnk, hk, rfl, hK⟩ := hrel
      have HKl := Lib.hid hK
      clear hK HK3
      by_cases hlt : k < 32
      · have il : ((k : Nat) : Int) < 32 := by omega
        have kd : ((k : Nat) : Int).tdiv 8 = ((k / 8 : Nat) : Int) := by rw [Int.tdiv_eq_ediv_of_nonneg (by omega)]; omega
        have km : ((k : Nat) : Int).tmod 8 = ((k % 8 : Nat) : Int) := by rw [Int.tmod_eq_emod_of_nonneg (by omega)]; omega
        have id : ((k / 8 : Nat) : Int) < 4 := by omega
        have hq : k / 8 < 4 := by omega
        have cc := HKl.out.hd.at (i := k / 8) (nn_at (Nn.mk (kutB a N k) N) (k / 8) (by dsimp only; rw [HBL4.out]; exact hq))
        have cz := HKl.out.hd.z (k / 8)
        dsimp only at cc
        have hv9 := cut_is (a.getD (k / 8) 0) (kpt N (k / 8)) (k % 8) (HLow4.out k hnk) (Nat.mod_lt _ (by omega))
        rw [HNow4.out k hlt] at cc
        have hk2 := HKl.out.set1 HNeg1.out HBg1.out (k / 8) (.int .u8 ((kut1 (a.getD (k / 8) 0) (kpt N (k / 8)) (k % 8 + 1)).toNat : Int))
        rw [nn_set _ _ _ (by dsimp only; rw [HBL4.out]; exact hq)] at hk2
        dsimp only at hk2
        rw [HNext4.out k] at hk2
        have HK9 := Lib.hid hk2
        have HV9 := Lib.hid hv9
        clear hk2 hv9 hq HKl
        have hm : k % 8 < 8 := Nat.mod_lt _ (by omega)
        generalize kut1 (a.getD (k / 8) 0) (kpt N (k / 8)) (k % 8 + 1) = q2 at *
        generalize kut1 (a.getD (k / 8) 0) (kpt N (k / 8)) (k % 8) = q1 at *
        have gq := q1.toNat_lt
        generalize k / 8 = q at *
        generalize k % 8 = m at *
        obtain ⟨r, hr⟩ : ∃ r : Nat, r = 7 - m := ⟨_, rfl⟩
        have e7 : (7 : Int) - ((m : Nat) : Int) = ((r : Nat) : Int) := by omega
        have hr8 : ((r : Nat) : Int) < 8 := by omega
        have tr : IntKind.u64.wrap ((r : Nat) : Int) = ((r : Nat) : Int) := by unfold IntKind.wrap IntKind.bits IntKind.signed; simp; omega
        have hsh : IntKind.u8.wrap ((2 : Int) ^ r) = (2 : Int) ^ (7 - m) := by
          rw [hr]
          have hmm : m = 0 ∨ m = 1 ∨ m = 2 ∨ m = 3 ∨ m = 4 ∨ m = 5 ∨ m = 6 ∨ m = 7 := by omega
          rcases hmm with rfl | rfl | rfl | rfl | rfl | rfl | rfl | rfl <;> rfl
        generalize (2 : Int) ^ (7 - m) = S9 at *
        clear hr
        go_upto_region 6 with (fail)
        rw [HV9.out]
        clear hsh tr e7
        go_wp2_with fail
        go_roundw
        case rel => exact ⟨k + 1, by omega, hlt, by go_num, HK9.out⟩
        case measure => simp [intOf]; omega
      · obtain rfl : k = 32 := by omega
        have hK2 := HKl.out
        rw [HXE4.out] at hK2
        have HKz := Lib.hid hK2
        clear hK2 HKl
        have e44 : ((32 : Nat) : Int) = 32 := rfl
        simp only [e44] at *
        go_wp2_with fail
        go_meet
        case rel => exact HKz.out
  case rest =>
    have HK13 := Lib.hid hcut
    clear hcut HK3
    generalize wc = w13 at *
    have HFg2 : Hid (g1 < w13.heap.size) := Lib.hid (HK13.out.hd.lt)
    have HBg2 : Hid (w.heap.size ≤ w13.heap.size) := Lib.hid HK13.out.2.2
    have hr0 := HK13.out.tl.tl.hd.range
    have ht := (bk_new w13 36 ([.int .u8 0, .int .u8 0, .int .u8 0, .int .u8 0, .int .u8 0, .int .u8 0, .int .u8 0, .int .u8 0, .int .u8 0, .int .u8 0, .int .u8 0, .int .u8 0, .int .u8 0, .int .u8 0, .int .u8 0, .int .u8 0, .int .i64 0] : List Value).toArray).there (Nn.mk x M).vals.toArray.size (by have := HL_VP6.out; simp; omega)
    have hwM := HWM.out
    go_upto_region 9 with (first | (refine wpList_load_mid rfl 24 _ rfl (w.heap.size + 1 + 1) 0 rfl (bu x) _ hr0 Tryd.underlying24 rfl HI_VX.out ?_) | (refine Great.wpList_readTo rfl _ rfl (.agg (Nn.mk x M).vals.toArray) (run_execN rfl (by rw [List.map_toArray]; rfl) (HBW6.out _)) ?_) | (refine wpList_store_mid rfl 36 _ _ rfl w13.heap.size 0 (Nn.mk x M).vals.toArray rfl rfl ht (by simpa using HI_VP6.out) HO_VP6.out ?_))
    have HK14 := Lib.hid (HK13.out.put 36 ([.int .u8 0, .int .u8 0, .int .u8 0, .int .u8 0, .int .u8 0, .int .u8 0, .int .u8 0, .int .u8 0, .int .u8 0, .int .u8 0, .int .u8 0, .int .u8 0, .int .u8 0, .int .u8 0, .int .u8 0, .int .u8 0, .int .i64 0] : List Value).toArray (Nn.mk x M).vals (by have := HL_VP6.out; simp; omega))
    clear ht hr0 hwM HK13
    generalize (w13.alloc (.cells ([.int .u8 0, .int .u8 0, .int .u8 0, .int .u8 0, .int .u8 0, .int .u8 0, .int .u8 0, .int .u8 0, .int .u8 0, .int .u8 0, .int .u8 0, .int .u8 0, .int .u8 0, .int .u8 0, .int .u8 0, .int .u8 0, .int .i64 0] : List Value).toArray 36)).setCells w13.heap.size 0 (Nn.mk x M).vals = w14 at *
    generalize w13.heap.size = g2 at *
    have cl := HK14.out.hd.at (nn_ln6 (Nn.mk x M) Hhx.out)
    go_upto_block 2 with (fail)
    clear cl
    have HNeg2 : Hid (∀ z ∈ ([(g1, 32, (Nn.mk (clr a N) N).vals), (w.heap.size + 1 + 1 + 1, 24, (bu Y0)), (w.heap.size + 1 + 1, 24, (bu x)), (w.heap.size + 1, 28, (bu B0')), (w.heap.size, 28, (bu a))] : List (Nat × TypeId × List Value)), z.1 ≠ g2) := Lib.hid (by intro z hz; simp only [List.mem_cons, List.not_mem_nil, or_false] at hz; rcases hz with rfl | rfl | rfl | rfl | rfl <;> (show _ ≠ g2; (have hh1 := HFg2.out; have hh2 := HFg1.out; omega)))
    go_cut [16] (fun v9 w' => Kp w w.heap.size ((g2, 36, (Nn.mk (clr x M) M).vals) :: [(g1, 32, (Nn.mk (clr a N) N).vals), (w.heap.size + 1 + 1 + 1, 24, (bu Y0)), (w.heap.size + 1 + 1, 24, (bu x)), (w.heap.size + 1, 28, (bu B0')), (w.heap.size, 28, (bu a))]) w')
    case first =>
      go_wp2_with fail
      go_loopw [16] (fun i wr => ∃ k : Nat, M ≤ k ∧ k ≤ 128 ∧ i = .int .i64 k ∧ Kp w w.heap.size ((g2, 36, (Nn.mk (kutB x M k) M).vals) :: [(g1, 32, (Nn.mk (clr a N) N).vals), (w.heap.size + 1 + 1 + 1, 24, (bu Y0)), (w.heap.size + 1 + 1, 24, (bu x)), (w.heap.size + 1, 28, (bu B0')), (w.heap.size, 28, (bu a))]) wr) (fun i _ => 128 - (intOf i).toNat)
      case atStart => exact ⟨M, Nat.le_refl _, HM.out, rfl, by rw [HX06.out]; exact HK14.out⟩
      case round =>
        obtain ⟨k, hnk, hk, rfl, hK⟩ := hrel
        have HKl := Lib.hid hK
        clear hK HK14
        by_cases hlt : k < 128
        · have il : ((k : Nat) : Int) < 128 := by omega
          have kd : ((k : Nat) : Int).tdiv 8 = ((k / 8 : Nat) : Int) := by rw [Int.tdiv_eq_ediv_of_nonneg (by omega)]; omega
          have km : ((k : Nat) : Int).tmod 8 = ((k % 8 : Nat) : Int) := by rw [Int.tmod_eq_emod_of_nonneg (by omega)]; omega
          have id : ((k / 8 : Nat) : Int) < 16 := by omega
          have hq : k / 8 < 16 := by omega
          have cc := HKl.out.hd.at (i := k / 8) (nn_at (Nn.mk (kutB x M k) M) (k / 8) (by dsimp only; rw [HBL6.out]; exact hq))
          have cz := HKl.out.hd.z (k / 8)
          dsimp only at cc
          have hv9 := cut_is (x.getD (k / 8) 0) (kpt M (k / 8)) (k % 8) (HLow6.out k hnk) (Nat.mod_lt _ (by omega))
          rw [HNow6.out k hlt] at cc
          have hk2 := HKl.out.set1 HNeg2.out HBg2.out (k / 8) (.int .u8 ((kut1 (x.getD (k / 8) 0) (kpt M (k / 8)) (k % 8 + 1)).toNat : Int))
          rw [nn_set _ _ _ (by dsimp only; rw [HBL6.out]; exact hq)] at hk2
          dsimp only at hk2
          rw [HNext6.out k] at hk2
          have HK9 := Lib.hid hk2
          have HV9 := Lib.hid hv9
          clear hk2 hv9 hq HKl
          have hm : k % 8 < 8 := Nat.mod_lt _ (by omega)
          generalize kut1 (x.getD (k / 8) 0) (kpt M (k / 8)) (k % 8 + 1) = q2 at *
          generalize kut1 (x.getD (k / 8) 0) (kpt M (k / 8)) (k % 8) = q1 at *
          have gq := q1.toNat_lt
          generalize k / 8 = q at *
          generalize k % 8 = m at *
          obtain ⟨r, hr⟩ : ∃ r : Nat, r = 7 - m := ⟨_, rfl⟩
          have e7 : (7 : Int) - ((m : Nat) : Int) = ((r : Nat) : Int) := by omega
          have hr8 : ((r : Nat) : Int) < 8 := by omega
          have tr : IntKind.u64.wrap ((r : Nat) : Int) = ((r : Nat) : Int) := by unfold IntKind.wrap IntKind.bits IntKind.signed; simp; omega
          have hsh : IntKind.u8.wrap ((2 : Int) ^ r) = (2 : Int) ^ (7 - m) := by
            rw [hr]
            have hmm : m = 0 ∨ m = 1 ∨ m = 2 ∨ m = 3 ∨ m = 4 ∨ m = 5 ∨ m = 6 ∨ m = 7 := by omega
            rcases hmm with rfl | rfl | rfl | rfl | rfl | rfl | rfl | rfl <;> rfl
          generalize (2 : Int) ^ (7 - m) = S9 at *
          clear hr
          go_upto_region 11 with (fail)
          rw [HV9.out]
          clear hsh tr e7
          go_wp2_with fail
          go_roundw
          case rel => exact ⟨k + 1, by omega, hlt, by go_num, HK9.out⟩
          case measure => simp [intOf]; omega
        · obtain rfl : k = 128 := by omega
          have hK2 := HKl.out
          rw [HXE6.out] at hK2
          have HKz := Lib.hid hK2
          clear hK2 HKl
          have e44 : ((128 : Nat) : Int) = 128 := rfl
          simp only [e44] at *
          go_wp2_with fail
          go_meet
          case rel => exact HKz.out
    case rest =>
      have HK24 := Lib.hid hcut
      clear hcut HK14
      generalize wc = w24 at *
      have HKs : Hid (Kp w w.heap.size ((w.heap.size + 1 + 1 + 1, 24, bu Y0) :: (w.heap.size + 1, 28, bu B0') :: [(g2, 36, (Nn.mk (clr x M) M).vals), (g1, 32, (Nn.mk (clr a N) N).vals), (w.heap.size + 1 + 1, 24, bu x), (w.heap.size, 28, bu a)]) w24) := Lib.hid (kp_sub HK24.out (by intro z hz; simp only [List.mem_cons, List.not_mem_nil, or_false] at hz ⊢; rcases hz with rfl | rfl | rfl | rfl | rfl | rfl <;> simp))
      clear HK24
      have HNy : Hid (∀ (B : List UInt8), ∀ z ∈ ((w.heap.size + 1, 28, bu B) :: [(g2, 36, (Nn.mk (clr x M) M).vals), (g1, 32, (Nn.mk (clr a N) N).vals), (w.heap.size + 1 + 1, 24, bu x), (w.heap.size, 28, bu a)] : List (Nat × TypeId × List Value)), z.1 ≠ w.heap.size + 1 + 1 + 1) := Lib.hid (fun B z hz => by
        have h1 := HFg1.out
        have h2 := HFg2.out
        simp only [List.mem_cons, List.not_mem_nil, or_false] at hz
        rcases hz with rfl | rfl | rfl | rfl | rfl <;> (show _ ≠ w.heap.size + 1 + 1 + 1; omega))
      have HNb : Hid (∀ (Y : List UInt8), ∀ z ∈ ((w.heap.size + 1 + 1 + 1, 24, bu Y) :: [(g2, 36, (Nn.mk (clr x M) M).vals), (g1, 32, (Nn.mk (clr a N) N).vals), (w.heap.size + 1 + 1, 24, bu x), (w.heap.size, 28, bu a)] : List (Nat × TypeId × List Value)), z.1 ≠ w.heap.size + 1) := Lib.hid (fun Y z hz => by
        have h1 := HFg1.out
        have h2 := HFg2.out
        simp only [List.mem_cons, List.not_mem_nil, or_false] at hz
        rcases hz with rfl | rfl | rfl | rfl | rfl <;> (show _ ≠ w.heap.size + 1; omega))
      have Hl4 : Hid ((clr a N).length = 4) := Lib.hid (by rw [clr_len]; exact Hha.out)
      have Hl6 : Hid ((clr x M).length = 16) := Lib.hid (by rw [clr_len]; exact Hhx.out)
      have kdN : ((N : Nat) : Int).tdiv 8 = ((N / 8 : Nat) : Int) := by rw [Int.tdiv_eq_ediv_of_nonneg (by omega)]; omega
      have kdM : ((M : Nat) : Int).tdiv 8 = ((M / 8 : Nat) : Int) := by rw [Int.tdiv_eq_ediv_of_nonneg (by omega)]; omega
      have HN8 : Hid (N / 8 ≤ 4) := Lib.hid (by have := HN.out; omega)
      have HM8 : Hid (M / 8 ≤ 16) := Lib.hid (by have := HM.out; omega)
      generalize hn8 : N / 8 = N8 at *
      generalize hm8 : M / 8 = M8 at *
      clear hn8 hm8
      have HWN8 : Hid (wrap64 ((N8 : Nat) : Int) = ((N8 : Nat) : Int)) := Lib.hid (by have := HN8.out; unfold wrap64; omega)
      have HWM8 : Hid (wrap64 ((M8 : Nat) : Int) = ((M8 : Nat) : Int)) := Lib.hid (by have := HM8.out; unfold wrap64; omega)
      have HWN8 : Hid (wrap64 ((N8 : Nat) : Int) = ((N8 : Nat) : Int)) := Lib.hid (by have := HN8.out; unfold wrap64; omega)
      have HWM8 : Hid (wrap64 ((M8 : Nat) : Int) = ((M8 : Nat) : Int)) := Lib.hid (by have := HM8.out; unfold wrap64; omega)
      go_upto_block 4 with (fail)
      go_cut [17] (fun v9 w' => ∃ (Y B : List UInt8), Y.length = 16 ∧ B.length = 4 ∧ Kp w w.heap.size ((w.heap.size + 1 + 1 + 1, 24, bu Y) :: (w.heap.size + 1, 28, bu B) :: [(g2, 36, (Nn.mk (clr x M) M).vals), (g1, 32, (Nn.mk (clr a N) N).vals), (w.heap.size + 1 + 1, 24, bu x), (w.heap.size, 28, bu a)]) w')
      case first =>
        go_wp2_with fail
        go_loopw [17] (fun i wr => ∃ (k : Nat) (Y B : List UInt8), k ≤ 16 ∧ i = .int .i64 k ∧ Y.length = 16 ∧ B.length = 4 ∧ Kp w w.heap.size ((w.heap.size + 1 + 1 + 1, 24, bu Y) :: (w.heap.size + 1, 28, bu B) :: [(g2, 36, (Nn.mk (clr x M) M).vals), (g1, 32, (Nn.mk (clr a N) N).vals), (w.heap.size + 1 + 1, 24, bu x), (w.heap.size, 28, bu a)]) wr) (fun i _ => 16 - (intOf i).toNat)
        case atStart => exact ⟨0, Y0, B0', Nat.zero_le _, rfl, HYl.out, HBl.out, HKs.out⟩
        case round =>
          obtain ⟨k, Y, B, hk, rfl, hY, hB, hK⟩ := hrel
          have HKl := Lib.hid hK
          have HY := Lib.hid hY
          have HBb := Lib.hid hB
          clear hK HKs hY hB
          by_cases hlt : k < 16
          · have il : ((k : Nat) : Int) < 16 := by omega
            have HLt := Lib.hid hlt
            have CMl := Lib.hid (fun (Y B : List UInt8) W (h : Kp w w.heap.size ((w.heap.size + 1 + 1 + 1, 24, bu Y) :: (w.heap.size + 1, 28, bu B) :: [(g2, 36, (Nn.mk (clr x M) M).vals), (g1, 32, (Nn.mk (clr a N) N).vals), (w.heap.size + 1 + 1, 24, bu x), (w.heap.size, 28, bu a)]) W) => (kp_sub h (l' := [(g1, 32, (Nn.mk (clr a N) N).vals)]) (by simp)).hd.at (nn_ln4 (Nn.mk (clr a N) N) Hl4.out))
            have CNl := Lib.hid (fun (Y B : List UInt8) W (h : Kp w w.heap.size ((w.heap.size + 1 + 1 + 1, 24, bu Y) :: (w.heap.size + 1, 28, bu B) :: [(g2, 36, (Nn.mk (clr x M) M).vals), (g1, 32, (Nn.mk (clr a N) N).vals), (w.heap.size + 1 + 1, 24, bu x), (w.heap.size, 28, bu a)]) W) => (kp_sub h (l' := [(g2, 36, (Nn.mk (clr x M) M).vals)]) (by simp)).hd.at (nn_ln6 (Nn.mk (clr x M) M) Hl6.out))
            have CMa := Lib.hid (fun (Y B : List UInt8) W (h : Kp w w.heap.size ((w.heap.size + 1 + 1 + 1, 24, bu Y) :: (w.heap.size + 1, 28, bu B) :: [(g2, 36, (Nn.mk (clr x M) M).vals), (g1, 32, (Nn.mk (clr a N) N).vals), (w.heap.size + 1 + 1, 24, bu x), (w.heap.size, 28, bu a)]) W) (hk4 : k < 4) => (kp_sub h (l' := [(g1, 32, (Nn.mk (clr a N) N).vals)]) (by simp)).hd.at (nn_at (Nn.mk (clr a N) N) k (by rw [Hl4.out]; exact hk4)))
            have CNa := Lib.hid (fun (Y B : List UInt8) W (h : Kp w w.heap.size ((w.heap.size + 1 + 1 + 1, 24, bu Y) :: (w.heap.size + 1, 28, bu B) :: [(g2, 36, (Nn.mk (clr x M) M).vals), (g1, 32, (Nn.mk (clr a N) N).vals), (w.heap.size + 1 + 1, 24, bu x), (w.heap.size, 28, bu a)]) W) => (kp_sub h (l' := [(g2, 36, (Nn.mk (clr x M) M).vals)]) (by simp)).hd.at (nn_at (Nn.mk (clr x M) M) k (by rw [Hl6.out]; exact HLt.out)))
            dsimp only at CMl CNl CMa CNa
            generalize (clr a N).getD k 0 = e4 at *
            generalize (clr x M).getD k 0 = e6 at *
            have cn := CNl.out Y B _ HKl.out
            by_cases h1 : k < M8
            · have i1 : ((k : Nat) : Int) < ((M8 : Nat) : Int) := by omega
              have d1 := decide_eq_true i1
              have ca := CNa.out Y B _ HKl.out
              have cc := HKl.out.hd.at (i := k) (bu_at Y k (by rw [HY.out]; exact HLt.out))
              have cz := HKl.out.hd.z k
              have hk2 := HKl.out.set1 (HNy.out _) (by omega) k (.int .u8 (e6.toNat : Int))
              rw [← bu_set] at hk2
              have HKm := Lib.hid hk2
              clear h1 hk2 hlt
              have hwM8 := HWM8.out
              go_upto_region 18 with (fail)
              clear hwM8
              clear ca cc cz cn HKl
              generalize wr.setCell ⟨w.heap.size + 1 + 1 + 1, k, none⟩ (.int .u8 (e6.toNat : Int)) = w77 at *
              have cm := CMl.out (Y.set k e6) B _ HKm.out
              by_cases h2 : k < N8
              · have i2 : ((k : Nat) : Int) < ((N8 : Nat) : Int) := by omega
                have i4 : ((k : Nat) : Int) < 4 := by have := HN8.out; omega
                have d2 := decide_eq_true i2
                have d4 := decide_eq_true i4
                have ca := CMa.out (Y.set k e6) B _ HKm.out (by have := HN8.out; omega)
                have hsw := (HKm.out).swap
                have cc := hsw.hd.at (i := k) (bu_at B k (by rw [HBb.out]; have := HN8.out; omega))
                have cz := hsw.hd.z k
                have hk3 := (hsw.set1 (HNb.out _) (by omega) k (.int .u8 (e4.toNat : Int))).swap
                rw [← bu_set] at hk3
                have HKn := Lib.hid hk3
                clear h2 hsw hk3
                have hwN8 := HWN8.out
                go_wp2_with fail
                clear hwN8
                go_roundw
                case rel => exact ⟨k + 1, (Y.set k e6), B.set k e4, HLt.out, by go_num, by rw [List.length_set]; exact HY.out, by rw [List.length_set]; exact HBb.out, HKn.out⟩
                case measure => have := HLt.out; simp [intOf]; omega
              · have i2 : ¬ ((k : Nat) : Int) < ((N8 : Nat) : Int) := by omega
                have d2 := decide_eq_false i2
                clear h2
                have hwN8 := HWN8.out
                go_wp2_with fail
                clear hwN8
                go_roundw
                case rel => exact ⟨k + 1, (Y.set k e6), B, HLt.out, by go_num, by rw [List.length_set]; exact HY.out, HBb.out, HKm.out⟩
                case measure => have := HLt.out; simp [intOf]; omega
            · have i1 : ¬ ((k : Nat) : Int) < ((M8 : Nat) : Int) := by omega
              have d1 := decide_eq_false i1
              clear h1 hlt
              have hwM8 := HWM8.out
              go_upto_region 18 with (fail)
              clear hwM8
              clear cn
              have cm := CMl.out Y B _ HKl.out
              by_cases h2 : k < N8
              · have i2 : ((k : Nat) : Int) < ((N8 : Nat) : Int) := by omega
                have i4 : ((k : Nat) : Int) < 4 := by have := HN8.out; omega
                have d2 := decide_eq_true i2
                have d4 := decide_eq_true i4
                have ca := CMa.out Y B _ HKl.out (by have := HN8.out; omega)
                have hsw := (HKl.out).swap
                have cc := hsw.hd.at (i := k) (bu_at B k (by rw [HBb.out]; have := HN8.out; omega))
                have cz := hsw.hd.z k
                have hk3 := (hsw.set1 (HNb.out _) (by omega) k (.int .u8 (e4.toNat : Int))).swap
                rw [← bu_set] at hk3
                have HKn := Lib.hid hk3
                clear h2 hsw hk3
                have hwN8 := HWN8.out
                go_wp2_with fail
                clear hwN8
                go_roundw
                case rel => exact ⟨k + 1, Y, B.set k e4, HLt.out, by go_num, HY.out, by rw [List.length_set]; exact HBb.out, HKn.out⟩
                case measure => have := HLt.out; simp [intOf]; omega
              · have i2 : ¬ ((k : Nat) : Int) < ((N8 : Nat) : Int) := by omega
                have d2 := decide_eq_false i2
                clear h2
                have hwN8 := HWN8.out
                go_wp2_with fail
                clear hwN8
                go_roundw
                case rel => exact ⟨k + 1, Y, B, HLt.out, by go_num, HY.out, HBb.out, HKl.out⟩
                case measure => have := HLt.out; simp [intOf]; omega
          · have il : ¬ ((k : Nat) : Int) < 16 := by omega
            clear hlt
            go_wp2_with fail
            go_meet
            case rel => exact ⟨Y, B, HY.out, HBb.out, HKl.out⟩
      case rest =>
        obtain ⟨Y, B, hY, hB, hK⟩ := hcut
        have HK34 := Lib.hid hK
        have CLa := Lib.hid (CL.out (Nn.mk (clr a N) N) (Nn.mk (clr x M) M) a x Hl4.out Hl6.out Hha.out Hhx.out)
        have CLb := Lib.hid (CL.out (Nn.mk (clr a N) N) (Nn.mk (clr x M) M) B Y Hl4.out Hl6.out hB hY)
        have CLc := Lib.hid (CL.out (Nn.mk (clr a N) N) K9 B Y Hl4.out HK9l.out hB hY)
        have HI_UY : Hid ((Tryd.prog.info? 24).map (·.size) = some (bu Y).length) := Lib.hid (Tryd.infoU6 _ hY)
        have HO_UY : Hid ((bu Y).toArray.all (·.oneCell') = true) := Lib.hid (bu_one _)
        have HL_UY : Hid ((bu Y).length = 16) := Lib.hid (by rw [bu_len]; exact hY)
        have HI_UB : Hid ((Tryd.prog.info? 28).map (·.size) = some (bu B).length) := Lib.hid (Tryd.infoU4 _ hB)
        have HO_UB : Hid ((bu B).toArray.all (·.oneCell') = true) := Lib.hid (bu_one _)
        have HL_UB : Hid ((bu B).length = 4) := Lib.hid (by rw [bu_len]; exact hB)
        clear hK hY hB HKs CL kdN kdM HNy HNb
        generalize wc = w34 at *
        generalize bu Y = VY9 at *
        generalize bu B = VB9 at *
        generalize bu x = VX9 at *
        generalize bu a = VA9 at *
        generalize (Nn.mk (clr a N) N).vals = VQ4 at *
        generalize (Nn.mk (clr x M) M).vals = VQ6 at *
        generalize K9.vals = VK9 at *
        go_wp2_with (fail)
        refine (CP.out _ (HW.out.below HK34.out.2.1)).mono ?_
        rintro e w35 ⟨rfl, bb⟩
        have HK35 := Lib.hid (HK34.out.below bb (Nat.le_refl _))
        clear bb HK34
        have ht := (bk_new w35 36 ([.int .u8 0, .int .u8 0, .int .u8 0, .int .u8 0, .int .u8 0, .int .u8 0, .int .u8 0, .int .u8 0, .int .u8 0, .int .u8 0, .int .u8 0, .int .u8 0, .int .u8 0, .int .u8 0, .int .u8 0, .int .u8 0, .int .i64 0] : List Value).toArray).there VK9.toArray.size (by have := HL_VK.out; simp; omega)
        go_upto_region 21 with ((refine wpList_store_mid rfl 36 _ _ rfl w35.heap.size 0 VK9.toArray rfl rfl ht (by simpa using HI_VK.out) HO_VK.out ?_))
        have HK36 := Lib.hid (HK35.out.put 36 ([.int .u8 0, .int .u8 0, .int .u8 0, .int .u8 0, .int .u8 0, .int .u8 0, .int .u8 0, .int .u8 0, .int .u8 0, .int .u8 0, .int .u8 0, .int .u8 0, .int .u8 0, .int .u8 0, .int .u8 0, .int .u8 0, .int .i64 0] : List Value).toArray VK9 (by have := HL_VK.out; simp; omega))
        clear ht HK35
        generalize (w35.alloc (.cells ([.int .u8 0, .int .u8 0, .int .u8 0, .int .u8 0, .int .u8 0, .int .u8 0, .int .u8 0, .int .u8 0, .int .u8 0, .int .u8 0, .int .u8 0, .int .u8 0, .int .u8 0, .int .u8 0, .int .u8 0, .int .u8 0, .int .i64 0] : List Value).toArray 36)).setCells w35.heap.size 0 VK9 = w36 at *
        generalize w35.heap.size = g3 at *
        have hr0 := HK36.out.tl.tl.tl.tl.hd.range
        have hr1 := HK36.out.tl.tl.tl.hd.range
        have hr2 := HK36.out.tl.tl.tl.tl.tl.tl.hd.range
        have hr3 := HK36.out.tl.tl.tl.tl.tl.hd.range
        go_wp2_with (((with_reducible (change wpList _ _ _ _ _ _)); (first | (refine wpList_load_if ?hw 32 _ rfl (g1) 0 rfl VQ4 _ hr0 Tryd.underlying32 rfl HI_VQ4.out ?_; case hw => kernel_rfl) | (refine wpList_load_if ?hw 36 _ rfl (g2) 0 rfl VQ6 _ hr1 Tryd.underlying36 rfl HI_VQ6.out ?_; case hw => kernel_rfl) | (refine wpList_load_if ?hw 28 _ rfl (w.heap.size) 0 rfl VA9 _ hr2 Tryd.underlying28 rfl HI_VA.out ?_; case hw => kernel_rfl) | (refine wpList_load_if ?hw 24 _ rfl (w.heap.size + 1 + 1) 0 rfl VX9 _ hr3 Tryd.underlying24 rfl HI_VX.out ?_; case hw => kernel_rfl))))
        clear hr0 hr1 hr2 hr3
        refine (CLa.out _ (HW.out.below HK36.out.2.1) (HV.out.below HK36.out.2.1) (rangeAt_below HG.out HK36.out.2.1)).mono ?_
        rintro e w37 ⟨rfl, bb⟩
        have HK37 := Lib.hid (HK36.out.below bb (Nat.le_refl _))
        clear bb HK36
        have hr0 := HK37.out.tl.tl.tl.tl.hd.range
        have hr1 := HK37.out.tl.tl.tl.hd.range
        have hr2 := HK37.out.tl.tl.hd.range
        have hr3 := HK37.out.tl.hd.range
        go_wp2_with (((with_reducible (change wpList _ _ _ _ _ _)); (first | (refine wpList_load_if ?hw 32 _ rfl (g1) 0 rfl VQ4 _ hr0 Tryd.underlying32 rfl HI_VQ4.out ?_; case hw => kernel_rfl) | (refine wpList_load_if ?hw 36 _ rfl (g2) 0 rfl VQ6 _ hr1 Tryd.underlying36 rfl HI_VQ6.out ?_; case hw => kernel_rfl) | (refine wpList_load_if ?hw 28 _ rfl (w.heap.size + 1) 0 rfl VB9 _ hr2 Tryd.underlying28 rfl HI_UB.out ?_; case hw => kernel_rfl) | (refine wpList_load_if ?hw 24 _ rfl (w.heap.size + 1 + 1 + 1) 0 rfl VY9 _ hr3 Tryd.underlying24 rfl HI_UY.out ?_; case hw => kernel_rfl))))
        clear hr0 hr1 hr2 hr3
        refine (CLb.out _ (HW.out.below HK37.out.2.1) (HV.out.below HK37.out.2.1) (rangeAt_below HG.out HK37.out.2.1)).mono ?_
        rintro e w38 ⟨rfl, bb⟩
        have HK38 := Lib.hid (HK37.out.below bb (Nat.le_refl _))
        clear bb HK37
        have hr0 := HK38.out.tl.tl.tl.tl.hd.range
        have hr1 := HK38.out.hd.range
        have hr2 := HK38.out.tl.tl.hd.range
        have hr3 := HK38.out.tl.hd.range
        go_wp2_with (((with_reducible (change wpList _ _ _ _ _ _)); (first | (refine wpList_load_if ?hw 32 _ rfl (g1) 0 rfl VQ4 _ hr0 Tryd.underlying32 rfl HI_VQ4.out ?_; case hw => kernel_rfl) | (refine wpList_load_if ?hw 36 _ rfl (g3) 0 rfl VK9 _ hr1 Tryd.underlying36 rfl HI_VK.out ?_; case hw => kernel_rfl) | (refine wpList_load_if ?hw 28 _ rfl (w.heap.size + 1) 0 rfl VB9 _ hr2 Tryd.underlying28 rfl HI_UB.out ?_; case hw => kernel_rfl) | (refine wpList_load_if ?hw 24 _ rfl (w.heap.size + 1 + 1 + 1) 0 rfl VY9 _ hr3 Tryd.underlying24 rfl HI_UY.out ?_; case hw => kernel_rfl))))
        clear hr0 hr1 hr2 hr3
        refine (CLc.out _ (HW.out.below HK38.out.2.1) (HV.out.below HK38.out.2.1) (rangeAt_below HG.out HK38.out.2.1)).mono ?_
        rintro e w39 ⟨rfl, bb⟩
        have HK39 := Lib.hid (HK38.out.below bb (Nat.le_refl _))
        clear bb HK38
        have hr0 := HK39.out.tl.tl.tl.tl.hd.range
        have hr1 := HK39.out.tl.tl.tl.tl.tl.tl.hd.range
        go_wp2_with (((with_reducible (change wpList _ _ _ _ _ _)); (first | (refine wpList_load_if ?hw 32 _ rfl (g1) 0 rfl VQ4 _ hr0 Tryd.underlying32 rfl HI_VQ4.out ?_; case hw => kernel_rfl) | (refine wpList_load_if ?hw 28 _ rfl (w.heap.size) 0 rfl VA9 _ hr1 Tryd.underlying28 rfl HI_VA.out ?_; case hw => kernel_rfl))))
        clear hr0 hr1
        refine (C4.out _).mono ?_
        rintro e w40 ⟨rfl, bb⟩
        have HK40 := Lib.hid (HK39.out.below bb (Nat.le_refl _))
        clear bb HK39
        have hr0 := HK40.out.tl.tl.tl.hd.range
        have hr1 := HK40.out.tl.tl.tl.tl.tl.hd.range
        go_wp2_with (((with_reducible (change wpList _ _ _ _ _ _)); (first | (refine wpList_load_if ?hw 36 _ rfl (g2) 0 rfl VQ6 _ hr0 Tryd.underlying36 rfl HI_VQ6.out ?_; case hw => kernel_rfl) | (refine wpList_load_if ?hw 24 _ rfl (w.heap.size + 1 + 1) 0 rfl VX9 _ hr1 Tryd.underlying24 rfl HI_VX.out ?_; case hw => kernel_rfl))))
        clear hr0 hr1
        refine (C6.out _).mono ?_
        rintro e w41 ⟨rfl, bb⟩
        have HK41 := Lib.hid (HK40.out.below bb (Nat.le_refl _))
        clear bb HK40
        go_wp2_with (fail)
        go_ret
        exact ⟨rfl, HK41.out.2.1⟩
end Go.Proofs.YtkkgcmfcfacakaaDoor
