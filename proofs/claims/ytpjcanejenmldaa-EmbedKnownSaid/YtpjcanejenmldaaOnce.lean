/-
  Proved here: the law EmbedOnce answers true.
  Conditions: addresses of 16 bytes.
-/
import Derived.Test.YtpjcanejenmldaaAwake
import Derived.Test.YtpjcanejenmldaaFacts
namespace Go.Proofs.Ytpjcanejenmldaa
open Go.RowKit

theorem Kp.sub {w0 w : World} {B : Nat} {l m : List (Nat × TypeId × List Value)} (h : Kp w0 B l w) (hs : ∀ x ∈ m, x ∈ l) : Kp w0 B m w := ⟨fun x hx => h.1 x (hs x hx), h.2⟩
set_option maxRecDepth 100000 in
set_option maxHeartbeats 4000000 in
theorem embedOnce_any (p : Nt) (x : List Int) (w : World) (hp : p.ad.length = 16) (hx : x.length = 16) :
    Calls Try.prog 7 #[.agg p.vals.toArray, .agg (b8 x).toArray] w fun e w' => e = .returned (.bool true) ∧ Below w.heap.size w w' := by
  have HA := Lib.hid awake_true
  have C1 := Lib.hid (fun W => extract_any p x hp hx W)
  have C2 := Lib.hid (fun W => embed_any p (p.ext x) hp (ext_len p x) W)
  have HO := Lib.hid (show p.takes x = true → b8 (bgn x (lastB p.ln) 16) = b8 (p.emb (p.ext x)) ∧ ∀ W, Calls Try.prog 19 #[.agg p.vals.toArray, .agg (b8 (p.emb (p.ext x))).toArray] W fun e w' => e = .returned (.bool true) ∧ Below W.heap.size W w' from fun h => by
    obtain ⟨h1, h2⟩ := once hp hx h
    refine ⟨by rw [h1], fun W => ?_⟩
    have h3 := inside_any p (p.emb (p.ext x)) hp (emb_len p hp _) W
    rw [h1, h2, ← h1] at h3
    exact h3)
  have HR := Lib.hid (show p.takes x = true → p.right = true ∧ okL p.ln = true from fun h => ⟨in_right (takes_in h), right_ln (in_right (takes_in h))⟩)
  have HZ := Lib.hid (show p.takes x = false → b8 (p.ext x) = b8 zero4 from fun h => by rw [not_takes_ext h])
  have hq6 : ∀ W, (binOp .eql 23 (.agg (b8 (p.emb (p.ext x))).toArray) (.agg (b8 (p.emb (p.ext x))).toArray)).run Try.prog W = .ok (.bool true) W := fun W => by rw [eq6 _ _ (emb_len p hp _) (emb_len p hp _) W, beq_self_eq_true]
  have hq4 : ∀ W, (binOp .eql 31 (.agg (b8 zero4).toArray) (.agg (b8 zero4).toArray)).run Try.prog W = .ok (.bool true) W := fun W => by rw [eq4 _ _ rfl rfl W, beq_self_eq_true]
  have HBD : Hid (∀ (ρ : Operand → Value) (d : Option Tmp) (ty : TypeId) (ps : String) (af : Array Edge) (W : World), (execOp ρ { dst := d, op := .build 31 #[], type := ty, pos := ps, after := af, guard := none }).run Try.prog W = .ok (.value (.agg (b8 zero4).toArray)) W) := Lib.hid (fun ρ d ty ps af W => Try.execZ4 ρ d ty ps af none W)
  have HIP := Lib.hid (Try.infoNet p hp)
  have HIX := Lib.hid (Try.infoSix x hx)
  have HID := Lib.hid (Try.infoFour _ (ext_len p x))
  have HIE := Lib.hid (Try.infoSix _ (emb_len p hp (p.ext x)))
  have HOD := Lib.hid (b8_one (p.ext x))
  have HOE := Lib.hid (b8_one (p.emb (p.ext x)))
  have HLD : Hid ((b8 (p.ext x)).length = 4) := Lib.hid ((b8_len _).trans (ext_len p x))
  have HLE : Hid ((b8 (p.emb (p.ext x))).length = 16) := Lib.hid ((b8_len _).trans (emb_len p hp _))
  have HV16 := Lib.hid (nvals_ln p hp)
  have HXl := Lib.hid hx
  have HK1 := Lib.hid (kp2 w 26 23 p.vals (b8 x))
  clear hp hx
  generalize b8 (p.emb (p.ext x)) = VE at *
  generalize b8 (p.ext x) = VD at *
  generalize p.takes x = tk at *
  generalize p.right = pr at *
  generalize p.ln = L at *
  generalize p.vals = V at *
  generalize hVX : b8 x = VX at *
  have HVX := Lib.hid hVX
  clear hVX
  generalize b8 zero4 = VZ at *
  generalize hw1 : (w.alloc (.cells V.toArray 26)).alloc (.cells VX.toArray 23) = w1 at *
  go_enter Try.func7, Try.ntmps7
  go_upto_region 1 with (fail)
  clear hw1
  go_wp2_with (fail)
  refine (HA.out _).mono ?_
  rintro e w2 ⟨rfl, bb⟩
  have HK2 := Lib.hid (HK1.out.below bb (Nat.le_refl _))
  clear bb HK1
  go_upto_region 3 with (fail)
  have hr0 := HK2.out.tl.hd.range
  have hr1 := HK2.out.hd.range
  go_wp2_with (first | (refine wpList_load_mid rfl 26 _ rfl (w.heap.size) 0 rfl V _ hr0 Try.underlying26 rfl HIP.out ?_) | (refine wpList_load_mid rfl 23 _ rfl (w.heap.size + 1) 0 rfl VX _ hr1 Try.underlying23 rfl HIX.out ?_))
  clear hr0 hr1
  refine (C1.out _).mono ?_
  rintro e w3 ⟨rfl, bb⟩
  have HK3 := Lib.hid (HK2.out.below bb (Nat.le_refl _))
  clear bb HK2
  have ht := (bk_new w3 31 ([.int .u8 0, .int .u8 0, .int .u8 0, .int .u8 0] : List Value).toArray).there VD.toArray.size (by have := HLD.out; simp; omega)
  go_upto_region 4 with ((refine wpList_store_mid rfl 31 _ _ rfl w3.heap.size 0 VD.toArray rfl rfl ht (by simpa using HID.out) HOD.out ?_))
  have HK4 := Lib.hid (HK3.out.put 31 ([.int .u8 0, .int .u8 0, .int .u8 0, .int .u8 0] : List Value).toArray VD (by have := HLD.out; simp; omega))
  have HGg1 := Lib.hid HK3.out.ne
  have HBg1 := Lib.hid HK3.out.2.2
  clear ht HK3
  generalize (w3.alloc (.cells ([.int .u8 0, .int .u8 0, .int .u8 0, .int .u8 0] : List Value).toArray 31)).setCells w3.heap.size 0 VD = w4 at *
  generalize w3.heap.size = g1 at *
  cases tk
  · have e1 := HZ.out rfl
    have e2 := e1.symm
    clear e1
    subst e2
    clear HO HR HZ
    have hr0 := HK4.out.hd.range
    go_wp2_with (first | (refine wpList_load_mid rfl 31 _ rfl (g1) 0 rfl VZ _ hr0 Try.underlying31 rfl HID.out ?_) | (refine Great.wpList_readTo rfl _ rfl (.agg VZ.toArray) (HBD.out _ _ _ _ _ _) ?_))
    go_ret
    exact ⟨rfl, HK4.out.2.1⟩
  · obtain ⟨e1, hok⟩ := HR.out rfl
    subst e1
    obtain ⟨h1, h2⟩ := HO.out rfl
    have HO1 := Lib.hid h1
    have HO2 := Lib.hid h2
    clear HO HR HZ h1 h2
    have hr0 := HK4.out.tl.tl.hd.range
    have hr1 := HK4.out.hd.range
    go_wp2_with (first | (refine wpList_load_mid rfl 26 _ rfl (w.heap.size) 0 rfl V _ hr0 Try.underlying26 rfl HIP.out ?_) | (refine wpList_load_mid rfl 31 _ rfl (g1) 0 rfl VD _ hr1 Try.underlying31 rfl HID.out ?_))
    clear hr0 hr1
    refine (C2.out _).mono ?_
    rintro e w5 ⟨rfl, bb⟩
    have HK5 := Lib.hid (HK4.out.below bb (Nat.le_refl _))
    clear bb HK4
    have ht := (bk_new w5 23 ([.int .u8 0, .int .u8 0, .int .u8 0, .int .u8 0, .int .u8 0, .int .u8 0, .int .u8 0, .int .u8 0, .int .u8 0, .int .u8 0, .int .u8 0, .int .u8 0, .int .u8 0, .int .u8 0, .int .u8 0, .int .u8 0] : List Value).toArray).there VE.toArray.size (by have := HLE.out; simp; omega)
    go_upto_region 7 with ((refine wpList_store_mid rfl 23 _ _ rfl w5.heap.size 0 VE.toArray rfl rfl ht (by simpa using HIE.out) HOE.out ?_))
    have HK6 := Lib.hid (HK5.out.put 23 ([.int .u8 0, .int .u8 0, .int .u8 0, .int .u8 0, .int .u8 0, .int .u8 0, .int .u8 0, .int .u8 0, .int .u8 0, .int .u8 0, .int .u8 0, .int .u8 0, .int .u8 0, .int .u8 0, .int .u8 0, .int .u8 0] : List Value).toArray VE (by have := HLE.out; simp; omega))
    have HGg2 := Lib.hid HK5.out.ne
    have HBg2 := Lib.hid HK5.out.2.2
    clear ht HK5
    generalize (w5.alloc (.cells ([.int .u8 0, .int .u8 0, .int .u8 0, .int .u8 0, .int .u8 0, .int .u8 0, .int .u8 0, .int .u8 0, .int .u8 0, .int .u8 0, .int .u8 0, .int .u8 0, .int .u8 0, .int .u8 0, .int .u8 0, .int .u8 0] : List Value).toArray 23)).setCells w5.heap.size 0 VE = w6 at *
    generalize w5.heap.size = g2 at *
    have HKs : Hid (Kp w w.heap.size [(w.heap.size + 1, 23, VX), (g2, 23, VE), (g1, 31, VD), (w.heap.size, 26, V)] w6) := Lib.hid (HK6.out.sub (by intro y hy; simp only [List.mem_cons, List.not_mem_nil, or_false] at hy; rcases hy with rfl | rfl | rfl | rfl <;> simp))
    clear HK6
    have HK6 := HKs
    clear HKs
    have HNE : Hid (∀ y ∈ [(g2, 23, VE), (g1, 31, VD), (w.heap.size, 26, V)], y.1 ≠ w.heap.size + 1) := Lib.hid (by
      intro y hy
      have h1 := HGg1.out (w.heap.size + 1, 23, VX) (by simp)
      have h2 := HGg2.out (w.heap.size + 1, 23, VX) (by simp)
      simp only [List.mem_cons, List.not_mem_nil, or_false] at hy
      rcases hy with rfl | rfl | rfl
      · exact Ne.symm h2
      · exact Ne.symm h1
      · show w.heap.size ≠ w.heap.size + 1; omega)
    clear HGg1 HGg2 HBg1 HBg2
    rcases okL_cases hok with rfl | rfl | rfl | rfl | rfl | rfl
    · have c16 := HK6.out.tl.tl.tl.hd.at HV16.out
      have k1 : (32 : Int).tdiv 8 = 4 := by decide
      have HN : Hid (b8 (bgn x 8 16) = VE) := Lib.hid HO1.out
      clear hok HO1
      go_upto_region 10 with (fail)
      clear c16 k1
      go_wp2_with fail
      have HX0 : Hid (b8 (bgn x 8 8) = VX) := Lib.hid (by rw [bgn_start]; exact HVX.out)
      go_loopw [10] (fun i wr => ∃ k : Nat, 8 ≤ k ∧ k ≤ 16 ∧ i = .int .i64 k ∧ Kp w w.heap.size ((w.heap.size + 1, 23, b8 (bgn x 8 k)) :: [(g2, 23, VE), (g1, 31, VD), (w.heap.size, 26, V)]) wr) (fun i _ => 16 - (intOf i).toNat)
      case atStart => exact ⟨8, by omega, by omega, rfl, by rw [HX0.out]; exact HK6.out⟩
      case round =>
        obtain ⟨k, hNk, hk, rfl, hK⟩ := hrel
        have HKr := Lib.hid hK
        clear hK HK6 HX0
        by_cases hlt : k < 16
        · have i16 : ((k : Nat) : Int) < 16 := by omega
          have cc := HKr.out.hd.at (i := k) (b8_at _ k (by rw [bgn_len x 8 k hNk (by have := HXl.out; omega)]; have := HXl.out; omega))
          have cz := HKr.out.hd.z k
          have hb2 := HKr.out.set8 HNE.out (by omega) k 0
          rw [bgn_next x 8 k hNk (by have := HXl.out; omega)] at hb2
          have HB2 := Lib.hid hb2
          clear hb2
          generalize (bgn x 8 k).getD k 0 = d at *
          go_wp2_with fail
          go_roundw
          case rel => exact ⟨k + 1, by omega, by omega, by go_num, HB2.out⟩
          case measure => simp [intOf]; omega
        · obtain rfl : k = 16 := by omega
          have hK9 := HKr.out
          rw [HN.out] at hK9
          have HK9 := Lib.hid hK9
          clear hK9 HKr HN
          have hr0 := HK9.out.tl.tl.tl.hd.range
          have hr1 := HK9.out.hd.range
          go_wp2_with (first | (refine wpList_load_if (by rfl) 26 _ rfl (w.heap.size) 0 rfl V _ hr0 Try.underlying26 rfl HIP.out ?_) | (refine wpList_load_if (by rfl) 23 _ rfl (w.heap.size + 1) 0 rfl VE _ hr1 Try.underlying23 rfl HIE.out ?_))
          clear hr0 hr1
          refine (HO2.out _).mono ?_
          rintro e w10 ⟨rfl, bb⟩
          have HK10 := Lib.hid (HK9.out.below bb (Nat.le_refl _))
          clear bb HK9
          have hr0 := HK10.out.tl.hd.range
          have hr1 := HK10.out.hd.range
          go_wp2_with (first | (refine wpList_load_if (by rfl) 23 _ rfl (g2) 0 rfl VE _ hr0 Try.underlying23 rfl HIE.out ?_) | (refine wpList_load_if (by rfl) 23 _ rfl (w.heap.size + 1) 0 rfl VE _ hr1 Try.underlying23 rfl HIE.out ?_))
          go_ret
          exact ⟨rfl, HK10.out.2.1⟩
    · have c16 := HK6.out.tl.tl.tl.hd.at HV16.out
      have k1 : (40 : Int).tdiv 8 = 5 := by decide
      have HN : Hid (b8 (bgn x 10 16) = VE) := Lib.hid HO1.out
      clear hok HO1
      go_upto_region 10 with (fail)
      clear c16 k1
      go_wp2_with fail
      have HX0 : Hid (b8 (bgn x 10 10) = VX) := Lib.hid (by rw [bgn_start]; exact HVX.out)
      go_loopw [10] (fun i wr => ∃ k : Nat, 10 ≤ k ∧ k ≤ 16 ∧ i = .int .i64 k ∧ Kp w w.heap.size ((w.heap.size + 1, 23, b8 (bgn x 10 k)) :: [(g2, 23, VE), (g1, 31, VD), (w.heap.size, 26, V)]) wr) (fun i _ => 16 - (intOf i).toNat)
      case atStart => exact ⟨10, by omega, by omega, rfl, by rw [HX0.out]; exact HK6.out⟩
      case round =>
        obtain ⟨k, hNk, hk, rfl, hK⟩ := hrel
        have HKr := Lib.hid hK
        clear hK HK6 HX0
        by_cases hlt : k < 16
        · have i16 : ((k : Nat) : Int) < 16 := by omega
          have cc := HKr.out.hd.at (i := k) (b8_at _ k (by rw [bgn_len x 10 k hNk (by have := HXl.out; omega)]; have := HXl.out; omega))
          have cz := HKr.out.hd.z k
          have hb2 := HKr.out.set8 HNE.out (by omega) k 0
          rw [bgn_next x 10 k hNk (by have := HXl.out; omega)] at hb2
          have HB2 := Lib.hid hb2
          clear hb2
          generalize (bgn x 10 k).getD k 0 = d at *
          go_wp2_with fail
          go_roundw
          case rel => exact ⟨k + 1, by omega, by omega, by go_num, HB2.out⟩
          case measure => simp [intOf]; omega
        · obtain rfl : k = 16 := by omega
          have hK9 := HKr.out
          rw [HN.out] at hK9
          have HK9 := Lib.hid hK9
          clear hK9 HKr HN
          have hr0 := HK9.out.tl.tl.tl.hd.range
          have hr1 := HK9.out.hd.range
          go_wp2_with (first | (refine wpList_load_if (by rfl) 26 _ rfl (w.heap.size) 0 rfl V _ hr0 Try.underlying26 rfl HIP.out ?_) | (refine wpList_load_if (by rfl) 23 _ rfl (w.heap.size + 1) 0 rfl VE _ hr1 Try.underlying23 rfl HIE.out ?_))
          clear hr0 hr1
          refine (HO2.out _).mono ?_
          rintro e w10 ⟨rfl, bb⟩
          have HK10 := Lib.hid (HK9.out.below bb (Nat.le_refl _))
          clear bb HK9
          have hr0 := HK10.out.tl.hd.range
          have hr1 := HK10.out.hd.range
          go_wp2_with (first | (refine wpList_load_if (by rfl) 23 _ rfl (g2) 0 rfl VE _ hr0 Try.underlying23 rfl HIE.out ?_) | (refine wpList_load_if (by rfl) 23 _ rfl (w.heap.size + 1) 0 rfl VE _ hr1 Try.underlying23 rfl HIE.out ?_))
          go_ret
          exact ⟨rfl, HK10.out.2.1⟩
    · have c16 := HK6.out.tl.tl.tl.hd.at HV16.out
      have k1 : (48 : Int).tdiv 8 = 6 := by decide
      have HN : Hid (b8 (bgn x 11 16) = VE) := Lib.hid HO1.out
      clear hok HO1
      go_upto_region 10 with (fail)
      clear c16 k1
      go_wp2_with fail
      have HX0 : Hid (b8 (bgn x 11 11) = VX) := Lib.hid (by rw [bgn_start]; exact HVX.out)
      go_loopw [10] (fun i wr => ∃ k : Nat, 11 ≤ k ∧ k ≤ 16 ∧ i = .int .i64 k ∧ Kp w w.heap.size ((w.heap.size + 1, 23, b8 (bgn x 11 k)) :: [(g2, 23, VE), (g1, 31, VD), (w.heap.size, 26, V)]) wr) (fun i _ => 16 - (intOf i).toNat)
      case atStart => exact ⟨11, by omega, by omega, rfl, by rw [HX0.out]; exact HK6.out⟩
      case round =>
        obtain ⟨k, hNk, hk, rfl, hK⟩ := hrel
        have HKr := Lib.hid hK
        clear hK HK6 HX0
        by_cases hlt : k < 16
        · have i16 : ((k : Nat) : Int) < 16 := by omega
          have cc := HKr.out.hd.at (i := k) (b8_at _ k (by rw [bgn_len x 11 k hNk (by have := HXl.out; omega)]; have := HXl.out; omega))
          have cz := HKr.out.hd.z k
          have hb2 := HKr.out.set8 HNE.out (by omega) k 0
          rw [bgn_next x 11 k hNk (by have := HXl.out; omega)] at hb2
          have HB2 := Lib.hid hb2
          clear hb2
          generalize (bgn x 11 k).getD k 0 = d at *
          go_wp2_with fail
          go_roundw
          case rel => exact ⟨k + 1, by omega, by omega, by go_num, HB2.out⟩
          case measure => simp [intOf]; omega
        · obtain rfl : k = 16 := by omega
          have hK9 := HKr.out
          rw [HN.out] at hK9
          have HK9 := Lib.hid hK9
          clear hK9 HKr HN
          have hr0 := HK9.out.tl.tl.tl.hd.range
          have hr1 := HK9.out.hd.range
          go_wp2_with (first | (refine wpList_load_if (by rfl) 26 _ rfl (w.heap.size) 0 rfl V _ hr0 Try.underlying26 rfl HIP.out ?_) | (refine wpList_load_if (by rfl) 23 _ rfl (w.heap.size + 1) 0 rfl VE _ hr1 Try.underlying23 rfl HIE.out ?_))
          clear hr0 hr1
          refine (HO2.out _).mono ?_
          rintro e w10 ⟨rfl, bb⟩
          have HK10 := Lib.hid (HK9.out.below bb (Nat.le_refl _))
          clear bb HK9
          have hr0 := HK10.out.tl.hd.range
          have hr1 := HK10.out.hd.range
          go_wp2_with (first | (refine wpList_load_if (by rfl) 23 _ rfl (g2) 0 rfl VE _ hr0 Try.underlying23 rfl HIE.out ?_) | (refine wpList_load_if (by rfl) 23 _ rfl (w.heap.size + 1) 0 rfl VE _ hr1 Try.underlying23 rfl HIE.out ?_))
          go_ret
          exact ⟨rfl, HK10.out.2.1⟩
    · have c16 := HK6.out.tl.tl.tl.hd.at HV16.out
      have k1 : (56 : Int).tdiv 8 = 7 := by decide
      have HN : Hid (b8 (bgn x 12 16) = VE) := Lib.hid HO1.out
      clear hok HO1
      go_upto_region 10 with (fail)
      clear c16 k1
      go_wp2_with fail
      have HX0 : Hid (b8 (bgn x 12 12) = VX) := Lib.hid (by rw [bgn_start]; exact HVX.out)
      go_loopw [10] (fun i wr => ∃ k : Nat, 12 ≤ k ∧ k ≤ 16 ∧ i = .int .i64 k ∧ Kp w w.heap.size ((w.heap.size + 1, 23, b8 (bgn x 12 k)) :: [(g2, 23, VE), (g1, 31, VD), (w.heap.size, 26, V)]) wr) (fun i _ => 16 - (intOf i).toNat)
      case atStart => exact ⟨12, by omega, by omega, rfl, by rw [HX0.out]; exact HK6.out⟩
      case round =>
        obtain ⟨k, hNk, hk, rfl, hK⟩ := hrel
        have HKr := Lib.hid hK
        clear hK HK6 HX0
        by_cases hlt : k < 16
        · have i16 : ((k : Nat) : Int) < 16 := by omega
          have cc := HKr.out.hd.at (i := k) (b8_at _ k (by rw [bgn_len x 12 k hNk (by have := HXl.out; omega)]; have := HXl.out; omega))
          have cz := HKr.out.hd.z k
          have hb2 := HKr.out.set8 HNE.out (by omega) k 0
          rw [bgn_next x 12 k hNk (by have := HXl.out; omega)] at hb2
          have HB2 := Lib.hid hb2
          clear hb2
          generalize (bgn x 12 k).getD k 0 = d at *
          go_wp2_with fail
          go_roundw
          case rel => exact ⟨k + 1, by omega, by omega, by go_num, HB2.out⟩
          case measure => simp [intOf]; omega
        · obtain rfl : k = 16 := by omega
          have hK9 := HKr.out
          rw [HN.out] at hK9
          have HK9 := Lib.hid hK9
          clear hK9 HKr HN
          have hr0 := HK9.out.tl.tl.tl.hd.range
          have hr1 := HK9.out.hd.range
          go_wp2_with (first | (refine wpList_load_if (by rfl) 26 _ rfl (w.heap.size) 0 rfl V _ hr0 Try.underlying26 rfl HIP.out ?_) | (refine wpList_load_if (by rfl) 23 _ rfl (w.heap.size + 1) 0 rfl VE _ hr1 Try.underlying23 rfl HIE.out ?_))
          clear hr0 hr1
          refine (HO2.out _).mono ?_
          rintro e w10 ⟨rfl, bb⟩
          have HK10 := Lib.hid (HK9.out.below bb (Nat.le_refl _))
          clear bb HK9
          have hr0 := HK10.out.tl.hd.range
          have hr1 := HK10.out.hd.range
          go_wp2_with (first | (refine wpList_load_if (by rfl) 23 _ rfl (g2) 0 rfl VE _ hr0 Try.underlying23 rfl HIE.out ?_) | (refine wpList_load_if (by rfl) 23 _ rfl (w.heap.size + 1) 0 rfl VE _ hr1 Try.underlying23 rfl HIE.out ?_))
          go_ret
          exact ⟨rfl, HK10.out.2.1⟩
    · have c16 := HK6.out.tl.tl.tl.hd.at HV16.out
      have k1 : (64 : Int).tdiv 8 = 8 := by decide
      have HN : Hid (b8 (bgn x 13 16) = VE) := Lib.hid HO1.out
      clear hok HO1
      go_upto_region 10 with (fail)
      clear c16 k1
      go_wp2_with fail
      have HX0 : Hid (b8 (bgn x 13 13) = VX) := Lib.hid (by rw [bgn_start]; exact HVX.out)
      go_loopw [10] (fun i wr => ∃ k : Nat, 13 ≤ k ∧ k ≤ 16 ∧ i = .int .i64 k ∧ Kp w w.heap.size ((w.heap.size + 1, 23, b8 (bgn x 13 k)) :: [(g2, 23, VE), (g1, 31, VD), (w.heap.size, 26, V)]) wr) (fun i _ => 16 - (intOf i).toNat)
      case atStart => exact ⟨13, by omega, by omega, rfl, by rw [HX0.out]; exact HK6.out⟩
      case round =>
        obtain ⟨k, hNk, hk, rfl, hK⟩ := hrel
        have HKr := Lib.hid hK
        clear hK HK6 HX0
        by_cases hlt : k < 16
        · have i16 : ((k : Nat) : Int) < 16 := by omega
          have cc := HKr.out.hd.at (i := k) (b8_at _ k (by rw [bgn_len x 13 k hNk (by have := HXl.out; omega)]; have := HXl.out; omega))
          have cz := HKr.out.hd.z k
          have hb2 := HKr.out.set8 HNE.out (by omega) k 0
          rw [bgn_next x 13 k hNk (by have := HXl.out; omega)] at hb2
          have HB2 := Lib.hid hb2
          clear hb2
          generalize (bgn x 13 k).getD k 0 = d at *
          go_wp2_with fail
          go_roundw
          case rel => exact ⟨k + 1, by omega, by omega, by go_num, HB2.out⟩
          case measure => simp [intOf]; omega
        · obtain rfl : k = 16 := by omega
          have hK9 := HKr.out
          rw [HN.out] at hK9
          have HK9 := Lib.hid hK9
          clear hK9 HKr HN
          have hr0 := HK9.out.tl.tl.tl.hd.range
          have hr1 := HK9.out.hd.range
          go_wp2_with (first | (refine wpList_load_if (by rfl) 26 _ rfl (w.heap.size) 0 rfl V _ hr0 Try.underlying26 rfl HIP.out ?_) | (refine wpList_load_if (by rfl) 23 _ rfl (w.heap.size + 1) 0 rfl VE _ hr1 Try.underlying23 rfl HIE.out ?_))
          clear hr0 hr1
          refine (HO2.out _).mono ?_
          rintro e w10 ⟨rfl, bb⟩
          have HK10 := Lib.hid (HK9.out.below bb (Nat.le_refl _))
          clear bb HK9
          have hr0 := HK10.out.tl.hd.range
          have hr1 := HK10.out.hd.range
          go_wp2_with (first | (refine wpList_load_if (by rfl) 23 _ rfl (g2) 0 rfl VE _ hr0 Try.underlying23 rfl HIE.out ?_) | (refine wpList_load_if (by rfl) 23 _ rfl (w.heap.size + 1) 0 rfl VE _ hr1 Try.underlying23 rfl HIE.out ?_))
          go_ret
          exact ⟨rfl, HK10.out.2.1⟩
    · have c16 := HK6.out.tl.tl.tl.hd.at HV16.out
      have k1 : (96 : Int).tdiv 8 = 12 := by decide
      have HN : Hid (b8 (bgn x 16 16) = VE) := Lib.hid HO1.out
      clear hok HO1
      go_upto_region 10 with (fail)
      clear c16 k1
      go_wp2_with fail
      have HX0 : Hid (b8 (bgn x 16 16) = VX) := Lib.hid (by rw [bgn_start]; exact HVX.out)
      go_loopw [10] (fun i wr => ∃ k : Nat, 16 ≤ k ∧ k ≤ 16 ∧ i = .int .i64 k ∧ Kp w w.heap.size ((w.heap.size + 1, 23, b8 (bgn x 16 k)) :: [(g2, 23, VE), (g1, 31, VD), (w.heap.size, 26, V)]) wr) (fun i _ => 16 - (intOf i).toNat)
      case atStart => exact ⟨16, by omega, by omega, rfl, by rw [HX0.out]; exact HK6.out⟩
      case round =>
        obtain ⟨k, hNk, hk, rfl, hK⟩ := hrel
        have HKr := Lib.hid hK
        clear hK HK6 HX0
        by_cases hlt : k < 16
        · exact absurd hlt (by omega)
        · obtain rfl : k = 16 := by omega
          have hK9 := HKr.out
          rw [HN.out] at hK9
          have HK9 := Lib.hid hK9
          clear hK9 HKr HN
          have hr0 := HK9.out.tl.tl.tl.hd.range
          have hr1 := HK9.out.hd.range
          go_wp2_with (first | (refine wpList_load_if (by rfl) 26 _ rfl (w.heap.size) 0 rfl V _ hr0 Try.underlying26 rfl HIP.out ?_) | (refine wpList_load_if (by rfl) 23 _ rfl (w.heap.size + 1) 0 rfl VE _ hr1 Try.underlying23 rfl HIE.out ?_))
          clear hr0 hr1
          refine (HO2.out _).mono ?_
          rintro e w10 ⟨rfl, bb⟩
          have HK10 := Lib.hid (HK9.out.below bb (Nat.le_refl _))
          clear bb HK9
          have hr0 := HK10.out.tl.hd.range
          have hr1 := HK10.out.hd.range
          go_wp2_with (first | (refine wpList_load_if (by rfl) 23 _ rfl (g2) 0 rfl VE _ hr0 Try.underlying23 rfl HIE.out ?_) | (refine wpList_load_if (by rfl) 23 _ rfl (w.heap.size + 1) 0 rfl VE _ hr1 Try.underlying23 rfl HIE.out ?_))
          go_ret
          exact ⟨rfl, HK10.out.2.1⟩
end Go.Proofs.Ytpjcanejenmldaa
