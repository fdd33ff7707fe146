/-
  Proved here: the law EmbedApart answers true.
  Conditions: addresses of 16 bytes.
-/
import Derived.Test.YtpjcanejenmldaaAwake
import Derived.Test.YtpjcanejenmldaaFacts
import Derived.Test.YtpjcanejenmldaaBack
namespace Go.Proofs.Ytpjcanejenmldaa
open Go.RowKit

/-- What the law's last part rests on, for the prefix that stands first by then and the one behind it. -/
structure Ap (p q : Nt) (x : List Int) : Prop where
  p16 : p.ad.length = 16
  q16 : q.ad.length = 16
  x16 : x.length = 16
  le : p.ln ≤ q.ln
theorem Ap.inq {p q : Nt} {x : List Int} (h : Ap p q x) (h1 : p.inside x = true) (h2 : q.inside x = true) : p.inside q.ad = true := apart h1 h2 h.le
theorem Ap.same {p q : Nt} {x : List Int} (h : Ap p q x) (h1 : p.inside x = true) (h2 : q.inside x = true) (hl : p.ln = q.ln) (W : World) : (binOp .neq 26 (.agg p.vals.toArray) (.agg q.vals.toArray)).run Try.prog W = .ok (.bool false) W := by
  rw [neqN p q h.p16 h.q16 W, same_pre h.p16 h.q16 h1 h2 hl, hl, beq_self_eq_true, beq_self_eq_true]
  rfl
theorem takes_not {p : Nt} {x : List Int} (h : p.inside x = false) : p.takes x = false := by unfold Nt.takes; rw [h]; rfl
set_option maxRecDepth 100000 in
set_option maxHeartbeats 4000000 in
theorem embedApart_any (p q : Nt) (x : List Int) (w : World) (hp : p.ad.length = 16) (hq : q.ad.length = 16) (hx : x.length = 16) :
    Calls Try.prog 8 #[.agg p.vals.toArray, .agg q.vals.toArray, .agg (b8 x).toArray] w fun e w' => e = .returned (.bool true) ∧ Below w.heap.size w w' := by
  have HA := Lib.hid awake_true
  have C1 := Lib.hid (fun W => inside_any p x hp hx W)
  have C2 := Lib.hid (fun W => inside_any q x hq hx W)
  have CE := Lib.hid (fun (p : Nt) (h : p.ad.length = 16) W => extract_any p x h hx W)
  have CR := Lib.hid (fun (p : Nt) (h : p.ad.length = 16) W => right_any p h W)
  have CI := Lib.hid (fun (p q : Nt) (h : p.ad.length = 16) (h' : q.ad.length = 16) W => inside_any p q.ad h h' W)
  have HAP := Lib.hid (show p.ln ≤ q.ln → Ap p q x from fun h => ⟨hp, hq, hx, h⟩)
  have HAQ := Lib.hid (show q.ln ≤ p.ln → Ap q p x from fun h => ⟨hq, hp, hx, h⟩)
  have HPv := Lib.hid (nf_of p hp)
  have HQv := Lib.hid (nf_of q hq)
  have HIP := Lib.hid (Try.infoNet p hp)
  have HIQ := Lib.hid (Try.infoNet q hq)
  have HIX := Lib.hid (Try.infoSix x hx)
  have HNP := Lib.hid (nvals_one p)
  have HNQ := Lib.hid (nvals_one q)
  have HLV : Hid (p.vals.length = 17) := Lib.hid (nvals_len p hp)
  have HLU : Hid (q.vals.length = 17) := Lib.hid (nvals_len q hq)
  have HIP8 := Lib.hid (Try.infoSix p.ad hp)
  have HIQ8 := Lib.hid (Try.infoSix q.ad hq)
  have HK1 := Lib.hid (kp3 w 26 26 23 p.vals q.vals (b8 x))
  generalize hVX : b8 x = VX at C1 C2 CE HIX HK1 ⊢
  generalize hV : p.vals = V at C1 HPv HIP HNP HLV HK1 ⊢
  generalize hU : q.vals = U at C2 HQv HIQ HNQ HLU HK1 ⊢
  have HV := Lib.hid hV
  have HU := Lib.hid hU
  have Hp := Lib.hid hp
  have Hq := Lib.hid hq
  clear hVX hV hU hp hq hx
  generalize hw1 : ((w.alloc (.cells V.toArray 26)).alloc (.cells U.toArray 26)).alloc (.cells VX.toArray 23) = w1 at *
  go_enter Try.func8, Try.ntmps8
  go_upto_region 1 with (fail)
  clear hw1
  go_wp2_with (fail)
  refine (HA.out _).mono ?_
  rintro e w2 ⟨rfl, bb⟩
  have HK2 := Lib.hid (HK1.out.below bb (Nat.le_refl _))
  clear bb HK1
  go_upto_region 3 with (fail)
  have KR : ∀ W : World, Kp w w.heap.size [(w.heap.size + 1 + 1, 23, VX), (w.heap.size + 1, 26, U), (w.heap.size, 26, V)] W → (fun w' => Kp w w.heap.size [(w.heap.size + 1 + 1, 23, VX), (w.heap.size + 1, 26, U), (w.heap.size, 26, V)] w' ∧ w'.rangeAt (w.heap.size) 0 V ∧ w'.rangeAt (w.heap.size + 1) 0 U ∧ w'.rangeAt (w.heap.size + 1 + 1) 0 VX) W := fun W k => ⟨k, k.tl.tl.hd.range, k.tl.hd.range, k.hd.range⟩
  have HKR := Lib.hid KR
  clear KR
  refine wp_region_noPanic ?_
  refine wp_region_held_drew (S := fun w' => Kp w w.heap.size [(w.heap.size + 1 + 1, 23, VX), (w.heap.size + 1, 26, U), (w.heap.size, 26, V)] w' ∧ w'.rangeAt (w.heap.size) 0 V ∧ w'.rangeAt (w.heap.size + 1) 0 U ∧ w'.rangeAt (w.heap.size + 1 + 1) 0 VX) (by kernel_rfl) (HKR.out _ HK2.out.drew) (fun hHeld => ?_)
  refine wpAnyH_take (i := 0) (oi := { dst := some 15, op := Op.load 26 (Operand.tmp 3), type := 26, pos := "more.go:13", after := #[], guard := none }) (v := .agg (V).toArray) rfl (by kernel_rfl) (by kernel_rfl) (by kernel_rfl) (fun _ _ _ h => h) (yieldsIf_load_mid (by rfl) _ _ rfl (w.heap.size) 0 rfl (V) _ (fun ww hSw => hSw.2.1) Try.underlying26 rfl HIP.out) (by assumption) ?_
  (try simp only [Act.put, List.setIfInBounds_toArray, List.set_cons_zero, List.set_cons_succ])
  refine wpAnyH_take (i := 1) (oi := { dst := some 16, op := Op.load 23 (Operand.tmp 5), type := 23, pos := "more.go:13", after := #[], guard := none }) (v := .agg (VX).toArray) rfl (by kernel_rfl) (by kernel_rfl) (by kernel_rfl) (fun _ _ _ h => h) (yieldsIf_load_mid (by rfl) _ _ rfl (w.heap.size + 1 + 1) 0 rfl (VX) _ (fun ww hSw => hSw.2.2.2) Try.underlying23 rfl HIX.out) (by assumption) ?_
  (try simp only [Act.put, List.setIfInBounds_toArray, List.set_cons_zero, List.set_cons_succ])
  refine wpAnyH_take (i := 3) (oi := { dst := some 18, op := Op.load 26 (Operand.tmp 4), type := 26, pos := "more.go:13", after := #[], guard := none }) (v := .agg (U).toArray) rfl (by kernel_rfl) (by kernel_rfl) (by kernel_rfl) (fun _ _ _ h => h) (yieldsIf_load_mid (by rfl) _ _ rfl (w.heap.size + 1) 0 rfl (U) _ (fun ww hSw => hSw.2.2.1) Try.underlying26 rfl HIQ.out) (by assumption) ?_
  (try simp only [Act.put, List.setIfInBounds_toArray, List.set_cons_zero, List.set_cons_succ])
  refine wpAnyH_take (i := 4) (oi := { dst := some 19, op := Op.load 23 (Operand.tmp 5), type := 23, pos := "more.go:13", after := #[], guard := none }) (v := .agg (VX).toArray) rfl (by kernel_rfl) (by kernel_rfl) (by kernel_rfl) (fun _ _ _ h => h) (yieldsIf_load_mid (by rfl) _ _ rfl (w.heap.size + 1 + 1) 0 rfl (VX) _ (fun ww hSw => hSw.2.2.2) Try.underlying23 rfl HIX.out) (by assumption) ?_
  (try simp only [Act.put, List.setIfInBounds_toArray, List.set_cons_zero, List.set_cons_succ])
  refine wpAnyH_ready (rs := [2]) (by kernel_rfl) (by simp) ?_
  refine AllReadyH.cons (o := { dst := some 17, op := Op.call { callee := Callee.value (Operand.func 19), args := #[Operand.tmp 15, Operand.tmp 16], argTypes := #[26, 23] }, type := 4, pos := "more.go:13", after := #[{ on := 0, ground := Ground.data }, { on := 1, ground := Ground.data }], guard := none }) rfl (fun K hK => ?_) AllReadyH.nil
  go_simp
  ((with_reducible refine (C1.out _).mono ?_); rintro e w9 ⟨rfl, hb9⟩)
  refine hK.out _ _ (HKR.out _ ((And.left hHeld).below hb9 (Nat.le_refl _))) (fun hHeld => ?_)
  clear hK K
  (try simp only [Act.put, List.setIfInBounds_toArray, List.set_cons_zero, List.set_cons_succ])
  refine wpAnyH_ready (rs := [5]) (by kernel_rfl) (by simp) ?_
  refine AllReadyH.cons (o := { dst := some 20, op := Op.call { callee := Callee.value (Operand.func 19), args := #[Operand.tmp 18, Operand.tmp 19], argTypes := #[26, 23] }, type := 4, pos := "more.go:13", after := #[{ on := 3, ground := Ground.data }, { on := 4, ground := Ground.data }, { on := 2, ground := Ground.chain }], guard := none }) rfl (fun K hK => ?_) AllReadyH.nil
  go_simp
  ((with_reducible refine (C2.out _).mono ?_); rintro e wR ⟨rfl, hb9⟩)
  refine hK.out _ _ (HKR.out _ ((And.left hHeld).below hb9 (Nat.le_refl _))) (fun hHeld => ?_)
  clear hK K
  (try simp only [Act.put, List.setIfInBounds_toArray, List.set_cons_zero, List.set_cons_succ])
  refine wpAnyH_take (i := 6) (oi := { dst := some 7, op := Op.assign (Operand.tmp 17), type := 4, pos := "more.go:13", after := #[{ on := 2, ground := Ground.data }, { on := 5, ground := Ground.chain }, { on := 0, ground := Ground.phase }, { on := 1, ground := Ground.phase }, { on := 2, ground := Ground.phase }, { on := 3, ground := Ground.textOnly Departure.lateStores }, { on := 4, ground := Ground.textOnly Departure.lateStores }, { on := 5, ground := Ground.textOnly Departure.lateStoresUnsure }], guard := none }) (v := ?_) rfl (by kernel_rfl) (by kernel_rfl) (by kernel_rfl) (fun _ _ _ h => h) (Or.inl ⟨by rfl, ?_⟩) (by assumption) ?_
  rotate_left
  · (intro ww hSw; (try dsimp only at hSw); go_simp; try with_reducible rfl)
  (try simp only [Act.put, List.setIfInBounds_toArray, List.set_cons_zero, List.set_cons_succ])
  refine wpAnyH_take (i := 7) (oi := { dst := some 8, op := Op.assign (Operand.tmp 20), type := 4, pos := "more.go:13", after := #[{ on := 5, ground := Ground.data }, { on := 6, ground := Ground.chain }, { on := 0, ground := Ground.phase }, { on := 1, ground := Ground.phase }, { on := 2, ground := Ground.phase }, { on := 3, ground := Ground.phase }, { on := 4, ground := Ground.phase }, { on := 5, ground := Ground.phase }, { on := 6, ground := Ground.phase }], guard := none }) (v := ?_) rfl (by kernel_rfl) (by kernel_rfl) (by kernel_rfl) (fun _ _ _ h => h) (Or.inl ⟨by rfl, ?_⟩) (by assumption) ?_
  rotate_left
  · (intro ww hSw; (try dsimp only at hSw); go_simp; try with_reducible rfl)
  (try simp only [Act.put, List.setIfInBounds_toArray, List.set_cons_zero, List.set_cons_succ])
  refine wpAnyH_done (by kernel_rfl) ?_ _
  refine NoPanic.normal ?_
  have HK3 := Lib.hid (And.left hHeld)
  clear hHeld HKR HK2 C1 C2
  generalize wR = w3 at *
  have cp := (net_s HPv.out HK3.out.tl.tl.hd).2.2
  have cq := (net_s HQv.out HK3.out.tl.hd).2.2
  generalize hap : p.inside x = ap at *
  generalize haq : q.inside x = aq at *
  have Hap := Lib.hid hap
  have Haq := Lib.hid haq
  clear hap haq
  by_cases hgt : q.ln < p.ln
  · have HAP1 := Lib.hid (HAQ.out (by omega))
    have d1 := decide_eq_true hgt
    clear HAP HAQ
    have hr0 := HK3.out.tl.hd.range
    have hr1 := HK3.out.tl.tl.hd.range
    have ht0 := HK3.out.tl.tl.hd.there U.toArray.size (by have := HLV.out; have := HLU.out; simp; omega)
    have ht1 : (w3.setCells w.heap.size 0 U).there (w.heap.size + 1) 0 V.toArray.size := (HK3.out.tl.hd.sets_other (by omega) 0 U).there _ (by have := HLV.out; have := HLU.out; simp; omega)
    go_upto_region 7 with (first | (refine wpList_load_mid rfl 26 _ rfl (w.heap.size + 1) 0 rfl U _ hr0 Try.underlying26 rfl HIQ.out ?_) | (refine wpList_load_mid rfl 26 _ rfl (w.heap.size) 0 rfl V _ hr1 Try.underlying26 rfl HIP.out ?_) | (refine wpList_store_mid rfl 26 _ _ rfl w.heap.size 0 U.toArray rfl rfl ht0 (by simpa using HIQ.out) HNQ.out ?_) | (refine wpList_store_mid rfl 26 _ _ rfl (w.heap.size + 1) 0 V.toArray rfl rfl ht1 (by simpa using HIP.out) HNP.out ?_))
    clear hr0 hr1 ht0 ht1 cp cq d1 hgt
    have hk0 : Kp w w.heap.size [(w.heap.size, 26, V), (w.heap.size + 1, 26, U), (w.heap.size + 1 + 1, 23, VX)] w3 := HK3.out.sub (by intro y hy; simp only [List.mem_cons, List.not_mem_nil, or_false] at hy; rcases hy with rfl | rfl | rfl <;> simp)
    have hk1 := hk0.over (by intro y hy; simp only [List.mem_cons, List.not_mem_nil, or_false] at hy; rcases hy with rfl | rfl <;> (dsimp only; omega)) (Nat.le_refl _) U (by have := HLV.out; have := HLU.out; omega)
    have hk2 : Kp w w.heap.size [(w.heap.size + 1, 26, U), (w.heap.size, 26, U), (w.heap.size + 1 + 1, 23, VX)] (w3.setCells w.heap.size 0 U) := hk1.sub (by intro y hy; simp only [List.mem_cons, List.not_mem_nil, or_false] at hy; rcases hy with rfl | rfl | rfl <;> simp)
    have hk3 := hk2.over (by intro y hy; simp only [List.mem_cons, List.not_mem_nil, or_false] at hy; rcases hy with rfl | rfl <;> (dsimp only; omega)) (by omega) V (by have := HLV.out; have := HLU.out; omega)
    have HK4 : Hid (Kp w w.heap.size [(w.heap.size + 1 + 1, 23, VX), (w.heap.size + 1, 26, V), (w.heap.size, 26, U)] ((w3.setCells w.heap.size 0 U).setCells (w.heap.size + 1) 0 V)) := Lib.hid (hk3.sub (by intro y hy; simp only [List.mem_cons, List.not_mem_nil, or_false] at hy; rcases hy with rfl | rfl | rfl <;> simp))
    clear hk0 hk1 hk2 hk3 HK3
    generalize (w3.setCells w.heap.size 0 U).setCells (w.heap.size + 1) 0 V = w4 at *
    have CE1 := Lib.hid (CE.out q Hq.out)
    have CE2 := Lib.hid (CE.out p Hp.out)
    have CR1 := Lib.hid (CR.out q Hq.out)
    have CI1 := Lib.hid (CI.out q p Hq.out Hp.out)
    have CI2 := Lib.hid (CI.out q q Hq.out Hq.out)
    rw [HU.out] at CE1 CR1 CI1 CI2
    rw [HV.out] at CE2
    have HLD1 : Hid ((b8 (q.ext x)).length = 4) := Lib.hid ((b8_len _).trans (ext_len q x))
    have HLD2 : Hid ((b8 (p.ext x)).length = 4) := Lib.hid ((b8_len _).trans (ext_len p x))
    have HID1 := Lib.hid (Try.infoFour _ (ext_len q x))
    have HID2 := Lib.hid (Try.infoFour _ (ext_len p x))
    have HOD1 := Lib.hid (b8_one (q.ext x))
    have HOD2 := Lib.hid (b8_one (p.ext x))
    have HT1 := Lib.hid (show q.inside x = false → q.takes x = false from takes_not)
    have HT2 := Lib.hid (show p.inside x = false → p.takes x = false from takes_not)
    have HIS := Lib.hid (show q.right = true → q.inside q.ad = true from in_self)
    have HIR := Lib.hid (show q.inside x = true → q.right = true from in_right)
    have HSM := Lib.hid (fun h1 h2 h3 W => HAP1.out.same h1 h2 h3 W)
    have HIN := Lib.hid (fun h1 h2 => HAP1.out.inq h1 h2)
    rw [HU.out, HV.out] at HSM
    rw [Haq.out] at HSM HIN HT1 HIR
    rw [Hap.out] at HSM HIN HT2
    clear HAP1 CE CR CI HV HU Hp Hq Hap Haq
    generalize b8 (q.ext x) = VD1 at *
    generalize b8 (p.ext x) = VD2 at *
    generalize q.takes x = k1 at *
    generalize p.takes x = k2 at *
    generalize q.right = r1 at *
    generalize q.inside p.ad = s1 at *
    generalize q.inside q.ad = s2 at *
    generalize q.ln = L1 at *
    generalize p.ln = L2 at *
    generalize b8 q.ad = Y1 at *
    generalize b8 p.ad = Y2 at *
    cases aq
    · cases ap
      · cases r1
        · go_upto_region 11 with (fail)
          have hr0 := HK4.out.tl.tl.hd.range
          have hr1 := HK4.out.hd.range
          go_wp2_with (first | (refine wpList_load_mid rfl 26 _ rfl (w.heap.size) 0 rfl U _ hr0 Try.underlying26 rfl HIQ.out ?_) | (refine wpList_load_mid rfl 23 _ rfl (w.heap.size + 1 + 1) 0 rfl VX _ hr1 Try.underlying23 rfl HIX.out ?_))
          clear hr0 hr1
          refine (CE1.out _).mono ?_
          rintro e w5 ⟨rfl, bb⟩
          have HK5 := Lib.hid (HK4.out.below bb (Nat.le_refl _))
          clear bb HK4
          have ht := (bk_new w5 31 ([.int .u8 0, .int .u8 0, .int .u8 0, .int .u8 0] : List Value).toArray).there VD1.toArray.size (by have := HLD1.out; simp; omega)
          go_upto_region 12 with ((refine wpList_store_mid rfl 31 _ _ rfl w5.heap.size 0 VD1.toArray rfl rfl ht (by simpa using HID1.out) HOD1.out ?_))
          have HK6 := Lib.hid (HK5.out.put 31 ([.int .u8 0, .int .u8 0, .int .u8 0, .int .u8 0] : List Value).toArray VD1 (by have := HLD1.out; simp; omega))
          have HGg1 := Lib.hid HK5.out.ne
          have HBg1 := Lib.hid HK5.out.2.2
          clear ht HK5
          generalize (w5.alloc (.cells ([.int .u8 0, .int .u8 0, .int .u8 0, .int .u8 0] : List Value).toArray 31)).setCells w5.heap.size 0 VD1 = w6 at *
          generalize w5.heap.size = g1 at *
          have hr0 := HK6.out.tl.tl.hd.range
          have hr1 := HK6.out.tl.hd.range
          go_wp2_with (first | (refine wpList_load_mid rfl 26 _ rfl (w.heap.size + 1) 0 rfl V _ hr0 Try.underlying26 rfl HIP.out ?_) | (refine wpList_load_mid rfl 23 _ rfl (w.heap.size + 1 + 1) 0 rfl VX _ hr1 Try.underlying23 rfl HIX.out ?_))
          clear hr0 hr1
          refine (CE2.out _).mono ?_
          rintro e w7 ⟨rfl, bb⟩
          have HK7 := Lib.hid (HK6.out.below bb (Nat.le_refl _))
          clear bb HK6
          have ht := (bk_new w7 31 ([.int .u8 0, .int .u8 0, .int .u8 0, .int .u8 0] : List Value).toArray).there VD2.toArray.size (by have := HLD2.out; simp; omega)
          go_upto_region 13 with ((refine wpList_store_mid rfl 31 _ _ rfl w7.heap.size 0 VD2.toArray rfl rfl ht (by simpa using HID2.out) HOD2.out ?_))
          have HK8 := Lib.hid (HK7.out.put 31 ([.int .u8 0, .int .u8 0, .int .u8 0, .int .u8 0] : List Value).toArray VD2 (by have := HLD2.out; simp; omega))
          have HGg2 := Lib.hid HK7.out.ne
          have HBg2 := Lib.hid HK7.out.2.2
          clear ht HK7
          generalize (w7.alloc (.cells ([.int .u8 0, .int .u8 0, .int .u8 0, .int .u8 0] : List Value).toArray 31)).setCells w7.heap.size 0 VD2 = w8 at *
          generalize w7.heap.size = g2 at *
          have f1 := HT1.out (by first | rfl | trivial)
          subst f1
          have f2 := HT2.out (by first | rfl | trivial)
          subst f2
          have hr0 := HK8.out.tl.tl.tl.tl.hd.range
          go_wp2_with ((refine wpList_load_if (by rfl) 26 _ rfl (w.heap.size) 0 rfl U _ hr0 Try.underlying26 rfl HIQ.out ?_))
          clear hr0
          refine (CR1.out _).mono ?_
          rintro e w9 ⟨rfl, bb⟩
          have HK9 := Lib.hid (HK8.out.below bb (Nat.le_refl _))
          clear bb HK8
          go_wp2_with fail
          go_ret
          exact ⟨rfl, HK9.out.2.1⟩
        · go_upto_region 11 with (fail)
          have hr0 := HK4.out.tl.tl.hd.range
          have hr1 := HK4.out.hd.range
          go_wp2_with (first | (refine wpList_load_mid rfl 26 _ rfl (w.heap.size) 0 rfl U _ hr0 Try.underlying26 rfl HIQ.out ?_) | (refine wpList_load_mid rfl 23 _ rfl (w.heap.size + 1 + 1) 0 rfl VX _ hr1 Try.underlying23 rfl HIX.out ?_))
          clear hr0 hr1
          refine (CE1.out _).mono ?_
          rintro e w5 ⟨rfl, bb⟩
          have HK5 := Lib.hid (HK4.out.below bb (Nat.le_refl _))
          clear bb HK4
          have ht := (bk_new w5 31 ([.int .u8 0, .int .u8 0, .int .u8 0, .int .u8 0] : List Value).toArray).there VD1.toArray.size (by have := HLD1.out; simp; omega)
          go_upto_region 12 with ((refine wpList_store_mid rfl 31 _ _ rfl w5.heap.size 0 VD1.toArray rfl rfl ht (by simpa using HID1.out) HOD1.out ?_))
          have HK6 := Lib.hid (HK5.out.put 31 ([.int .u8 0, .int .u8 0, .int .u8 0, .int .u8 0] : List Value).toArray VD1 (by have := HLD1.out; simp; omega))
          have HGg1 := Lib.hid HK5.out.ne
          have HBg1 := Lib.hid HK5.out.2.2
          clear ht HK5
          generalize (w5.alloc (.cells ([.int .u8 0, .int .u8 0, .int .u8 0, .int .u8 0] : List Value).toArray 31)).setCells w5.heap.size 0 VD1 = w6 at *
          generalize w5.heap.size = g1 at *
          have hr0 := HK6.out.tl.tl.hd.range
          have hr1 := HK6.out.tl.hd.range
          go_wp2_with (first | (refine wpList_load_mid rfl 26 _ rfl (w.heap.size + 1) 0 rfl V _ hr0 Try.underlying26 rfl HIP.out ?_) | (refine wpList_load_mid rfl 23 _ rfl (w.heap.size + 1 + 1) 0 rfl VX _ hr1 Try.underlying23 rfl HIX.out ?_))
          clear hr0 hr1
          refine (CE2.out _).mono ?_
          rintro e w7 ⟨rfl, bb⟩
          have HK7 := Lib.hid (HK6.out.below bb (Nat.le_refl _))
          clear bb HK6
          have ht := (bk_new w7 31 ([.int .u8 0, .int .u8 0, .int .u8 0, .int .u8 0] : List Value).toArray).there VD2.toArray.size (by have := HLD2.out; simp; omega)
          go_upto_region 13 with ((refine wpList_store_mid rfl 31 _ _ rfl w7.heap.size 0 VD2.toArray rfl rfl ht (by simpa using HID2.out) HOD2.out ?_))
          have HK8 := Lib.hid (HK7.out.put 31 ([.int .u8 0, .int .u8 0, .int .u8 0, .int .u8 0] : List Value).toArray VD2 (by have := HLD2.out; simp; omega))
          have HGg2 := Lib.hid HK7.out.ne
          have HBg2 := Lib.hid HK7.out.2.2
          clear ht HK7
          generalize (w7.alloc (.cells ([.int .u8 0, .int .u8 0, .int .u8 0, .int .u8 0] : List Value).toArray 31)).setCells w7.heap.size 0 VD2 = w8 at *
          generalize w7.heap.size = g2 at *
          have f1 := HT1.out (by first | rfl | trivial)
          subst f1
          have f2 := HT2.out (by first | rfl | trivial)
          subst f2
          have hr0 := HK8.out.tl.tl.tl.tl.hd.range
          go_wp2_with ((refine wpList_load_if (by rfl) 26 _ rfl (w.heap.size) 0 rfl U _ hr0 Try.underlying26 rfl HIQ.out ?_))
          clear hr0
          refine (CR1.out _).mono ?_
          rintro e w9 ⟨rfl, bb⟩
          have HK9 := Lib.hid (HK8.out.below bb (Nat.le_refl _))
          clear bb HK8
          have f3 := HIS.out (by first | rfl | trivial)
          subst f3
          have hr0 := HK9.out.tl.tl.tl.tl.hd.range
          have hrY := (net_s HQv.out HK9.out.tl.tl.tl.tl.hd).1
          go_wp2_with (first | (refine wpList_load_if (by rfl) 26 _ rfl (w.heap.size) 0 rfl U _ hr0 Try.underlying26 rfl HIQ.out ?_) | (refine wpList_load_if (by rfl) 23 _ rfl w.heap.size 0 rfl Y1 _ hrY Try.underlying23 rfl HIQ8.out ?_))
          clear hr0 hrY
          refine (CI2.out _).mono ?_
          rintro e w10 ⟨rfl, bb⟩
          have HK10 := Lib.hid (HK9.out.below bb (Nat.le_refl _))
          clear bb HK9
          go_wp2_with fail
          go_ret
          exact ⟨rfl, HK10.out.2.1⟩
      · cases r1
        · go_upto_region 11 with (fail)
          have hr0 := HK4.out.tl.tl.hd.range
          have hr1 := HK4.out.hd.range
          go_wp2_with (first | (refine wpList_load_mid rfl 26 _ rfl (w.heap.size) 0 rfl U _ hr0 Try.underlying26 rfl HIQ.out ?_) | (refine wpList_load_mid rfl 23 _ rfl (w.heap.size + 1 + 1) 0 rfl VX _ hr1 Try.underlying23 rfl HIX.out ?_))
          clear hr0 hr1
          refine (CE1.out _).mono ?_
          rintro e w5 ⟨rfl, bb⟩
          have HK5 := Lib.hid (HK4.out.below bb (Nat.le_refl _))
          clear bb HK4
          have ht := (bk_new w5 31 ([.int .u8 0, .int .u8 0, .int .u8 0, .int .u8 0] : List Value).toArray).there VD1.toArray.size (by have := HLD1.out; simp; omega)
          go_upto_region 12 with ((refine wpList_store_mid rfl 31 _ _ rfl w5.heap.size 0 VD1.toArray rfl rfl ht (by simpa using HID1.out) HOD1.out ?_))
          have HK6 := Lib.hid (HK5.out.put 31 ([.int .u8 0, .int .u8 0, .int .u8 0, .int .u8 0] : List Value).toArray VD1 (by have := HLD1.out; simp; omega))
          have HGg1 := Lib.hid HK5.out.ne
          have HBg1 := Lib.hid HK5.out.2.2
          clear ht HK5
          generalize (w5.alloc (.cells ([.int .u8 0, .int .u8 0, .int .u8 0, .int .u8 0] : List Value).toArray 31)).setCells w5.heap.size 0 VD1 = w6 at *
          generalize w5.heap.size = g1 at *
          have hr0 := HK6.out.tl.tl.hd.range
          have hr1 := HK6.out.tl.hd.range
          go_wp2_with (first | (refine wpList_load_mid rfl 26 _ rfl (w.heap.size + 1) 0 rfl V _ hr0 Try.underlying26 rfl HIP.out ?_) | (refine wpList_load_mid rfl 23 _ rfl (w.heap.size + 1 + 1) 0 rfl VX _ hr1 Try.underlying23 rfl HIX.out ?_))
          clear hr0 hr1
          refine (CE2.out _).mono ?_
          rintro e w7 ⟨rfl, bb⟩
          have HK7 := Lib.hid (HK6.out.below bb (Nat.le_refl _))
          clear bb HK6
          have ht := (bk_new w7 31 ([.int .u8 0, .int .u8 0, .int .u8 0, .int .u8 0] : List Value).toArray).there VD2.toArray.size (by have := HLD2.out; simp; omega)
          go_upto_region 13 with ((refine wpList_store_mid rfl 31 _ _ rfl w7.heap.size 0 VD2.toArray rfl rfl ht (by simpa using HID2.out) HOD2.out ?_))
          have HK8 := Lib.hid (HK7.out.put 31 ([.int .u8 0, .int .u8 0, .int .u8 0, .int .u8 0] : List Value).toArray VD2 (by have := HLD2.out; simp; omega))
          have HGg2 := Lib.hid HK7.out.ne
          have HBg2 := Lib.hid HK7.out.2.2
          clear ht HK7
          generalize (w7.alloc (.cells ([.int .u8 0, .int .u8 0, .int .u8 0, .int .u8 0] : List Value).toArray 31)).setCells w7.heap.size 0 VD2 = w8 at *
          generalize w7.heap.size = g2 at *
          have f1 := HT1.out (by first | rfl | trivial)
          subst f1
          have hr0 := HK8.out.tl.tl.tl.tl.hd.range
          go_wp2_with ((refine wpList_load_if (by rfl) 26 _ rfl (w.heap.size) 0 rfl U _ hr0 Try.underlying26 rfl HIQ.out ?_))
          clear hr0
          refine (CR1.out _).mono ?_
          rintro e w9 ⟨rfl, bb⟩
          have HK9 := Lib.hid (HK8.out.below bb (Nat.le_refl _))
          clear bb HK8
          go_wp2_with fail
          go_ret
          exact ⟨rfl, HK9.out.2.1⟩
        · go_upto_region 11 with (fail)
          have hr0 := HK4.out.tl.tl.hd.range
          have hr1 := HK4.out.hd.range
          go_wp2_with (first | (refine wpList_load_mid rfl 26 _ rfl (w.heap.size) 0 rfl U _ hr0 Try.underlying26 rfl HIQ.out ?_) | (refine wpList_load_mid rfl 23 _ rfl (w.heap.size + 1 + 1) 0 rfl VX _ hr1 Try.underlying23 rfl HIX.out ?_))
          clear hr0 hr1
          refine (CE1.out _).mono ?_
          rintro e w5 ⟨rfl, bb⟩
          have HK5 := Lib.hid (HK4.out.below bb (Nat.le_refl _))
          clear bb HK4
          have ht := (bk_new w5 31 ([.int .u8 0, .int .u8 0, .int .u8 0, .int .u8 0] : List Value).toArray).there VD1.toArray.size (by have := HLD1.out; simp; omega)
          go_upto_region 12 with ((refine wpList_store_mid rfl 31 _ _ rfl w5.heap.size 0 VD1.toArray rfl rfl ht (by simpa using HID1.out) HOD1.out ?_))
          have HK6 := Lib.hid (HK5.out.put 31 ([.int .u8 0, .int .u8 0, .int .u8 0, .int .u8 0] : List Value).toArray VD1 (by have := HLD1.out; simp; omega))
          have HGg1 := Lib.hid HK5.out.ne
          have HBg1 := Lib.hid HK5.out.2.2
          clear ht HK5
          generalize (w5.alloc (.cells ([.int .u8 0, .int .u8 0, .int .u8 0, .int .u8 0] : List Value).toArray 31)).setCells w5.heap.size 0 VD1 = w6 at *
          generalize w5.heap.size = g1 at *
          have hr0 := HK6.out.tl.tl.hd.range
          have hr1 := HK6.out.tl.hd.range
          go_wp2_with (first | (refine wpList_load_mid rfl 26 _ rfl (w.heap.size + 1) 0 rfl V _ hr0 Try.underlying26 rfl HIP.out ?_) | (refine wpList_load_mid rfl 23 _ rfl (w.heap.size + 1 + 1) 0 rfl VX _ hr1 Try.underlying23 rfl HIX.out ?_))
          clear hr0 hr1
          refine (CE2.out _).mono ?_
          rintro e w7 ⟨rfl, bb⟩
          have HK7 := Lib.hid (HK6.out.below bb (Nat.le_refl _))
          clear bb HK6
          have ht := (bk_new w7 31 ([.int .u8 0, .int .u8 0, .int .u8 0, .int .u8 0] : List Value).toArray).there VD2.toArray.size (by have := HLD2.out; simp; omega)
          go_upto_region 13 with ((refine wpList_store_mid rfl 31 _ _ rfl w7.heap.size 0 VD2.toArray rfl rfl ht (by simpa using HID2.out) HOD2.out ?_))
          have HK8 := Lib.hid (HK7.out.put 31 ([.int .u8 0, .int .u8 0, .int .u8 0, .int .u8 0] : List Value).toArray VD2 (by have := HLD2.out; simp; omega))
          have HGg2 := Lib.hid HK7.out.ne
          have HBg2 := Lib.hid HK7.out.2.2
          clear ht HK7
          generalize (w7.alloc (.cells ([.int .u8 0, .int .u8 0, .int .u8 0, .int .u8 0] : List Value).toArray 31)).setCells w7.heap.size 0 VD2 = w8 at *
          generalize w7.heap.size = g2 at *
          have f1 := HT1.out (by first | rfl | trivial)
          subst f1
          have hr0 := HK8.out.tl.tl.tl.tl.hd.range
          go_wp2_with ((refine wpList_load_if (by rfl) 26 _ rfl (w.heap.size) 0 rfl U _ hr0 Try.underlying26 rfl HIQ.out ?_))
          clear hr0
          refine (CR1.out _).mono ?_
          rintro e w9 ⟨rfl, bb⟩
          have HK9 := Lib.hid (HK8.out.below bb (Nat.le_refl _))
          clear bb HK8
          have f3 := HIS.out (by first | rfl | trivial)
          subst f3
          have hr0 := HK9.out.tl.tl.tl.tl.hd.range
          have hrY := (net_s HQv.out HK9.out.tl.tl.tl.tl.hd).1
          go_wp2_with (first | (refine wpList_load_if (by rfl) 26 _ rfl (w.heap.size) 0 rfl U _ hr0 Try.underlying26 rfl HIQ.out ?_) | (refine wpList_load_if (by rfl) 23 _ rfl w.heap.size 0 rfl Y1 _ hrY Try.underlying23 rfl HIQ8.out ?_))
          clear hr0 hrY
          refine (CI2.out _).mono ?_
          rintro e w10 ⟨rfl, bb⟩
          have HK10 := Lib.hid (HK9.out.below bb (Nat.le_refl _))
          clear bb HK9
          go_wp2_with fail
          go_ret
          exact ⟨rfl, HK10.out.2.1⟩
    · cases ap
      · go_upto_region 11 with (fail)
        have hr0 := HK4.out.tl.tl.hd.range
        have hr1 := HK4.out.hd.range
        go_wp2_with (first | (refine wpList_load_mid rfl 26 _ rfl (w.heap.size) 0 rfl U _ hr0 Try.underlying26 rfl HIQ.out ?_) | (refine wpList_load_mid rfl 23 _ rfl (w.heap.size + 1 + 1) 0 rfl VX _ hr1 Try.underlying23 rfl HIX.out ?_))
        clear hr0 hr1
        refine (CE1.out _).mono ?_
        rintro e w5 ⟨rfl, bb⟩
        have HK5 := Lib.hid (HK4.out.below bb (Nat.le_refl _))
        clear bb HK4
        have ht := (bk_new w5 31 ([.int .u8 0, .int .u8 0, .int .u8 0, .int .u8 0] : List Value).toArray).there VD1.toArray.size (by have := HLD1.out; simp; omega)
        go_upto_region 12 with ((refine wpList_store_mid rfl 31 _ _ rfl w5.heap.size 0 VD1.toArray rfl rfl ht (by simpa using HID1.out) HOD1.out ?_))
        have HK6 := Lib.hid (HK5.out.put 31 ([.int .u8 0, .int .u8 0, .int .u8 0, .int .u8 0] : List Value).toArray VD1 (by have := HLD1.out; simp; omega))
        have HGg1 := Lib.hid HK5.out.ne
        have HBg1 := Lib.hid HK5.out.2.2
        clear ht HK5
        generalize (w5.alloc (.cells ([.int .u8 0, .int .u8 0, .int .u8 0, .int .u8 0] : List Value).toArray 31)).setCells w5.heap.size 0 VD1 = w6 at *
        generalize w5.heap.size = g1 at *
        have hr0 := HK6.out.tl.tl.hd.range
        have hr1 := HK6.out.tl.hd.range
        go_wp2_with (first | (refine wpList_load_mid rfl 26 _ rfl (w.heap.size + 1) 0 rfl V _ hr0 Try.underlying26 rfl HIP.out ?_) | (refine wpList_load_mid rfl 23 _ rfl (w.heap.size + 1 + 1) 0 rfl VX _ hr1 Try.underlying23 rfl HIX.out ?_))
        clear hr0 hr1
        refine (CE2.out _).mono ?_
        rintro e w7 ⟨rfl, bb⟩
        have HK7 := Lib.hid (HK6.out.below bb (Nat.le_refl _))
        clear bb HK6
        have ht := (bk_new w7 31 ([.int .u8 0, .int .u8 0, .int .u8 0, .int .u8 0] : List Value).toArray).there VD2.toArray.size (by have := HLD2.out; simp; omega)
        go_upto_region 13 with ((refine wpList_store_mid rfl 31 _ _ rfl w7.heap.size 0 VD2.toArray rfl rfl ht (by simpa using HID2.out) HOD2.out ?_))
        have HK8 := Lib.hid (HK7.out.put 31 ([.int .u8 0, .int .u8 0, .int .u8 0, .int .u8 0] : List Value).toArray VD2 (by have := HLD2.out; simp; omega))
        have HGg2 := Lib.hid HK7.out.ne
        have HBg2 := Lib.hid HK7.out.2.2
        clear ht HK7
        generalize (w7.alloc (.cells ([.int .u8 0, .int .u8 0, .int .u8 0, .int .u8 0] : List Value).toArray 31)).setCells w7.heap.size 0 VD2 = w8 at *
        generalize w7.heap.size = g2 at *
        have f1 := HIR.out (by first | rfl | trivial)
        subst f1
        have f2 := HT2.out (by first | rfl | trivial)
        subst f2
        have hr0 := HK8.out.tl.tl.tl.tl.hd.range
        go_wp2_with ((refine wpList_load_if (by rfl) 26 _ rfl (w.heap.size) 0 rfl U _ hr0 Try.underlying26 rfl HIQ.out ?_))
        clear hr0
        refine (CR1.out _).mono ?_
        rintro e w9 ⟨rfl, bb⟩
        have HK9 := Lib.hid (HK8.out.below bb (Nat.le_refl _))
        clear bb HK8
        have f3 := HIS.out (by first | rfl | trivial)
        subst f3
        have hr0 := HK9.out.tl.tl.tl.tl.hd.range
        have hrY := (net_s HQv.out HK9.out.tl.tl.tl.tl.hd).1
        go_wp2_with (first | (refine wpList_load_if (by rfl) 26 _ rfl (w.heap.size) 0 rfl U _ hr0 Try.underlying26 rfl HIQ.out ?_) | (refine wpList_load_if (by rfl) 23 _ rfl w.heap.size 0 rfl Y1 _ hrY Try.underlying23 rfl HIQ8.out ?_))
        clear hr0 hrY
        refine (CI2.out _).mono ?_
        rintro e w10 ⟨rfl, bb⟩
        have HK10 := Lib.hid (HK9.out.below bb (Nat.le_refl _))
        clear bb HK9
        go_wp2_with fail
        go_ret
        exact ⟨rfl, HK10.out.2.1⟩
      · by_cases heq : L1 = L2
        · have e1 := HIN.out (by first | rfl | trivial) (by first | rfl | trivial)
          subst e1
          have hr0 := HK4.out.tl.tl.hd.range
          have hrY := (net_s HPv.out HK4.out.tl.hd).1
          go_wp2_with (first | (refine wpList_load_if (by rfl) 26 _ rfl (w.heap.size) 0 rfl U _ hr0 Try.underlying26 rfl HIQ.out ?_) | (refine wpList_load_if (by rfl) 23 _ rfl (w.heap.size + 1) 0 rfl Y2 _ hrY Try.underlying23 rfl HIP8.out ?_))
          clear hr0 hrY
          refine (CI1.out _).mono ?_
          rintro e w5 ⟨rfl, bb⟩
          have HK5 := Lib.hid (HK4.out.below bb (Nat.le_refl _))
          clear bb HK4
          have cp := (net_s HQv.out HK5.out.tl.tl.hd).2.2
          have cq := (net_s HPv.out HK5.out.tl.hd).2.2
          have hn := HSM.out (by first | rfl | trivial) (by first | rfl | trivial) heq
          have e4 : (L1 == L2) = true := beq_iff_eq.2 heq
          have hr0 := HK5.out.tl.tl.hd.range
          have hr1 := HK5.out.tl.hd.range
          go_upto_region 11 with (first | (refine wpList_load_if (by rfl) 26 _ rfl (w.heap.size) 0 rfl U _ hr0 Try.underlying26 rfl HIQ.out ?_) | (refine wpList_load_if (by rfl) 26 _ rfl (w.heap.size + 1) 0 rfl V _ hr1 Try.underlying26 rfl HIP.out ?_))
          clear hr0 hr1 hn e4 cp cq
          have hr0 := HK5.out.tl.tl.hd.range
          have hr1 := HK5.out.hd.range
          go_wp2_with (first | (refine wpList_load_mid rfl 26 _ rfl (w.heap.size) 0 rfl U _ hr0 Try.underlying26 rfl HIQ.out ?_) | (refine wpList_load_mid rfl 23 _ rfl (w.heap.size + 1 + 1) 0 rfl VX _ hr1 Try.underlying23 rfl HIX.out ?_))
          clear hr0 hr1
          refine (CE1.out _).mono ?_
          rintro e w6 ⟨rfl, bb⟩
          have HK6 := Lib.hid (HK5.out.below bb (Nat.le_refl _))
          clear bb HK5
          have ht := (bk_new w6 31 ([.int .u8 0, .int .u8 0, .int .u8 0, .int .u8 0] : List Value).toArray).there VD1.toArray.size (by have := HLD1.out; simp; omega)
          go_upto_region 12 with ((refine wpList_store_mid rfl 31 _ _ rfl w6.heap.size 0 VD1.toArray rfl rfl ht (by simpa using HID1.out) HOD1.out ?_))
          have HK7 := Lib.hid (HK6.out.put 31 ([.int .u8 0, .int .u8 0, .int .u8 0, .int .u8 0] : List Value).toArray VD1 (by have := HLD1.out; simp; omega))
          have HGg1 := Lib.hid HK6.out.ne
          have HBg1 := Lib.hid HK6.out.2.2
          clear ht HK6
          generalize (w6.alloc (.cells ([.int .u8 0, .int .u8 0, .int .u8 0, .int .u8 0] : List Value).toArray 31)).setCells w6.heap.size 0 VD1 = w7 at *
          generalize w6.heap.size = g1 at *
          have hr0 := HK7.out.tl.tl.hd.range
          have hr1 := HK7.out.tl.hd.range
          go_wp2_with (first | (refine wpList_load_mid rfl 26 _ rfl (w.heap.size + 1) 0 rfl V _ hr0 Try.underlying26 rfl HIP.out ?_) | (refine wpList_load_mid rfl 23 _ rfl (w.heap.size + 1 + 1) 0 rfl VX _ hr1 Try.underlying23 rfl HIX.out ?_))
          clear hr0 hr1
          refine (CE2.out _).mono ?_
          rintro e w8 ⟨rfl, bb⟩
          have HK8 := Lib.hid (HK7.out.below bb (Nat.le_refl _))
          clear bb HK7
          have ht := (bk_new w8 31 ([.int .u8 0, .int .u8 0, .int .u8 0, .int .u8 0] : List Value).toArray).there VD2.toArray.size (by have := HLD2.out; simp; omega)
          go_upto_region 13 with ((refine wpList_store_mid rfl 31 _ _ rfl w8.heap.size 0 VD2.toArray rfl rfl ht (by simpa using HID2.out) HOD2.out ?_))
          have HK9 := Lib.hid (HK8.out.put 31 ([.int .u8 0, .int .u8 0, .int .u8 0, .int .u8 0] : List Value).toArray VD2 (by have := HLD2.out; simp; omega))
          have HGg2 := Lib.hid HK8.out.ne
          have HBg2 := Lib.hid HK8.out.2.2
          clear ht HK8
          generalize (w8.alloc (.cells ([.int .u8 0, .int .u8 0, .int .u8 0, .int .u8 0] : List Value).toArray 31)).setCells w8.heap.size 0 VD2 = w9 at *
          generalize w8.heap.size = g2 at *
          have f1 := HIR.out (by first | rfl | trivial)
          subst f1
          have hr0 := HK9.out.tl.tl.tl.tl.hd.range
          go_wp2_with ((refine wpList_load_if (by rfl) 26 _ rfl (w.heap.size) 0 rfl U _ hr0 Try.underlying26 rfl HIQ.out ?_))
          clear hr0
          refine (CR1.out _).mono ?_
          rintro e w10 ⟨rfl, bb⟩
          have HK10 := Lib.hid (HK9.out.below bb (Nat.le_refl _))
          clear bb HK9
          have f3 := HIS.out (by first | rfl | trivial)
          subst f3
          have hr0 := HK10.out.tl.tl.tl.tl.hd.range
          have hrY := (net_s HQv.out HK10.out.tl.tl.tl.tl.hd).1
          go_wp2_with (first | (refine wpList_load_if (by rfl) 26 _ rfl (w.heap.size) 0 rfl U _ hr0 Try.underlying26 rfl HIQ.out ?_) | (refine wpList_load_if (by rfl) 23 _ rfl w.heap.size 0 rfl Y1 _ hrY Try.underlying23 rfl HIQ8.out ?_))
          clear hr0 hrY
          refine (CI2.out _).mono ?_
          rintro e w11 ⟨rfl, bb⟩
          have HK11 := Lib.hid (HK10.out.below bb (Nat.le_refl _))
          clear bb HK10
          go_wp2_with fail
          go_ret
          exact ⟨rfl, HK11.out.2.1⟩
        · have e1 := HIN.out (by first | rfl | trivial) (by first | rfl | trivial)
          subst e1
          have hr0 := HK4.out.tl.tl.hd.range
          have hrY := (net_s HPv.out HK4.out.tl.hd).1
          go_wp2_with (first | (refine wpList_load_if (by rfl) 26 _ rfl (w.heap.size) 0 rfl U _ hr0 Try.underlying26 rfl HIQ.out ?_) | (refine wpList_load_if (by rfl) 23 _ rfl (w.heap.size + 1) 0 rfl Y2 _ hrY Try.underlying23 rfl HIP8.out ?_))
          clear hr0 hrY
          refine (CI1.out _).mono ?_
          rintro e w5 ⟨rfl, bb⟩
          have HK5 := Lib.hid (HK4.out.below bb (Nat.le_refl _))
          clear bb HK4
          have cp := (net_s HQv.out HK5.out.tl.tl.hd).2.2
          have cq := (net_s HPv.out HK5.out.tl.hd).2.2
          have e4 : (L1 == L2) = false := beq_eq_false_iff_ne.2 heq
          go_upto_region 11 with (fail)
          clear e4 cp cq
          have hr0 := HK5.out.tl.tl.hd.range
          have hr1 := HK5.out.hd.range
          go_wp2_with (first | (refine wpList_load_mid rfl 26 _ rfl (w.heap.size) 0 rfl U _ hr0 Try.underlying26 rfl HIQ.out ?_) | (refine wpList_load_mid rfl 23 _ rfl (w.heap.size + 1 + 1) 0 rfl VX _ hr1 Try.underlying23 rfl HIX.out ?_))
          clear hr0 hr1
          refine (CE1.out _).mono ?_
          rintro e w6 ⟨rfl, bb⟩
          have HK6 := Lib.hid (HK5.out.below bb (Nat.le_refl _))
          clear bb HK5
          have ht := (bk_new w6 31 ([.int .u8 0, .int .u8 0, .int .u8 0, .int .u8 0] : List Value).toArray).there VD1.toArray.size (by have := HLD1.out; simp; omega)
          go_upto_region 12 with ((refine wpList_store_mid rfl 31 _ _ rfl w6.heap.size 0 VD1.toArray rfl rfl ht (by simpa using HID1.out) HOD1.out ?_))
          have HK7 := Lib.hid (HK6.out.put 31 ([.int .u8 0, .int .u8 0, .int .u8 0, .int .u8 0] : List Value).toArray VD1 (by have := HLD1.out; simp; omega))
          have HGg1 := Lib.hid HK6.out.ne
          have HBg1 := Lib.hid HK6.out.2.2
          clear ht HK6
          generalize (w6.alloc (.cells ([.int .u8 0, .int .u8 0, .int .u8 0, .int .u8 0] : List Value).toArray 31)).setCells w6.heap.size 0 VD1 = w7 at *
          generalize w6.heap.size = g1 at *
          have hr0 := HK7.out.tl.tl.hd.range
          have hr1 := HK7.out.tl.hd.range
          go_wp2_with (first | (refine wpList_load_mid rfl 26 _ rfl (w.heap.size + 1) 0 rfl V _ hr0 Try.underlying26 rfl HIP.out ?_) | (refine wpList_load_mid rfl 23 _ rfl (w.heap.size + 1 + 1) 0 rfl VX _ hr1 Try.underlying23 rfl HIX.out ?_))
          clear hr0 hr1
          refine (CE2.out _).mono ?_
          rintro e w8 ⟨rfl, bb⟩
          have HK8 := Lib.hid (HK7.out.below bb (Nat.le_refl _))
          clear bb HK7
          have ht := (bk_new w8 31 ([.int .u8 0, .int .u8 0, .int .u8 0, .int .u8 0] : List Value).toArray).there VD2.toArray.size (by have := HLD2.out; simp; omega)
          go_upto_region 13 with ((refine wpList_store_mid rfl 31 _ _ rfl w8.heap.size 0 VD2.toArray rfl rfl ht (by simpa using HID2.out) HOD2.out ?_))
          have HK9 := Lib.hid (HK8.out.put 31 ([.int .u8 0, .int .u8 0, .int .u8 0, .int .u8 0] : List Value).toArray VD2 (by have := HLD2.out; simp; omega))
          have HGg2 := Lib.hid HK8.out.ne
          have HBg2 := Lib.hid HK8.out.2.2
          clear ht HK8
          generalize (w8.alloc (.cells ([.int .u8 0, .int .u8 0, .int .u8 0, .int .u8 0] : List Value).toArray 31)).setCells w8.heap.size 0 VD2 = w9 at *
          generalize w8.heap.size = g2 at *
          have f1 := HIR.out (by first | rfl | trivial)
          subst f1
          have hr0 := HK9.out.tl.tl.tl.tl.hd.range
          go_wp2_with ((refine wpList_load_if (by rfl) 26 _ rfl (w.heap.size) 0 rfl U _ hr0 Try.underlying26 rfl HIQ.out ?_))
          clear hr0
          refine (CR1.out _).mono ?_
          rintro e w10 ⟨rfl, bb⟩
          have HK10 := Lib.hid (HK9.out.below bb (Nat.le_refl _))
          clear bb HK9
          have f3 := HIS.out (by first | rfl | trivial)
          subst f3
          have hr0 := HK10.out.tl.tl.tl.tl.hd.range
          have hrY := (net_s HQv.out HK10.out.tl.tl.tl.tl.hd).1
          go_wp2_with (first | (refine wpList_load_if (by rfl) 26 _ rfl (w.heap.size) 0 rfl U _ hr0 Try.underlying26 rfl HIQ.out ?_) | (refine wpList_load_if (by rfl) 23 _ rfl w.heap.size 0 rfl Y1 _ hrY Try.underlying23 rfl HIQ8.out ?_))
          clear hr0 hrY
          refine (CI2.out _).mono ?_
          rintro e w11 ⟨rfl, bb⟩
          have HK11 := Lib.hid (HK10.out.below bb (Nat.le_refl _))
          clear bb HK10
          go_wp2_with fail
          go_ret
          exact ⟨rfl, HK11.out.2.1⟩
  · have HAP1 := Lib.hid (HAP.out (by omega))
    have d1 := decide_eq_false hgt
    clear HAP HAQ
    go_upto_region 7 with (fail)
    clear cp cq d1 hgt
    have CE1 := Lib.hid (CE.out p Hp.out)
    have CE2 := Lib.hid (CE.out q Hq.out)
    have CR1 := Lib.hid (CR.out p Hp.out)
    have CI1 := Lib.hid (CI.out p q Hp.out Hq.out)
    have CI2 := Lib.hid (CI.out p p Hp.out Hp.out)
    rw [HV.out] at CE1 CR1 CI1 CI2
    rw [HU.out] at CE2
    have HLD1 : Hid ((b8 (p.ext x)).length = 4) := Lib.hid ((b8_len _).trans (ext_len p x))
    have HLD2 : Hid ((b8 (q.ext x)).length = 4) := Lib.hid ((b8_len _).trans (ext_len q x))
    have HID1 := Lib.hid (Try.infoFour _ (ext_len p x))
    have HID2 := Lib.hid (Try.infoFour _ (ext_len q x))
    have HOD1 := Lib.hid (b8_one (p.ext x))
    have HOD2 := Lib.hid (b8_one (q.ext x))
    have HT1 := Lib.hid (show p.inside x = false → p.takes x = false from takes_not)
    have HT2 := Lib.hid (show q.inside x = false → q.takes x = false from takes_not)
    have HIS := Lib.hid (show p.right = true → p.inside p.ad = true from in_self)
    have HIR := Lib.hid (show p.inside x = true → p.right = true from in_right)
    have HSM := Lib.hid (fun h1 h2 h3 W => HAP1.out.same h1 h2 h3 W)
    have HIN := Lib.hid (fun h1 h2 => HAP1.out.inq h1 h2)
    rw [HV.out, HU.out] at HSM
    rw [Hap.out] at HSM HIN HT1 HIR
    rw [Haq.out] at HSM HIN HT2
    clear HAP1 CE CR CI HV HU Hp Hq Hap Haq
    generalize b8 (p.ext x) = VD1 at *
    generalize b8 (q.ext x) = VD2 at *
    generalize p.takes x = k1 at *
    generalize q.takes x = k2 at *
    generalize p.right = r1 at *
    generalize p.inside q.ad = s1 at *
    generalize p.inside p.ad = s2 at *
    generalize p.ln = L1 at *
    generalize q.ln = L2 at *
    generalize b8 p.ad = Y1 at *
    generalize b8 q.ad = Y2 at *
    cases ap
    · cases aq
      · cases r1
        · go_upto_region 11 with (fail)
          have hr0 := HK3.out.tl.tl.hd.range
          have hr1 := HK3.out.hd.range
          go_wp2_with (first | (refine wpList_load_mid rfl 26 _ rfl (w.heap.size) 0 rfl V _ hr0 Try.underlying26 rfl HIP.out ?_) | (refine wpList_load_mid rfl 23 _ rfl (w.heap.size + 1 + 1) 0 rfl VX _ hr1 Try.underlying23 rfl HIX.out ?_))
          clear hr0 hr1
          refine (CE1.out _).mono ?_
          rintro e w4 ⟨rfl, bb⟩
          have HK4 := Lib.hid (HK3.out.below bb (Nat.le_refl _))
          clear bb HK3
          have ht := (bk_new w4 31 ([.int .u8 0, .int .u8 0, .int .u8 0, .int .u8 0] : List Value).toArray).there VD1.toArray.size (by have := HLD1.out; simp; omega)
          go_upto_region 12 with ((refine wpList_store_mid rfl 31 _ _ rfl w4.heap.size 0 VD1.toArray rfl rfl ht (by simpa using HID1.out) HOD1.out ?_))
          have HK5 := Lib.hid (HK4.out.put 31 ([.int .u8 0, .int .u8 0, .int .u8 0, .int .u8 0] : List Value).toArray VD1 (by have := HLD1.out; simp; omega))
          have HGg1 := Lib.hid HK4.out.ne
          have HBg1 := Lib.hid HK4.out.2.2
          clear ht HK4
          generalize (w4.alloc (.cells ([.int .u8 0, .int .u8 0, .int .u8 0, .int .u8 0] : List Value).toArray 31)).setCells w4.heap.size 0 VD1 = w5 at *
          generalize w4.heap.size = g1 at *
          have hr0 := HK5.out.tl.tl.hd.range
          have hr1 := HK5.out.tl.hd.range
          go_wp2_with (first | (refine wpList_load_mid rfl 26 _ rfl (w.heap.size + 1) 0 rfl U _ hr0 Try.underlying26 rfl HIQ.out ?_) | (refine wpList_load_mid rfl 23 _ rfl (w.heap.size + 1 + 1) 0 rfl VX _ hr1 Try.underlying23 rfl HIX.out ?_))
          clear hr0 hr1
          refine (CE2.out _).mono ?_
          rintro e w6 ⟨rfl, bb⟩
          have HK6 := Lib.hid (HK5.out.below bb (Nat.le_refl _))
          clear bb HK5
          have ht := (bk_new w6 31 ([.int .u8 0, .int .u8 0, .int .u8 0, .int .u8 0] : List Value).toArray).there VD2.toArray.size (by have := HLD2.out; simp; omega)
          go_upto_region 13 with ((refine wpList_store_mid rfl 31 _ _ rfl w6.heap.size 0 VD2.toArray rfl rfl ht (by simpa using HID2.out) HOD2.out ?_))
          have HK7 := Lib.hid (HK6.out.put 31 ([.int .u8 0, .int .u8 0, .int .u8 0, .int .u8 0] : List Value).toArray VD2 (by have := HLD2.out; simp; omega))
          have HGg2 := Lib.hid HK6.out.ne
          have HBg2 := Lib.hid HK6.out.2.2
          clear ht HK6
          generalize (w6.alloc (.cells ([.int .u8 0, .int .u8 0, .int .u8 0, .int .u8 0] : List Value).toArray 31)).setCells w6.heap.size 0 VD2 = w7 at *
          generalize w6.heap.size = g2 at *
          have f1 := HT1.out (by first | rfl | trivial)
          subst f1
          have f2 := HT2.out (by first | rfl | trivial)
          subst f2
          have hr0 := HK7.out.tl.tl.tl.tl.hd.range
          go_wp2_with ((refine wpList_load_if (by rfl) 26 _ rfl (w.heap.size) 0 rfl V _ hr0 Try.underlying26 rfl HIP.out ?_))
          clear hr0
          refine (CR1.out _).mono ?_
          rintro e w8 ⟨rfl, bb⟩
          have HK8 := Lib.hid (HK7.out.below bb (Nat.le_refl _))
          clear bb HK7
          go_wp2_with fail
          go_ret
          exact ⟨rfl, HK8.out.2.1⟩
        · go_upto_region 11 with (fail)
          have hr0 := HK3.out.tl.tl.hd.range
          have hr1 := HK3.out.hd.range
          go_wp2_with (first | (refine wpList_load_mid rfl 26 _ rfl (w.heap.size) 0 rfl V _ hr0 Try.underlying26 rfl HIP.out ?_) | (refine wpList_load_mid rfl 23 _ rfl (w.heap.size + 1 + 1) 0 rfl VX _ hr1 Try.underlying23 rfl HIX.out ?_))
          clear hr0 hr1
          refine (CE1.out _).mono ?_
          rintro e w4 ⟨rfl, bb⟩
          have HK4 := Lib.hid (HK3.out.below bb (Nat.le_refl _))
          clear bb HK3
          have ht := (bk_new w4 31 ([.int .u8 0, .int .u8 0, .int .u8 0, .int .u8 0] : List Value).toArray).there VD1.toArray.size (by have := HLD1.out; simp; omega)
          go_upto_region 12 with ((refine wpList_store_mid rfl 31 _ _ rfl w4.heap.size 0 VD1.toArray rfl rfl ht (by simpa using HID1.out) HOD1.out ?_))
          have HK5 := Lib.hid (HK4.out.put 31 ([.int .u8 0, .int .u8 0, .int .u8 0, .int .u8 0] : List Value).toArray VD1 (by have := HLD1.out; simp; omega))
          have HGg1 := Lib.hid HK4.out.ne
          have HBg1 := Lib.hid HK4.out.2.2
          clear ht HK4
          generalize (w4.alloc (.cells ([.int .u8 0, .int .u8 0, .int .u8 0, .int .u8 0] : List Value).toArray 31)).setCells w4.heap.size 0 VD1 = w5 at *
          generalize w4.heap.size = g1 at *
          have hr0 := HK5.out.tl.tl.hd.range
          have hr1 := HK5.out.tl.hd.range
          go_wp2_with (first | (refine wpList_load_mid rfl 26 _ rfl (w.heap.size + 1) 0 rfl U _ hr0 Try.underlying26 rfl HIQ.out ?_) | (refine wpList_load_mid rfl 23 _ rfl (w.heap.size + 1 + 1) 0 rfl VX _ hr1 Try.underlying23 rfl HIX.out ?_))
          clear hr0 hr1
          refine (CE2.out _).mono ?_
          rintro e w6 ⟨rfl, bb⟩
          have HK6 := Lib.hid (HK5.out.below bb (Nat.le_refl _))
          clear bb HK5
          have ht := (bk_new w6 31 ([.int .u8 0, .int .u8 0, .int .u8 0, .int .u8 0] : List Value).toArray).there VD2.toArray.size (by have := HLD2.out; simp; omega)
          go_upto_region 13 with ((refine wpList_store_mid rfl 31 _ _ rfl w6.heap.size 0 VD2.toArray rfl rfl ht (by simpa using HID2.out) HOD2.out ?_))
          have HK7 := Lib.hid (HK6.out.put 31 ([.int .u8 0, .int .u8 0, .int .u8 0, .int .u8 0] : List Value).toArray VD2 (by have := HLD2.out; simp; omega))
          have HGg2 := Lib.hid HK6.out.ne
          have HBg2 := Lib.hid HK6.out.2.2
          clear ht HK6
          generalize (w6.alloc (.cells ([.int .u8 0, .int .u8 0, .int .u8 0, .int .u8 0] : List Value).toArray 31)).setCells w6.heap.size 0 VD2 = w7 at *
          generalize w6.heap.size = g2 at *
          have f1 := HT1.out (by first | rfl | trivial)
          subst f1
          have f2 := HT2.out (by first | rfl | trivial)
          subst f2
          have hr0 := HK7.out.tl.tl.tl.tl.hd.range
          go_wp2_with ((refine wpList_load_if (by rfl) 26 _ rfl (w.heap.size) 0 rfl V _ hr0 Try.underlying26 rfl HIP.out ?_))
          clear hr0
          refine (CR1.out _).mono ?_
          rintro e w8 ⟨rfl, bb⟩
          have HK8 := Lib.hid (HK7.out.below bb (Nat.le_refl _))
          clear bb HK7
          have f3 := HIS.out (by first | rfl | trivial)
          subst f3
          have hr0 := HK8.out.tl.tl.tl.tl.hd.range
          have hrY := (net_s HPv.out HK8.out.tl.tl.tl.tl.hd).1
          go_wp2_with (first | (refine wpList_load_if (by rfl) 26 _ rfl (w.heap.size) 0 rfl V _ hr0 Try.underlying26 rfl HIP.out ?_) | (refine wpList_load_if (by rfl) 23 _ rfl w.heap.size 0 rfl Y1 _ hrY Try.underlying23 rfl HIP8.out ?_))
          clear hr0 hrY
          refine (CI2.out _).mono ?_
          rintro e w9 ⟨rfl, bb⟩
          have HK9 := Lib.hid (HK8.out.below bb (Nat.le_refl _))
          clear bb HK8
          go_wp2_with fail
          go_ret
          exact ⟨rfl, HK9.out.2.1⟩
      · cases r1
        · go_upto_region 11 with (fail)
          have hr0 := HK3.out.tl.tl.hd.range
          have hr1 := HK3.out.hd.range
          go_wp2_with (first | (refine wpList_load_mid rfl 26 _ rfl (w.heap.size) 0 rfl V _ hr0 Try.underlying26 rfl HIP.out ?_) | (refine wpList_load_mid rfl 23 _ rfl (w.heap.size + 1 + 1) 0 rfl VX _ hr1 Try.underlying23 rfl HIX.out ?_))
          clear hr0 hr1
          refine (CE1.out _).mono ?_
          rintro e w4 ⟨rfl, bb⟩
          have HK4 := Lib.hid (HK3.out.below bb (Nat.le_refl _))
          clear bb HK3
          have ht := (bk_new w4 31 ([.int .u8 0, .int .u8 0, .int .u8 0, .int .u8 0] : List Value).toArray).there VD1.toArray.size (by have := HLD1.out; simp; omega)
          go_upto_region 12 with ((refine wpList_store_mid rfl 31 _ _ rfl w4.heap.size 0 VD1.toArray rfl rfl ht (by simpa using HID1.out) HOD1.out ?_))
          have HK5 := Lib.hid (HK4.out.put 31 ([.int .u8 0, .int .u8 0, .int .u8 0, .int .u8 0] : List Value).toArray VD1 (by have := HLD1.out; simp; omega))
          have HGg1 := Lib.hid HK4.out.ne
          have HBg1 := Lib.hid HK4.out.2.2
          clear ht HK4
          generalize (w4.alloc (.cells ([.int .u8 0, .int .u8 0, .int .u8 0, .int .u8 0] : List Value).toArray 31)).setCells w4.heap.size 0 VD1 = w5 at *
          generalize w4.heap.size = g1 at *
          have hr0 := HK5.out.tl.tl.hd.range
          have hr1 := HK5.out.tl.hd.range
          go_wp2_with (first | (refine wpList_load_mid rfl 26 _ rfl (w.heap.size + 1) 0 rfl U _ hr0 Try.underlying26 rfl HIQ.out ?_) | (refine wpList_load_mid rfl 23 _ rfl (w.heap.size + 1 + 1) 0 rfl VX _ hr1 Try.underlying23 rfl HIX.out ?_))
          clear hr0 hr1
          refine (CE2.out _).mono ?_
          rintro e w6 ⟨rfl, bb⟩
          have HK6 := Lib.hid (HK5.out.below bb (Nat.le_refl _))
          clear bb HK5
          have ht := (bk_new w6 31 ([.int .u8 0, .int .u8 0, .int .u8 0, .int .u8 0] : List Value).toArray).there VD2.toArray.size (by have := HLD2.out; simp; omega)
          go_upto_region 13 with ((refine wpList_store_mid rfl 31 _ _ rfl w6.heap.size 0 VD2.toArray rfl rfl ht (by simpa using HID2.out) HOD2.out ?_))
          have HK7 := Lib.hid (HK6.out.put 31 ([.int .u8 0, .int .u8 0, .int .u8 0, .int .u8 0] : List Value).toArray VD2 (by have := HLD2.out; simp; omega))
          have HGg2 := Lib.hid HK6.out.ne
          have HBg2 := Lib.hid HK6.out.2.2
          clear ht HK6
          generalize (w6.alloc (.cells ([.int .u8 0, .int .u8 0, .int .u8 0, .int .u8 0] : List Value).toArray 31)).setCells w6.heap.size 0 VD2 = w7 at *
          generalize w6.heap.size = g2 at *
          have f1 := HT1.out (by first | rfl | trivial)
          subst f1
          have hr0 := HK7.out.tl.tl.tl.tl.hd.range
          go_wp2_with ((refine wpList_load_if (by rfl) 26 _ rfl (w.heap.size) 0 rfl V _ hr0 Try.underlying26 rfl HIP.out ?_))
          clear hr0
          refine (CR1.out _).mono ?_
          rintro e w8 ⟨rfl, bb⟩
          have HK8 := Lib.hid (HK7.out.below bb (Nat.le_refl _))
          clear bb HK7
          go_wp2_with fail
          go_ret
          exact ⟨rfl, HK8.out.2.1⟩
        · go_upto_region 11 with (fail)
          have hr0 := HK3.out.tl.tl.hd.range
          have hr1 := HK3.out.hd.range
          go_wp2_with (first | (refine wpList_load_mid rfl 26 _ rfl (w.heap.size) 0 rfl V _ hr0 Try.underlying26 rfl HIP.out ?_) | (refine wpList_load_mid rfl 23 _ rfl (w.heap.size + 1 + 1) 0 rfl VX _ hr1 Try.underlying23 rfl HIX.out ?_))
          clear hr0 hr1
          refine (CE1.out _).mono ?_
          rintro e w4 ⟨rfl, bb⟩
          have HK4 := Lib.hid (HK3.out.below bb (Nat.le_refl _))
          clear bb HK3
          have ht := (bk_new w4 31 ([.int .u8 0, .int .u8 0, .int .u8 0, .int .u8 0] : List Value).toArray).there VD1.toArray.size (by have := HLD1.out; simp; omega)
          go_upto_region 12 with ((refine wpList_store_mid rfl 31 _ _ rfl w4.heap.size 0 VD1.toArray rfl rfl ht (by simpa using HID1.out) HOD1.out ?_))
          have HK5 := Lib.hid (HK4.out.put 31 ([.int .u8 0, .int .u8 0, .int .u8 0, .int .u8 0] : List Value).toArray VD1 (by have := HLD1.out; simp; omega))
          have HGg1 := Lib.hid HK4.out.ne
          have HBg1 := Lib.hid HK4.out.2.2
          clear ht HK4
          generalize (w4.alloc (.cells ([.int .u8 0, .int .u8 0, .int .u8 0, .int .u8 0] : List Value).toArray 31)).setCells w4.heap.size 0 VD1 = w5 at *
          generalize w4.heap.size = g1 at *
          have hr0 := HK5.out.tl.tl.hd.range
          have hr1 := HK5.out.tl.hd.range
          go_wp2_with (first | (refine wpList_load_mid rfl 26 _ rfl (w.heap.size + 1) 0 rfl U _ hr0 Try.underlying26 rfl HIQ.out ?_) | (refine wpList_load_mid rfl 23 _ rfl (w.heap.size + 1 + 1) 0 rfl VX _ hr1 Try.underlying23 rfl HIX.out ?_))
          clear hr0 hr1
          refine (CE2.out _).mono ?_
          rintro e w6 ⟨rfl, bb⟩
          have HK6 := Lib.hid (HK5.out.below bb (Nat.le_refl _))
          clear bb HK5
          have ht := (bk_new w6 31 ([.int .u8 0, .int .u8 0, .int .u8 0, .int .u8 0] : List Value).toArray).there VD2.toArray.size (by have := HLD2.out; simp; omega)
          go_upto_region 13 with ((refine wpList_store_mid rfl 31 _ _ rfl w6.heap.size 0 VD2.toArray rfl rfl ht (by simpa using HID2.out) HOD2.out ?_))
          have HK7 := Lib.hid (HK6.out.put 31 ([.int .u8 0, .int .u8 0, .int .u8 0, .int .u8 0] : List Value).toArray VD2 (by have := HLD2.out; simp; omega))
          have HGg2 := Lib.hid HK6.out.ne
          have HBg2 := Lib.hid HK6.out.2.2
          clear ht HK6
          generalize (w6.alloc (.cells ([.int .u8 0, .int .u8 0, .int .u8 0, .int .u8 0] : List Value).toArray 31)).setCells w6.heap.size 0 VD2 = w7 at *
          generalize w6.heap.size = g2 at *
          have f1 := HT1.out (by first | rfl | trivial)
          subst f1
          have hr0 := HK7.out.tl.tl.tl.tl.hd.range
          go_wp2_with ((refine wpList_load_if (by rfl) 26 _ rfl (w.heap.size) 0 rfl V _ hr0 Try.underlying26 rfl HIP.out ?_))
          clear hr0
          refine (CR1.out _).mono ?_
          rintro e w8 ⟨rfl, bb⟩
          have HK8 := Lib.hid (HK7.out.below bb (Nat.le_refl _))
          clear bb HK7
          have f3 := HIS.out (by first | rfl | trivial)
          subst f3
          have hr0 := HK8.out.tl.tl.tl.tl.hd.range
          have hrY := (net_s HPv.out HK8.out.tl.tl.tl.tl.hd).1
          go_wp2_with (first | (refine wpList_load_if (by rfl) 26 _ rfl (w.heap.size) 0 rfl V _ hr0 Try.underlying26 rfl HIP.out ?_) | (refine wpList_load_if (by rfl) 23 _ rfl w.heap.size 0 rfl Y1 _ hrY Try.underlying23 rfl HIP8.out ?_))
          clear hr0 hrY
          refine (CI2.out _).mono ?_
          rintro e w9 ⟨rfl, bb⟩
          have HK9 := Lib.hid (HK8.out.below bb (Nat.le_refl _))
          clear bb HK8
          go_wp2_with fail
          go_ret
          exact ⟨rfl, HK9.out.2.1⟩
    · cases aq
      · go_upto_region 11 with (fail)
        have hr0 := HK3.out.tl.tl.hd.range
        have hr1 := HK3.out.hd.range
        go_wp2_with (first | (refine wpList_load_mid rfl 26 _ rfl (w.heap.size) 0 rfl V _ hr0 Try.underlying26 rfl HIP.out ?_) | (refine wpList_load_mid rfl 23 _ rfl (w.heap.size + 1 + 1) 0 rfl VX _ hr1 Try.underlying23 rfl HIX.out ?_))
        clear hr0 hr1
        refine (CE1.out _).mono ?_
        rintro e w4 ⟨rfl, bb⟩
        have HK4 := Lib.hid (HK3.out.below bb (Nat.le_refl _))
        clear bb HK3
        have ht := (bk_new w4 31 ([.int .u8 0, .int .u8 0, .int .u8 0, .int .u8 0] : List Value).toArray).there VD1.toArray.size (by have := HLD1.out; simp; omega)
        go_upto_region 12 with ((refine wpList_store_mid rfl 31 _ _ rfl w4.heap.size 0 VD1.toArray rfl rfl ht (by simpa using HID1.out) HOD1.out ?_))
        have HK5 := Lib.hid (HK4.out.put 31 ([.int .u8 0, .int .u8 0, .int .u8 0, .int .u8 0] : List Value).toArray VD1 (by have := HLD1.out; simp; omega))
        have HGg1 := Lib.hid HK4.out.ne
        have HBg1 := Lib.hid HK4.out.2.2
        clear ht HK4
        generalize (w4.alloc (.cells ([.int .u8 0, .int .u8 0, .int .u8 0, .int .u8 0] : List Value).toArray 31)).setCells w4.heap.size 0 VD1 = w5 at *
        generalize w4.heap.size = g1 at *
        have hr0 := HK5.out.tl.tl.hd.range
        have hr1 := HK5.out.tl.hd.range
        go_wp2_with (first | (refine wpList_load_mid rfl 26 _ rfl (w.heap.size + 1) 0 rfl U _ hr0 Try.underlying26 rfl HIQ.out ?_) | (refine wpList_load_mid rfl 23 _ rfl (w.heap.size + 1 + 1) 0 rfl VX _ hr1 Try.underlying23 rfl HIX.out ?_))
        clear hr0 hr1
        refine (CE2.out _).mono ?_
        rintro e w6 ⟨rfl, bb⟩
        have HK6 := Lib.hid (HK5.out.below bb (Nat.le_refl _))
        clear bb HK5
        have ht := (bk_new w6 31 ([.int .u8 0, .int .u8 0, .int .u8 0, .int .u8 0] : List Value).toArray).there VD2.toArray.size (by have := HLD2.out; simp; omega)
        go_upto_region 13 with ((refine wpList_store_mid rfl 31 _ _ rfl w6.heap.size 0 VD2.toArray rfl rfl ht (by simpa using HID2.out) HOD2.out ?_))
        have HK7 := Lib.hid (HK6.out.put 31 ([.int .u8 0, .int .u8 0, .int .u8 0, .int .u8 0] : List Value).toArray VD2 (by have := HLD2.out; simp; omega))
        have HGg2 := Lib.hid HK6.out.ne
        have HBg2 := Lib.hid HK6.out.2.2
        clear ht HK6
        generalize (w6.alloc (.cells ([.int .u8 0, .int .u8 0, .int .u8 0, .int .u8 0] : List Value).toArray 31)).setCells w6.heap.size 0 VD2 = w7 at *
        generalize w6.heap.size = g2 at *
        have f1 := HIR.out (by first | rfl | trivial)
        subst f1
        have f2 := HT2.out (by first | rfl | trivial)
        subst f2
        have hr0 := HK7.out.tl.tl.tl.tl.hd.range
        go_wp2_with ((refine wpList_load_if (by rfl) 26 _ rfl (w.heap.size) 0 rfl V _ hr0 Try.underlying26 rfl HIP.out ?_))
        clear hr0
        refine (CR1.out _).mono ?_
        rintro e w8 ⟨rfl, bb⟩
        have HK8 := Lib.hid (HK7.out.below bb (Nat.le_refl _))
        clear bb HK7
        have f3 := HIS.out (by first | rfl | trivial)
        subst f3
        have hr0 := HK8.out.tl.tl.tl.tl.hd.range
        have hrY := (net_s HPv.out HK8.out.tl.tl.tl.tl.hd).1
        go_wp2_with (first | (refine wpList_load_if (by rfl) 26 _ rfl (w.heap.size) 0 rfl V _ hr0 Try.underlying26 rfl HIP.out ?_) | (refine wpList_load_if (by rfl) 23 _ rfl w.heap.size 0 rfl Y1 _ hrY Try.underlying23 rfl HIP8.out ?_))
        clear hr0 hrY
        refine (CI2.out _).mono ?_
        rintro e w9 ⟨rfl, bb⟩
        have HK9 := Lib.hid (HK8.out.below bb (Nat.le_refl _))
        clear bb HK8
        go_wp2_with fail
        go_ret
        exact ⟨rfl, HK9.out.2.1⟩
      · by_cases heq : L1 = L2
        · have e1 := HIN.out (by first | rfl | trivial) (by first | rfl | trivial)
          subst e1
          have hr0 := HK3.out.tl.tl.hd.range
          have hrY := (net_s HQv.out HK3.out.tl.hd).1
          go_wp2_with (first | (refine wpList_load_if (by rfl) 26 _ rfl (w.heap.size) 0 rfl V _ hr0 Try.underlying26 rfl HIP.out ?_) | (refine wpList_load_if (by rfl) 23 _ rfl (w.heap.size + 1) 0 rfl Y2 _ hrY Try.underlying23 rfl HIQ8.out ?_))
          clear hr0 hrY
          refine (CI1.out _).mono ?_
          rintro e w4 ⟨rfl, bb⟩
          have HK4 := Lib.hid (HK3.out.below bb (Nat.le_refl _))
          clear bb HK3
          have cp := (net_s HPv.out HK4.out.tl.tl.hd).2.2
          have cq := (net_s HQv.out HK4.out.tl.hd).2.2
          have hn := HSM.out (by first | rfl | trivial) (by first | rfl | trivial) heq
          have e4 : (L1 == L2) = true := beq_iff_eq.2 heq
          have hr0 := HK4.out.tl.tl.hd.range
          have hr1 := HK4.out.tl.hd.range
          go_upto_region 11 with (first | (refine wpList_load_if (by rfl) 26 _ rfl (w.heap.size) 0 rfl V _ hr0 Try.underlying26 rfl HIP.out ?_) | (refine wpList_load_if (by rfl) 26 _ rfl (w.heap.size + 1) 0 rfl U _ hr1 Try.underlying26 rfl HIQ.out ?_))
          clear hr0 hr1 hn e4 cp cq
          have hr0 := HK4.out.tl.tl.hd.range
          have hr1 := HK4.out.hd.range
          go_wp2_with (first | (refine wpList_load_mid rfl 26 _ rfl (w.heap.size) 0 rfl V _ hr0 Try.underlying26 rfl HIP.out ?_) | (refine wpList_load_mid rfl 23 _ rfl (w.heap.size + 1 + 1) 0 rfl VX _ hr1 Try.underlying23 rfl HIX.out ?_))
          clear hr0 hr1
          refine (CE1.out _).mono ?_
          rintro e w5 ⟨rfl, bb⟩
          have HK5 := Lib.hid (HK4.out.below bb (Nat.le_refl _))
          clear bb HK4
          have ht := (bk_new w5 31 ([.int .u8 0, .int .u8 0, .int .u8 0, .int .u8 0] : List Value).toArray).there VD1.toArray.size (by have := HLD1.out; simp; omega)
          go_upto_region 12 with ((refine wpList_store_mid rfl 31 _ _ rfl w5.heap.size 0 VD1.toArray rfl rfl ht (by simpa using HID1.out) HOD1.out ?_))
          have HK6 := Lib.hid (HK5.out.put 31 ([.int .u8 0, .int .u8 0, .int .u8 0, .int .u8 0] : List Value).toArray VD1 (by have := HLD1.out; simp; omega))
          have HGg1 := Lib.hid HK5.out.ne
          have HBg1 := Lib.hid HK5.out.2.2
          clear ht HK5
          generalize (w5.alloc (.cells ([.int .u8 0, .int .u8 0, .int .u8 0, .int .u8 0] : List Value).toArray 31)).setCells w5.heap.size 0 VD1 = w6 at *
          generalize w5.heap.size = g1 at *
          have hr0 := HK6.out.tl.tl.hd.range
          have hr1 := HK6.out.tl.hd.range
          go_wp2_with (first | (refine wpList_load_mid rfl 26 _ rfl (w.heap.size + 1) 0 rfl U _ hr0 Try.underlying26 rfl HIQ.out ?_) | (refine wpList_load_mid rfl 23 _ rfl (w.heap.size + 1 + 1) 0 rfl VX _ hr1 Try.underlying23 rfl HIX.out ?_))
          clear hr0 hr1
          refine (CE2.out _).mono ?_
          rintro e w7 ⟨rfl, bb⟩
          have HK7 := Lib.hid (HK6.out.below bb (Nat.le_refl _))
          clear bb HK6
          have ht := (bk_new w7 31 ([.int .u8 0, .int .u8 0, .int .u8 0, .int .u8 0] : List Value).toArray).there VD2.toArray.size (by have := HLD2.out; simp; omega)
          go_upto_region 13 with ((refine wpList_store_mid rfl 31 _ _ rfl w7.heap.size 0 VD2.toArray rfl rfl ht (by simpa using HID2.out) HOD2.out ?_))
          have HK8 := Lib.hid (HK7.out.put 31 ([.int .u8 0, .int .u8 0, .int .u8 0, .int .u8 0] : List Value).toArray VD2 (by have := HLD2.out; simp; omega))
          have HGg2 := Lib.hid HK7.out.ne
          have HBg2 := Lib.hid HK7.out.2.2
          clear ht HK7
          generalize (w7.alloc (.cells ([.int .u8 0, .int .u8 0, .int .u8 0, .int .u8 0] : List Value).toArray 31)).setCells w7.heap.size 0 VD2 = w8 at *
          generalize w7.heap.size = g2 at *
          have f1 := HIR.out (by first | rfl | trivial)
          subst f1
          have hr0 := HK8.out.tl.tl.tl.tl.hd.range
          go_wp2_with ((refine wpList_load_if (by rfl) 26 _ rfl (w.heap.size) 0 rfl V _ hr0 Try.underlying26 rfl HIP.out ?_))
          clear hr0
          refine (CR1.out _).mono ?_
          rintro e w9 ⟨rfl, bb⟩
          have HK9 := Lib.hid (HK8.out.below bb (Nat.le_refl _))
          clear bb HK8
          have f3 := HIS.out (by first | rfl | trivial)
          subst f3
          have hr0 := HK9.out.tl.tl.tl.tl.hd.range
          have hrY := (net_s HPv.out HK9.out.tl.tl.tl.tl.hd).1
          go_wp2_with (first | (refine wpList_load_if (by rfl) 26 _ rfl (w.heap.size) 0 rfl V _ hr0 Try.underlying26 rfl HIP.out ?_) | (refine wpList_load_if (by rfl) 23 _ rfl w.heap.size 0 rfl Y1 _ hrY Try.underlying23 rfl HIP8.out ?_))
          clear hr0 hrY
          refine (CI2.out _).mono ?_
          rintro e w10 ⟨rfl, bb⟩
          have HK10 := Lib.hid (HK9.out.below bb (Nat.le_refl _))
          clear bb HK9
          go_wp2_with fail
          go_ret
          exact ⟨rfl, HK10.out.2.1⟩
        · have e1 := HIN.out (by first | rfl | trivial) (by first | rfl | trivial)
          subst e1
          have hr0 := HK3.out.tl.tl.hd.range
          have hrY := (net_s HQv.out HK3.out.tl.hd).1
          go_wp2_with (first | (refine wpList_load_if (by rfl) 26 _ rfl (w.heap.size) 0 rfl V _ hr0 Try.underlying26 rfl HIP.out ?_) | (refine wpList_load_if (by rfl) 23 _ rfl (w.heap.size + 1) 0 rfl Y2 _ hrY Try.underlying23 rfl HIQ8.out ?_))
          clear hr0 hrY
          refine (CI1.out _).mono ?_
          rintro e w4 ⟨rfl, bb⟩
          have HK4 := Lib.hid (HK3.out.below bb (Nat.le_refl _))
          clear bb HK3
          have cp := (net_s HPv.out HK4.out.tl.tl.hd).2.2
          have cq := (net_s HQv.out HK4.out.tl.hd).2.2
          have e4 : (L1 == L2) = false := beq_eq_false_iff_ne.2 heq
          go_upto_region 11 with (fail)
          clear e4 cp cq
          have hr0 := HK4.out.tl.tl.hd.range
          have hr1 := HK4.out.hd.range
          go_wp2_with (first | (refine wpList_load_mid rfl 26 _ rfl (w.heap.size) 0 rfl V _ hr0 Try.underlying26 rfl HIP.out ?_) | (refine wpList_load_mid rfl 23 _ rfl (w.heap.size + 1 + 1) 0 rfl VX _ hr1 Try.underlying23 rfl HIX.out ?_))
          clear hr0 hr1
          refine (CE1.out _).mono ?_
          rintro e w5 ⟨rfl, bb⟩
          have HK5 := Lib.hid (HK4.out.below bb (Nat.le_refl _))
          clear bb HK4
          have ht := (bk_new w5 31 ([.int .u8 0, .int .u8 0, .int .u8 0, .int .u8 0] : List Value).toArray).there VD1.toArray.size (by have := HLD1.out; simp; omega)
          go_upto_region 12 with ((refine wpList_store_mid rfl 31 _ _ rfl w5.heap.size 0 VD1.toArray rfl rfl ht (by simpa using HID1.out) HOD1.out ?_))
          have HK6 := Lib.hid (HK5.out.put 31 ([.int .u8 0, .int .u8 0, .int .u8 0, .int .u8 0] : List Value).toArray VD1 (by have := HLD1.out; simp; omega))
          have HGg1 := Lib.hid HK5.out.ne
          have HBg1 := Lib.hid HK5.out.2.2
          clear ht HK5
          generalize (w5.alloc (.cells ([.int .u8 0, .int .u8 0, .int .u8 0, .int .u8 0] : List Value).toArray 31)).setCells w5.heap.size 0 VD1 = w6 at *
          generalize w5.heap.size = g1 at *
          have hr0 := HK6.out.tl.tl.hd.range
          have hr1 := HK6.out.tl.hd.range
          go_wp2_with (first | (refine wpList_load_mid rfl 26 _ rfl (w.heap.size + 1) 0 rfl U _ hr0 Try.underlying26 rfl HIQ.out ?_) | (refine wpList_load_mid rfl 23 _ rfl (w.heap.size + 1 + 1) 0 rfl VX _ hr1 Try.underlying23 rfl HIX.out ?_))
          clear hr0 hr1
          refine (CE2.out _).mono ?_
          rintro e w7 ⟨rfl, bb⟩
          have HK7 := Lib.hid (HK6.out.below bb (Nat.le_refl _))
          clear bb HK6
          have ht := (bk_new w7 31 ([.int .u8 0, .int .u8 0, .int .u8 0, .int .u8 0] : List Value).toArray).there VD2.toArray.size (by have := HLD2.out; simp; omega)
          go_upto_region 13 with ((refine wpList_store_mid rfl 31 _ _ rfl w7.heap.size 0 VD2.toArray rfl rfl ht (by simpa using HID2.out) HOD2.out ?_))
          have HK8 := Lib.hid (HK7.out.put 31 ([.int .u8 0, .int .u8 0, .int .u8 0, .int .u8 0] : List Value).toArray VD2 (by have := HLD2.out; simp; omega))
          have HGg2 := Lib.hid HK7.out.ne
          have HBg2 := Lib.hid HK7.out.2.2
          clear ht HK7
          generalize (w7.alloc (.cells ([.int .u8 0, .int .u8 0, .int .u8 0, .int .u8 0] : List Value).toArray 31)).setCells w7.heap.size 0 VD2 = w8 at *
          generalize w7.heap.size = g2 at *
          have f1 := HIR.out (by first | rfl | trivial)
          subst f1
          have hr0 := HK8.out.tl.tl.tl.tl.hd.range
          go_wp2_with ((refine wpList_load_if (by rfl) 26 _ rfl (w.heap.size) 0 rfl V _ hr0 Try.underlying26 rfl HIP.out ?_))
          clear hr0
          refine (CR1.out _).mono ?_
          rintro e w9 ⟨rfl, bb⟩
          have HK9 := Lib.hid (HK8.out.below bb (Nat.le_refl _))
          clear bb HK8
          have f3 := HIS.out (by first | rfl | trivial)
          subst f3
          have hr0 := HK9.out.tl.tl.tl.tl.hd.range
          have hrY := (net_s HPv.out HK9.out.tl.tl.tl.tl.hd).1
          go_wp2_with (first | (refine wpList_load_if (by rfl) 26 _ rfl (w.heap.size) 0 rfl V _ hr0 Try.underlying26 rfl HIP.out ?_) | (refine wpList_load_if (by rfl) 23 _ rfl w.heap.size 0 rfl Y1 _ hrY Try.underlying23 rfl HIP8.out ?_))
          clear hr0 hrY
          refine (CI2.out _).mono ?_
          rintro e w10 ⟨rfl, bb⟩
          have HK10 := Lib.hid (HK9.out.below bb (Nat.le_refl _))
          clear bb HK9
          go_wp2_with fail
          go_ret
          exact ⟨rfl, HK10.out.2.1⟩
end Go.Proofs.Ytpjcanejenmldaa
