/-
  Proved here: the law EmbedBack answers true.
  Conditions: addresses of 16 and of 4 bytes.
-/
import Derived.Test.YtpjcanejenmldaaAwake
import Derived.Test.YtpjcanejenmldaaFacts
import Derived.Test.YtpjcanejenmldaaOnce
namespace Go.Proofs.Ytpjcanejenmldaa
open Go.RowKit

theorem Kp.over {w0 w : World} {B b : Nat} {T : TypeId} {V : List Value} {l : List (Nat × TypeId × List Value)} (h : Kp w0 B ((b, T, V) :: l) w) (hne : ∀ x ∈ l, x.1 ≠ b) (hB : B ≤ b) (V' : List Value) (hl : V'.length = V.length) : Kp w0 B ((b, T, V') :: l) (w.setCells b 0 V') := by
  have h2 := Bk.sets V' 0 _ _ h.hd
  rw [puts_whole V.toArray V' (by simpa using hl)] at h2
  exact kp_cons h2 (h.tl.sets hne hB 0 V')
set_option maxRecDepth 100000 in
set_option maxHeartbeats 4000000 in
theorem embedBack_any (p : Nt) (a b : List Int) (last : Int) (w : World) (hp : p.ad.length = 16) (ha : a.length = 4) (hb : b.length = 4) (_ : (Lit.int .u8 last).wf = true) :
    Calls Try.prog 6 #[.agg p.vals.toArray, .agg (b8 a).toArray, .agg (b8 b).toArray, .int .u8 last] w fun e w' => e = .returned (.bool true) ∧ Below w.heap.size w w' := by
  have HA := Lib.hid awake_true
  have C1 := Lib.hid (fun W => embed_any p a hp ha W)
  have C2 := Lib.hid (fun W => embed_any p b hp hb W)
  have C3 := Lib.hid (fun W => right_any p hp W)
  have C4 := Lib.hid (fun W => inside_any p (p.emb a) hp (emb_len p hp a) W)
  have C5 := Lib.hid (fun W => inside_any p p.ad hp hp W)
  have C6 := Lib.hid (fun W => extract_any p (p.emb a) hp (emb_len p hp a) W)
  have HL15 : Hid (((p.emb a).set 15 last).length = 16) := Lib.hid (by rw [List.length_set]; exact emb_len p hp a)
  have HF := Lib.hid (show p.right = false → p.inside (p.emb a) = false ∧ p.inside p.ad = false ∧ b8 (p.emb a) = b8 zero6 from fun h => ⟨not_right_in h _, not_right_in h _, by rw [not_right_emb h]⟩)
  have HT := Lib.hid (show p.right = true → p.inside (p.emb a) = true ∧ p.takes (p.emb a) = true ∧ b8 (p.ext (p.emb a)) = b8 a ∧ (p.emb a).getD 8 0 = 0 from fun h => by
    obtain ⟨h1, h2, h3, h4⟩ := emb_all hp ha h
    exact ⟨h1, h2, by rw [h3], h4⟩)
  have HS := Lib.hid (fun (h : p.right = true) => emb_inj hp ha hb h)
  have C7 := Lib.hid (show p.right = true → p.ln < 96 → ∀ W, Calls Try.prog 12 #[.agg p.vals.toArray, .agg (b8 ((p.emb a).set 15 last)).toArray] W fun e w' => e = .returned (.tuple #[.agg (b8 a).toArray, .bool true]) ∧ Below W.heap.size W w' from fun h h96 W => by
    obtain ⟨h1, h2⟩ := emb_last last hp ha h h96
    have h3 := extract_any p ((p.emb a).set 15 last) hp HL15.out W
    rwa [h1, h2] at h3)
  have C8 := Lib.hid (show ∀ (l : List Int), l.length = 16 → ∀ W, Calls Try.prog 12 #[.agg p.vals.toArray, .agg (b8 (l.set 8 1)).toArray] W fun e w' => e = .returned (.tuple #[.agg (b8 zero4).toArray, .bool false]) ∧ Below W.heap.size W w' from fun l hl W => by
    have h0 : p.takes (l.set 8 1) = false := takes_8 (by rw [List.getD_eq_getElem?_getD, List.getElem?_set_self (by omega)]; decide)
    have h3 := extract_any p (l.set 8 1) hp (by rw [List.length_set]; exact hl) W
    rwa [not_takes_ext h0, h0] at h3)
  have HEL := Lib.hid (emb_len p hp a)
  have HQ6 := Lib.hid (fun W => eq6 _ _ (emb_len p hp a) (emb_len p hp b) W)
  have HQZ : Hid (∀ W, (binOp .eql 23 (.agg (b8 zero6).toArray) (.agg (b8 zero6).toArray)).run Try.prog W = .ok (.bool true) W) := Lib.hid (fun W => by rw [eq6 _ _ rfl rfl W, beq_self_eq_true])
  have hq4 := fun W => eq4 a b ha hb W
  have hn4 : ∀ W, (binOp .neq 31 (.agg (b8 a).toArray) (.agg (b8 a).toArray)).run Try.prog W = .ok (.bool false) W := fun W => by rw [neq4 _ _ ha ha W, beq_self_eq_true]; rfl
  have HBD : Hid (∀ (ρ : Operand → Value) (d : Option Tmp) (ty : TypeId) (ps : String) (af : Array Edge) (W : World), (execOp ρ { dst := d, op := .build 23 #[], type := ty, pos := ps, after := af, guard := none }).run Try.prog W = .ok (.value (.agg (b8 zero6).toArray)) W) := Lib.hid (fun ρ d ty ps af W => Try.execZ6 ρ d ty ps af none W)
  have HIP := Lib.hid (Try.infoNet p hp)
  have HI8 := Lib.hid (Try.infoSix p.ad hp)
  have HIA := Lib.hid (Try.infoFour a ha)
  have HIB := Lib.hid (Try.infoFour b hb)
  have HIE := Lib.hid (Try.infoSix _ (emb_len p hp a))
  have HIF := Lib.hid (Try.infoSix _ (emb_len p hp b))
  have HOA := Lib.hid (b8_one a)
  have HOE := Lib.hid (b8_one (p.emb a))
  have HOF := Lib.hid (b8_one (p.emb b))
  have HLA : Hid ((b8 a).length = 4) := Lib.hid ((b8_len _).trans ha)
  have HLE : Hid ((b8 (p.emb a)).length = 16) := Lib.hid ((b8_len _).trans (emb_len p hp a))
  have HLF : Hid ((b8 (p.emb b)).length = 16) := Lib.hid ((b8_len _).trans (emb_len p hp b))
  have HNF := Lib.hid (nf_of p hp)
  have HK1 := Lib.hid (kp3 w 26 31 31 p.vals (b8 a) (b8 b))
  clear hp ha hb
  generalize (p.emb a == p.emb b) = s1 at *
  generalize (a == b) = s2 at *
  generalize p.ad.getD 8 0 = d8 at *
  generalize p.inside (p.emb a) = f1 at *
  generalize p.inside p.ad = f2 at *
  generalize p.takes (p.emb a) = f3 at *
  generalize b8 (p.ext (p.emb a)) = VD at *
  generalize b8 (p.emb b) = VF at *
  generalize p.emb a = E at *
  generalize hVE : b8 E = VE at *
  have HVE := Lib.hid hVE
  clear hVE
  generalize p.right = pr at *
  generalize p.ln = L at *
  generalize b8 p.ad = X8 at *
  generalize p.vals = V at *
  generalize b8 zero6 = VZ at *
  generalize b8 zero4 = VZ4 at *
  generalize b8 a = VA at *
  generalize b8 b = VB at *
  generalize hw1 : ((w.alloc (.cells V.toArray 26)).alloc (.cells VA.toArray 31)).alloc (.cells VB.toArray 31) = w1 at *
  go_enter Try.func6, Try.ntmps6
  go_upto_region 1 with (fail)
  clear hw1
  go_wp2_with (fail)
  refine (HA.out _).mono ?_
  rintro e w2 ⟨rfl, bb⟩
  have HK2 := Lib.hid (HK1.out.below bb (Nat.le_refl _))
  clear bb HK1
  go_upto_region 3 with (fail)
  have hr0 := HK2.out.tl.tl.hd.range
  have hr1 := HK2.out.tl.hd.range
  go_wp2_with (first | (refine wpList_load_mid rfl 26 _ rfl (w.heap.size) 0 rfl V _ hr0 Try.underlying26 rfl HIP.out ?_) | (refine wpList_load_mid rfl 31 _ rfl (w.heap.size + 1) 0 rfl VA _ hr1 Try.underlying31 rfl HIA.out ?_))
  clear hr0 hr1
  refine (C1.out _).mono ?_
  rintro e w3 ⟨rfl, bb⟩
  have HK3 := Lib.hid (HK2.out.below bb (Nat.le_refl _))
  clear bb HK2
  have ht := (bk_new w3 23 ([.int .u8 0, .int .u8 0, .int .u8 0, .int .u8 0, .int .u8 0, .int .u8 0, .int .u8 0, .int .u8 0, .int .u8 0, .int .u8 0, .int .u8 0, .int .u8 0, .int .u8 0, .int .u8 0, .int .u8 0, .int .u8 0] : List Value).toArray).there VE.toArray.size (by have := HLE.out; simp; omega)
  go_upto_region 4 with ((refine wpList_store_mid rfl 23 _ _ rfl w3.heap.size 0 VE.toArray rfl rfl ht (by simpa using HIE.out) HOE.out ?_))
  have HK4 := Lib.hid (HK3.out.put 23 ([.int .u8 0, .int .u8 0, .int .u8 0, .int .u8 0, .int .u8 0, .int .u8 0, .int .u8 0, .int .u8 0, .int .u8 0, .int .u8 0, .int .u8 0, .int .u8 0, .int .u8 0, .int .u8 0, .int .u8 0, .int .u8 0] : List Value).toArray VE (by have := HLE.out; simp; omega))
  have HGg1 := Lib.hid HK3.out.ne
  have HBg1 := Lib.hid HK3.out.2.2
  clear ht HK3
  generalize (w3.alloc (.cells ([.int .u8 0, .int .u8 0, .int .u8 0, .int .u8 0, .int .u8 0, .int .u8 0, .int .u8 0, .int .u8 0, .int .u8 0, .int .u8 0, .int .u8 0, .int .u8 0, .int .u8 0, .int .u8 0, .int .u8 0, .int .u8 0] : List Value).toArray 23)).setCells w3.heap.size 0 VE = w4 at *
  generalize w3.heap.size = g1 at *
  have hr0 := HK4.out.tl.tl.tl.hd.range
  have hr1 := HK4.out.tl.hd.range
  go_wp2_with (first | (refine wpList_load_mid rfl 26 _ rfl (w.heap.size) 0 rfl V _ hr0 Try.underlying26 rfl HIP.out ?_) | (refine wpList_load_mid rfl 31 _ rfl (w.heap.size + 1 + 1) 0 rfl VB _ hr1 Try.underlying31 rfl HIB.out ?_))
  clear hr0 hr1
  refine (C2.out _).mono ?_
  rintro e w5 ⟨rfl, bb⟩
  have HK5 := Lib.hid (HK4.out.below bb (Nat.le_refl _))
  clear bb HK4
  have ht := (bk_new w5 23 ([.int .u8 0, .int .u8 0, .int .u8 0, .int .u8 0, .int .u8 0, .int .u8 0, .int .u8 0, .int .u8 0, .int .u8 0, .int .u8 0, .int .u8 0, .int .u8 0, .int .u8 0, .int .u8 0, .int .u8 0, .int .u8 0] : List Value).toArray).there VF.toArray.size (by have := HLF.out; simp; omega)
  go_upto_region 5 with ((refine wpList_store_mid rfl 23 _ _ rfl w5.heap.size 0 VF.toArray rfl rfl ht (by simpa using HIF.out) HOF.out ?_))
  have HK6 := Lib.hid (HK5.out.put 23 ([.int .u8 0, .int .u8 0, .int .u8 0, .int .u8 0, .int .u8 0, .int .u8 0, .int .u8 0, .int .u8 0, .int .u8 0, .int .u8 0, .int .u8 0, .int .u8 0, .int .u8 0, .int .u8 0, .int .u8 0, .int .u8 0] : List Value).toArray VF (by have := HLF.out; simp; omega))
  have HGg2 := Lib.hid HK5.out.ne
  have HBg2 := Lib.hid HK5.out.2.2
  clear ht HK5
  generalize (w5.alloc (.cells ([.int .u8 0, .int .u8 0, .int .u8 0, .int .u8 0, .int .u8 0, .int .u8 0, .int .u8 0, .int .u8 0, .int .u8 0, .int .u8 0, .int .u8 0, .int .u8 0, .int .u8 0, .int .u8 0, .int .u8 0, .int .u8 0] : List Value).toArray 23)).setCells w5.heap.size 0 VF = w6 at *
  generalize w5.heap.size = g2 at *
  cases pr
  · obtain ⟨e1, e2, e3⟩ := HF.out rfl
    have e4 := e3.symm
    clear e3
    subst e1 e2 e4
    clear HF HT HS C7 C8 HQ6
    have hqz := HQZ.out
    have hr0 := HK6.out.tl.tl.tl.tl.hd.range
    go_wp2_with ((refine wpList_load_mid rfl 26 _ rfl (w.heap.size) 0 rfl V _ hr0 Try.underlying26 rfl HIP.out ?_))
    clear hr0
    refine (C3.out _).mono ?_
    rintro e w7 ⟨rfl, bb⟩
    have HK7 := Lib.hid (HK6.out.below bb (Nat.le_refl _))
    clear bb HK6
    have hr0 := HK7.out.tl.hd.range
    have hr0 := HK7.out.tl.tl.tl.tl.hd.range
    have hr1 := HK7.out.tl.hd.range
    go_wp2_with (first | (refine wpList_load_mid rfl 23 _ rfl (g1) 0 rfl VZ _ hr0 Try.underlying23 rfl HIE.out ?_) | (refine Great.wpList_readTo rfl _ rfl (.agg VZ.toArray) (HBD.out _ _ _ _ _ _) ?_) | (refine wpList_load_if (by rfl) 26 _ rfl (w.heap.size) 0 rfl V _ hr0 Try.underlying26 rfl HIP.out ?_) | (refine wpList_load_if (by rfl) 23 _ rfl (g1) 0 rfl VZ _ hr1 Try.underlying23 rfl HIE.out ?_))
    clear hr0 hr1
    refine (C4.out _).mono ?_
    rintro e w8 ⟨rfl, bb⟩
    have HK8 := Lib.hid (HK7.out.below bb (Nat.le_refl _))
    clear bb HK7
    have hr0 := HK8.out.tl.tl.tl.tl.hd.range
    have hrA := (net_s HNF.out HK8.out.tl.tl.tl.tl.hd).1
    go_wp2_with (first | (refine wpList_load_if (by rfl) 26 _ rfl (w.heap.size) 0 rfl V _ hr0 Try.underlying26 rfl HIP.out ?_) | (refine wpList_load_if (by rfl) 23 _ rfl w.heap.size 0 rfl X8 _ hrA Try.underlying23 rfl HI8.out ?_))
    clear hr0 hrA
    refine (C5.out _).mono ?_
    rintro e w9 ⟨rfl, bb⟩
    have HK9 := Lib.hid (HK8.out.below bb (Nat.le_refl _))
    clear bb HK8
    go_wp2_with (fail)
    go_ret
    exact ⟨rfl, HK9.out.2.1⟩
  · obtain ⟨e1, e2, e3, e5⟩ := HT.out rfl
    have e4 := e3.symm
    clear e3
    have HE8 := Lib.hid e5
    clear e5
    have e6 := (HS.out rfl).symm
    subst e1 e2 e4
    subst e6
    have HC7 := Lib.hid (C7.out rfl)
    clear HF HT HS C7
    have hq6 := HQ6.out
    have hr0 := HK6.out.tl.tl.tl.tl.hd.range
    go_wp2_with ((refine wpList_load_mid rfl 26 _ rfl (w.heap.size) 0 rfl V _ hr0 Try.underlying26 rfl HIP.out ?_))
    clear hr0
    refine (C3.out _).mono ?_
    rintro e w7 ⟨rfl, bb⟩
    have HK7 := Lib.hid (HK6.out.below bb (Nat.le_refl _))
    clear bb HK6
    go_upto_region 9 with (fail)
    have hr0 := HK7.out.tl.tl.tl.tl.hd.range
    have hr1 := HK7.out.tl.hd.range
    go_wp2_with (first | (refine wpList_load_mid rfl 26 _ rfl (w.heap.size) 0 rfl V _ hr0 Try.underlying26 rfl HIP.out ?_) | (refine wpList_load_mid rfl 23 _ rfl (g1) 0 rfl VE _ hr1 Try.underlying23 rfl HIE.out ?_))
    clear hr0 hr1
    refine (C6.out _).mono ?_
    rintro e w8 ⟨rfl, bb⟩
    have HK8 := Lib.hid (HK7.out.below bb (Nat.le_refl _))
    clear bb HK7
    have ht := (bk_new w8 31 ([.int .u8 0, .int .u8 0, .int .u8 0, .int .u8 0] : List Value).toArray).there VA.toArray.size (by have := HLA.out; simp; omega)
    go_upto_region 10 with ((refine wpList_store_mid rfl 31 _ _ rfl w8.heap.size 0 VA.toArray rfl rfl ht (by simpa using HIA.out) HOA.out ?_))
    have HK9 := Lib.hid (HK8.out.put 31 ([.int .u8 0, .int .u8 0, .int .u8 0, .int .u8 0] : List Value).toArray VA (by have := HLA.out; simp; omega))
    have HGg3 := Lib.hid HK8.out.ne
    have HBg3 := Lib.hid HK8.out.2.2
    clear ht HK8
    generalize (w8.alloc (.cells ([.int .u8 0, .int .u8 0, .int .u8 0, .int .u8 0] : List Value).toArray 31)).setCells w8.heap.size 0 VA = w9 at *
    generalize w8.heap.size = g3 at *
    have H8 : Hid (VE[8]? = some (.int .u8 0)) := Lib.hid (by rw [← HVE.out, b8_at E 8 (by have := HEL.out; omega), HE8.out])
    have KR : ∀ W : World, Kp w w.heap.size [(g3, 31, VA), (g2, 23, VF), (g1, 23, VE), (w.heap.size + 1 + 1, 31, VB), (w.heap.size + 1, 31, VA), (w.heap.size, 26, V)] W → (fun w' => Kp w w.heap.size [(g3, 31, VA), (g2, 23, VF), (g1, 23, VE), (w.heap.size + 1 + 1, 31, VB), (w.heap.size + 1, 31, VA), (w.heap.size, 26, V)] w' ∧ w'.rangeAt (w.heap.size) 0 V ∧ w'.rangeAt (g1) 0 VE ∧ w'.rangeAt (g2) 0 VF ∧ w'.rangeAt (g3) 0 VA ∧ w'.rangeAt (w.heap.size + 1) 0 VA ∧ w'.rangeAt (w.heap.size + 1 + 1) 0 VB ∧ w'.cell? ⟨g1, 8, none⟩ = some (.int .u8 0)) W := fun W k => ⟨k, k.tl.tl.tl.tl.tl.hd.range, k.tl.tl.hd.range, k.tl.hd.range, k.hd.range, k.tl.tl.tl.tl.hd.range, k.tl.tl.tl.hd.range, k.tl.tl.hd.at H8.out⟩
    have HKR := Lib.hid KR
    clear KR
    cases s2
    · skip
      refine wp_region_noPanic ?_
      refine wp_region_held_drew (S := fun w' => Kp w w.heap.size [(g3, 31, VA), (g2, 23, VF), (g1, 23, VE), (w.heap.size + 1 + 1, 31, VB), (w.heap.size + 1, 31, VA), (w.heap.size, 26, V)] w' ∧ w'.rangeAt (w.heap.size) 0 V ∧ w'.rangeAt (g1) 0 VE ∧ w'.rangeAt (g2) 0 VF ∧ w'.rangeAt (g3) 0 VA ∧ w'.rangeAt (w.heap.size + 1) 0 VA ∧ w'.rangeAt (w.heap.size + 1 + 1) 0 VB ∧ w'.cell? ⟨g1, 8, none⟩ = some (.int .u8 0)) (by kernel_rfl) (HKR.out _ HK9.out.drew) (fun hHeld => ?_)
      refine wpAnyH_take (i := 0) (oi := { dst := some 62, op := Op.load 26 (Operand.tmp 4), type := 26, pos := "outright.go:22", after := #[], guard := none }) (v := .agg (V).toArray) rfl (by kernel_rfl) (by kernel_rfl) (by kernel_rfl) (fun _ _ _ h => h) (yieldsIf_load_mid (by rfl) _ _ rfl (w.heap.size) 0 rfl (V) _ (fun ww hSw => hSw.2.1) Try.underlying26 rfl HIP.out) (by assumption) ?_
      (try simp only [Act.put, List.setIfInBounds_toArray, List.set_cons_zero, List.set_cons_succ])
      refine wpAnyH_take (i := 1) (oi := { dst := some 63, op := Op.load 23 (Operand.tmp 9), type := 23, pos := "outright.go:22", after := #[], guard := none }) (v := .agg (VE).toArray) rfl (by kernel_rfl) (by kernel_rfl) (by kernel_rfl) (fun _ _ _ h => h) (yieldsIf_load_mid (by rfl) _ _ rfl (g1) 0 rfl (VE) _ (fun ww hSw => hSw.2.2.1) Try.underlying23 rfl HIE.out) (by assumption) ?_
      (try simp only [Act.put, List.setIfInBounds_toArray, List.set_cons_zero, List.set_cons_succ])
      refine wpAnyH_ready (rs := [2]) (by kernel_rfl) (by simp) ?_
      refine AllReadyH.cons (o := { dst := some 64, op := Op.call { callee := Callee.value (Operand.func 19), args := #[Operand.tmp 62, Operand.tmp 63], argTypes := #[26, 23] }, type := 4, pos := "outright.go:22", after := #[{ on := 0, ground := Ground.data }, { on := 1, ground := Ground.data }], guard := none }) rfl (fun K hK => ?_) AllReadyH.nil
      go_simp
      ((with_reducible refine (C4.out _).mono ?_); rintro e wR ⟨rfl, hb9⟩)
      refine hK.out _ _ (HKR.out _ ((And.left hHeld).below hb9 (Nat.le_refl _))) (fun hHeld => ?_)
      clear hK K
      (try simp only [Act.put, List.setIfInBounds_toArray, List.set_cons_zero, List.set_cons_succ])
      refine wpAnyH_take (i := 3) (oi := { dst := some 65, op := Op.unOp UnOp.not 4 (Operand.tmp 64), type := 4, pos := "outright.go:22", after := #[{ on := 2, ground := Ground.data }], guard := none }) (v := ?_) rfl (by kernel_rfl) (by kernel_rfl) (by kernel_rfl) (fun _ _ _ h => h) (Or.inl ⟨by rfl, ?_⟩) (by assumption) ?_
      rotate_left
      · (intro ww hSw; (try dsimp only at hSw); go_simp; try with_reducible rfl)
      (try simp only [Act.put, List.setIfInBounds_toArray, List.set_cons_zero, List.set_cons_succ])
      refine wpAnyH_take (i := 4) (oi := { dst := some 66, op := Op.move (Operand.tmp 65), type := 4, pos := "outright.go:22", after := #[{ on := 3, ground := Ground.data }, { on := 2, ground := Ground.chain }], guard := none }) (v := ?_) rfl (by kernel_rfl) (by kernel_rfl) (by kernel_rfl) (fun _ _ _ h => h) (Or.inl ⟨by rfl, ?_⟩) (by assumption) ?_
      rotate_left
      · (intro ww hSw; (try dsimp only at hSw); go_simp; try with_reducible rfl)
      (try simp only [Act.put, List.setIfInBounds_toArray, List.set_cons_zero, List.set_cons_succ])
      refine wpAnyH_take (i := 5) (oi := { dst := some 67, op := Op.move (Operand.tmp 14), type := 4, pos := "outright.go:22", after := #[{ on := 4, ground := Ground.guard }], guard := some (4, false) }) (v := ?_) rfl (by kernel_rfl) (by kernel_rfl) (by kernel_rfl) (fun _ _ _ h => h) (Or.inl ⟨by rfl, ?_⟩) (by assumption) ?_
      rotate_left
      · (intro ww hSw; (try dsimp only at hSw); go_simp; try with_reducible rfl)
      (try simp only [Act.put, List.setIfInBounds_toArray, List.set_cons_zero, List.set_cons_succ])
      refine wpAnyH_take (i := 6) (oi := { dst := some 68, op := Op.unOp UnOp.not 4 (Operand.tmp 67), type := 4, pos := "outright.go:22", after := #[{ on := 5, ground := Ground.data }, { on := 4, ground := Ground.guard }], guard := some (4, false) }) (v := ?_) rfl (by kernel_rfl) (by kernel_rfl) (by kernel_rfl) (fun _ _ _ h => h) (Or.inl ⟨by rfl, ?_⟩) (by assumption) ?_
      rotate_left
      · (intro ww hSw; (try dsimp only at hSw); go_simp; try with_reducible rfl)
      (try simp only [Act.put, List.setIfInBounds_toArray, List.set_cons_zero, List.set_cons_succ])
      refine wpAnyH_take (i := 7) (oi := { dst := some 69, op := Op.pick (Operand.tmp 66) (Operand.const (Value.bool true)) (Operand.tmp 68), type := 4, pos := "outright.go:22", after := #[{ on := 4, ground := Ground.data }, { on := 6, ground := Ground.data }], guard := none }) (v := ?_) rfl (by kernel_rfl) (by kernel_rfl) (by kernel_rfl) (fun _ _ _ h => h) (Or.inl ⟨by rfl, ?_⟩) (by assumption) ?_
      rotate_left
      · (intro ww hSw; (try dsimp only at hSw); go_simp; try with_reducible rfl)
      (try simp only [Act.put, List.setIfInBounds_toArray, List.set_cons_zero, List.set_cons_succ])
      refine wpAnyH_take (i := 8) (oi := { dst := some 70, op := Op.move (Operand.tmp 69), type := 4, pos := "outright.go:22", after := #[{ on := 7, ground := Ground.data }, { on := 4, ground := Ground.chain }], guard := none }) (v := ?_) rfl (by kernel_rfl) (by kernel_rfl) (by kernel_rfl) (fun _ _ _ h => h) (Or.inl ⟨by rfl, ?_⟩) (by assumption) ?_
      rotate_left
      · (intro ww hSw; (try dsimp only at hSw); go_simp; try with_reducible rfl)
      (try simp only [Act.put, List.setIfInBounds_toArray, List.set_cons_zero, List.set_cons_succ])
      refine wpAnyH_take (i := 9) (oi := { dst := some 71, op := Op.load 31 (Operand.tmp 13), type := 31, pos := "outright.go:22", after := #[{ on := 8, ground := Ground.guard }], guard := some (8, false) }) (v := .agg (VA).toArray) rfl (by kernel_rfl) (by kernel_rfl) (by kernel_rfl) (fun _ _ _ h => h) (yieldsIf_load_mid (by rfl) _ _ rfl (g3) 0 rfl (VA) _ (fun ww hSw => hSw.2.2.2.2.1) Try.underlying31 rfl HIA.out) (by assumption) ?_
      (try simp only [Act.put, List.setIfInBounds_toArray, List.set_cons_zero, List.set_cons_succ])
      refine wpAnyH_take (i := 10) (oi := { dst := some 72, op := Op.load 31 (Operand.tmp 5), type := 31, pos := "outright.go:22", after := #[{ on := 8, ground := Ground.guard }], guard := some (8, false) }) (v := .agg (VA).toArray) rfl (by kernel_rfl) (by kernel_rfl) (by kernel_rfl) (fun _ _ _ h => h) (yieldsIf_load_mid (by rfl) _ _ rfl (w.heap.size + 1) 0 rfl (VA) _ (fun ww hSw => hSw.2.2.2.2.2.1) Try.underlying31 rfl HIA.out) (by assumption) ?_
      (try simp only [Act.put, List.setIfInBounds_toArray, List.set_cons_zero, List.set_cons_succ])
      refine wpAnyH_take (i := 11) (oi := { dst := some 73, op := Op.binOp BinOp.neq 31 (Operand.tmp 71) (Operand.tmp 72) 31, type := 4, pos := "outright.go:22", after := #[{ on := 9, ground := Ground.data }, { on := 10, ground := Ground.data }, { on := 8, ground := Ground.guard }], guard := some (8, false) }) (v := ?_) rfl (by kernel_rfl) (by kernel_rfl) (by kernel_rfl) (fun _ _ _ h => h) (Or.inl ⟨by rfl, ?_⟩) (by assumption) ?_
      rotate_left
      · (intro ww hSw; (try dsimp only at hSw); go_simp; try with_reducible rfl)
      (try simp only [Act.put, List.setIfInBounds_toArray, List.set_cons_zero, List.set_cons_succ])
      refine wpAnyH_take (i := 12) (oi := { dst := some 74, op := Op.pick (Operand.tmp 70) (Operand.const (Value.bool true)) (Operand.tmp 73), type := 4, pos := "outright.go:22", after := #[{ on := 8, ground := Ground.data }, { on := 11, ground := Ground.data }], guard := none }) (v := ?_) rfl (by kernel_rfl) (by kernel_rfl) (by kernel_rfl) (fun _ _ _ h => h) (Or.inl ⟨by rfl, ?_⟩) (by assumption) ?_
      rotate_left
      · (intro ww hSw; (try dsimp only at hSw); go_simp; try with_reducible rfl)
      (try simp only [Act.put, List.setIfInBounds_toArray, List.set_cons_zero, List.set_cons_succ])
      refine wpAnyH_take (i := 13) (oi := { dst := some 75, op := Op.move (Operand.tmp 74), type := 4, pos := "outright.go:22", after := #[{ on := 12, ground := Ground.data }, { on := 8, ground := Ground.chain }], guard := none }) (v := ?_) rfl (by kernel_rfl) (by kernel_rfl) (by kernel_rfl) (fun _ _ _ h => h) (Or.inl ⟨by rfl, ?_⟩) (by assumption) ?_
      rotate_left
      · (intro ww hSw; (try dsimp only at hSw); go_simp; try with_reducible rfl)
      (try simp only [Act.put, List.setIfInBounds_toArray, List.set_cons_zero, List.set_cons_succ])
      refine wpAnyH_take (i := 14) (oi := { dst := some 76, op := Op.load 23 (Operand.tmp 9), type := 23, pos := "outright.go:22", after := #[{ on := 13, ground := Ground.guard }], guard := some (13, false) }) (v := .agg (VE).toArray) rfl (by kernel_rfl) (by kernel_rfl) (by kernel_rfl) (fun _ _ _ h => h) (yieldsIf_load_mid (by rfl) _ _ rfl (g1) 0 rfl (VE) _ (fun ww hSw => hSw.2.2.1) Try.underlying23 rfl HIE.out) (by assumption) ?_
      (try simp only [Act.put, List.setIfInBounds_toArray, List.set_cons_zero, List.set_cons_succ])
      refine wpAnyH_take (i := 15) (oi := { dst := some 77, op := Op.load 23 (Operand.tmp 11), type := 23, pos := "outright.go:22", after := #[{ on := 13, ground := Ground.guard }], guard := some (13, false) }) (v := .agg (VF).toArray) rfl (by kernel_rfl) (by kernel_rfl) (by kernel_rfl) (fun _ _ _ h => h) (yieldsIf_load_mid (by rfl) _ _ rfl (g2) 0 rfl (VF) _ (fun ww hSw => hSw.2.2.2.1) Try.underlying23 rfl HIF.out) (by assumption) ?_
      (try simp only [Act.put, List.setIfInBounds_toArray, List.set_cons_zero, List.set_cons_succ])
      refine wpAnyH_take (i := 16) (oi := { dst := some 78, op := Op.binOp BinOp.eql 23 (Operand.tmp 76) (Operand.tmp 77) 23, type := 4, pos := "outright.go:22", after := #[{ on := 14, ground := Ground.data }, { on := 15, ground := Ground.data }, { on := 13, ground := Ground.guard }], guard := some (13, false) }) (v := ?_) rfl (by kernel_rfl) (by kernel_rfl) (by kernel_rfl) (fun _ _ _ h => h) (Or.inl ⟨by rfl, ?_⟩) (by assumption) ?_
      rotate_left
      · (intro ww hSw; (try dsimp only at hSw); go_simp; try with_reducible rfl)
      (try simp only [Act.put, List.setIfInBounds_toArray, List.set_cons_zero, List.set_cons_succ])
      refine wpAnyH_take (i := 17) (oi := { dst := some 79, op := Op.load 31 (Operand.tmp 5), type := 31, pos := "outright.go:22", after := #[{ on := 13, ground := Ground.guard }], guard := some (13, false) }) (v := .agg (VA).toArray) rfl (by kernel_rfl) (by kernel_rfl) (by kernel_rfl) (fun _ _ _ h => h) (yieldsIf_load_mid (by rfl) _ _ rfl (w.heap.size + 1) 0 rfl (VA) _ (fun ww hSw => hSw.2.2.2.2.2.1) Try.underlying31 rfl HIA.out) (by assumption) ?_
      (try simp only [Act.put, List.setIfInBounds_toArray, List.set_cons_zero, List.set_cons_succ])
      refine wpAnyH_take (i := 18) (oi := { dst := some 80, op := Op.load 31 (Operand.tmp 6), type := 31, pos := "outright.go:22", after := #[{ on := 13, ground := Ground.guard }], guard := some (13, false) }) (v := .agg (VB).toArray) rfl (by kernel_rfl) (by kernel_rfl) (by kernel_rfl) (fun _ _ _ h => h) (yieldsIf_load_mid (by rfl) _ _ rfl (w.heap.size + 1 + 1) 0 rfl (VB) _ (fun ww hSw => hSw.2.2.2.2.2.2.1) Try.underlying31 rfl HIB.out) (by assumption) ?_
      (try simp only [Act.put, List.setIfInBounds_toArray, List.set_cons_zero, List.set_cons_succ])
      refine wpAnyH_take (i := 19) (oi := { dst := some 81, op := Op.binOp BinOp.eql 31 (Operand.tmp 79) (Operand.tmp 80) 31, type := 4, pos := "outright.go:22", after := #[{ on := 17, ground := Ground.data }, { on := 18, ground := Ground.data }, { on := 13, ground := Ground.guard }], guard := some (13, false) }) (v := ?_) rfl (by kernel_rfl) (by kernel_rfl) (by kernel_rfl) (fun _ _ _ h => h) (Or.inl ⟨by rfl, ?_⟩) (by assumption) ?_
      rotate_left
      · (intro ww hSw; (try dsimp only at hSw); go_simp; try with_reducible rfl)
      (try simp only [Act.put, List.setIfInBounds_toArray, List.set_cons_zero, List.set_cons_succ])
      refine wpAnyH_take (i := 20) (oi := { dst := some 82, op := Op.binOp BinOp.neq 4 (Operand.tmp 78) (Operand.tmp 81) 4, type := 4, pos := "outright.go:22", after := #[{ on := 16, ground := Ground.data }, { on := 19, ground := Ground.data }, { on := 13, ground := Ground.guard }], guard := some (13, false) }) (v := ?_) rfl (by kernel_rfl) (by kernel_rfl) (by kernel_rfl) (fun _ _ _ h => h) (Or.inl ⟨by rfl, ?_⟩) (by assumption) ?_
      rotate_left
      · (intro ww hSw; (try dsimp only at hSw); go_simp; try with_reducible rfl)
      (try simp only [Act.put, List.setIfInBounds_toArray, List.set_cons_zero, List.set_cons_succ])
      refine wpAnyH_take (i := 21) (oi := { dst := some 83, op := Op.pick (Operand.tmp 75) (Operand.const (Value.bool true)) (Operand.tmp 82), type := 4, pos := "outright.go:22", after := #[{ on := 13, ground := Ground.data }, { on := 20, ground := Ground.data }], guard := none }) (v := ?_) rfl (by kernel_rfl) (by kernel_rfl) (by kernel_rfl) (fun _ _ _ h => h) (Or.inl ⟨by rfl, ?_⟩) (by assumption) ?_
      rotate_left
      · (intro ww hSw; (try dsimp only at hSw); go_simp; try with_reducible rfl)
      (try simp only [Act.put, List.setIfInBounds_toArray, List.set_cons_zero, List.set_cons_succ])
      refine wpAnyH_take (i := 22) (oi := { dst := some 84, op := Op.move (Operand.tmp 83), type := 4, pos := "outright.go:22", after := #[{ on := 21, ground := Ground.data }, { on := 13, ground := Ground.chain }], guard := none }) (v := ?_) rfl (by kernel_rfl) (by kernel_rfl) (by kernel_rfl) (fun _ _ _ h => h) (Or.inl ⟨by rfl, ?_⟩) (by assumption) ?_
      rotate_left
      · (intro ww hSw; (try dsimp only at hSw); go_simp; try with_reducible rfl)
      (try simp only [Act.put, List.setIfInBounds_toArray, List.set_cons_zero, List.set_cons_succ])
      refine wpAnyH_take (i := 23) (oi := { dst := some 85, op := Op.indexAddr 23 (Operand.tmp 9) (Operand.const (Value.int IntKind.i64 8)), type := 0, pos := "outright.go:22", after := #[{ on := 22, ground := Ground.guard }], guard := some (22, false) }) (v := ?_) rfl (by kernel_rfl) (by kernel_rfl) (by kernel_rfl) (fun _ _ _ h => h) (Or.inl ⟨by rfl, ?_⟩) (by assumption) ?_
      rotate_left
      · (intro ww hSw; (try dsimp only at hSw); go_simp; try with_reducible rfl)
      (try simp only [Act.put, List.setIfInBounds_toArray, List.set_cons_zero, List.set_cons_succ])
      refine wpAnyH_take (i := 24) (oi := { dst := some 86, op := Op.load 5 (Operand.tmp 85), type := 5, pos := "outright.go:22", after := #[{ on := 23, ground := Ground.data }, { on := 22, ground := Ground.guard }], guard := some (22, false) }) (v := ?_) rfl (by kernel_rfl) (by kernel_rfl) (by kernel_rfl) (fun _ _ _ h => h) (Or.inl ⟨by rfl, ?_⟩) (by assumption) ?_
      rotate_left
      · (intro ww hSw; (try dsimp only at hSw); go_simp; try with_reducible rfl)
      (try simp only [Act.put, List.setIfInBounds_toArray, List.set_cons_zero, List.set_cons_succ])
      refine wpAnyH_take (i := 25) (oi := { dst := some 87, op := Op.binOp BinOp.neq 5 (Operand.tmp 86) (Operand.const (Value.int IntKind.u8 0)) 5, type := 4, pos := "outright.go:22", after := #[{ on := 24, ground := Ground.data }, { on := 22, ground := Ground.guard }], guard := some (22, false) }) (v := ?_) rfl (by kernel_rfl) (by kernel_rfl) (by kernel_rfl) (fun _ _ _ h => h) (Or.inl ⟨by rfl, ?_⟩) (by assumption) ?_
      rotate_left
      · (intro ww hSw; (try dsimp only at hSw); go_simp; try with_reducible rfl)
      (try simp only [Act.put, List.setIfInBounds_toArray, List.set_cons_zero, List.set_cons_succ])
      refine wpAnyH_take (i := 26) (oi := { dst := some 88, op := Op.pick (Operand.tmp 84) (Operand.const (Value.bool true)) (Operand.tmp 87), type := 4, pos := "outright.go:22", after := #[{ on := 22, ground := Ground.data }, { on := 25, ground := Ground.data }], guard := none }) (v := ?_) rfl (by kernel_rfl) (by kernel_rfl) (by kernel_rfl) (fun _ _ _ h => h) (Or.inl ⟨by rfl, ?_⟩) (by assumption) ?_
      rotate_left
      · (intro ww hSw; (try dsimp only at hSw); go_simp; try with_reducible rfl)
      (try simp only [Act.put, List.setIfInBounds_toArray, List.set_cons_zero, List.set_cons_succ])
      refine wpAnyH_done (by kernel_rfl) ?_ _
      refine NoPanic.normal ?_
      have hKw := And.left hHeld
      rw [← HVE.out] at hKw
      clear hHeld HKR HK9
      generalize wR = w10 at *
      have HK10 := Lib.hid hKw
      clear hKw
      have HKs : Hid (Kp w w.heap.size [(g1, 23, (b8 E)), (g3, 31, VA), (g2, 23, VF), (w.heap.size + 1 + 1, 31, VB), (w.heap.size + 1, 31, VA), (w.heap.size, 26, V)] w10) := Lib.hid (HK10.out.sub (by intro y hy; simp only [List.mem_cons, List.not_mem_nil, or_false] at hy; rcases hy with rfl | rfl | rfl | rfl | rfl | rfl <;> simp))
      clear HK10
      have HK10 := HKs
      clear HKs
      have HNE : Hid (∀ y ∈ [(g3, 31, VA), (g2, 23, VF), (w.heap.size + 1 + 1, 31, VB), (w.heap.size + 1, 31, VA), (w.heap.size, 26, V)], y.1 ≠ g1) := Lib.hid (by
        intro y hy
        have h2 := HGg2.out (g1, 23, VE) (by simp)
        have h3 := HGg3.out (g1, 23, VE) (by simp)
        have h1 := HGg1.out
        simp only [List.mem_cons, List.not_mem_nil, or_false] at hy h1
        rcases hy with rfl | rfl | hy
        · exact Ne.symm h3
        · exact Ne.symm h2
        · exact h1 y hy)
      have HB1 := HBg1
      have HB3 := HBg3
      have HN3 : Hid (∀ y ∈ [(g1, 23, b8 (E.set 15 last)), (g2, 23, VF), (w.heap.size + 1 + 1, 31, VB), (w.heap.size + 1, 31, VA), (w.heap.size, 26, V)], y.1 ≠ g3) := Lib.hid (by
        intro y hy
        have h1 := HGg3.out (g1, 23, VE) (by simp)
        have h2 := HGg3.out
        simp only [List.mem_cons, List.not_mem_nil, or_false] at hy h2
        rcases hy with rfl | rfl | hy
        · exact h1
        · exact h2 _ (Or.inl rfl)
        · exact h2 y (Or.inr (Or.inr hy)))
      clear HGg1 HGg2 HGg3 HBg1 HBg2 HBg3
      have c16 := (net_s HNF.out HK10.out.tl.tl.tl.tl.tl.hd).2.2
      by_cases h96 : L < 96
      · have d96 := decide_eq_true h96
        have HC := Lib.hid (HC7.out h96)
        have cc := HK10.out.hd.at (i := 15) (b8_at E 15 (by have := HEL.out; omega))
        have cz := HK10.out.hd.z 15
        generalize E.getD 15 0 = dx at *
        have HKn := Lib.hid (HK10.out.set8 HNE.out HB1.out 15 last)
        clear HC7
        go_upto_region 14 with (fail)
        clear cc cz c16 d96 h96 HK10
        have HIg : Hid ((Try.prog.info? 23).map (·.size) = some (b8 (E.set 15 last)).length) := Lib.hid (Try.infoSix _ HL15.out)
        generalize w10.setCell ⟨g1, 15, none⟩ (.int .u8 last) = w11 at *
        have HK11 := HKn
        clear HKn
        generalize hVG : b8 (E.set 15 last) = VG at *
        have HVG := Lib.hid hVG
        clear hVG
        have hr0 := HK11.out.tl.tl.tl.tl.tl.hd.range
        have hr1 := HK11.out.hd.range
        go_wp2_with (first | (refine wpList_load_mid rfl 26 _ rfl (w.heap.size) 0 rfl V _ hr0 Try.underlying26 rfl HIP.out ?_) | (refine wpList_load_mid rfl 23 _ rfl (g1) 0 rfl VG _ hr1 Try.underlying23 rfl HIg.out ?_))
        clear hr0 hr1
        refine (HC.out _).mono ?_
        rintro e w12 ⟨rfl, bb⟩
        have HK12 := Lib.hid (HK11.out.below bb (Nat.le_refl _))
        clear bb HK11
        have HKs : Hid (Kp w w.heap.size [(g3, 31, VA), (g1, 23, VG), (g2, 23, VF), (w.heap.size + 1 + 1, 31, VB), (w.heap.size + 1, 31, VA), (w.heap.size, 26, V)] w12) := Lib.hid (HK12.out.sub (by intro y hy; simp only [List.mem_cons, List.not_mem_nil, or_false] at hy; rcases hy with rfl | rfl | rfl | rfl | rfl | rfl <;> simp))
        clear HK12
        have HK12 := HKs
        clear HKs
        have ht := HK12.out.hd.there VA.toArray.size (Nat.le_refl _)
        go_upto_region 15 with ((refine wpList_store_mid rfl 31 _ _ rfl g3 0 VA.toArray rfl rfl ht (by simpa using HIA.out) HOA.out ?_))
        have HK13 := Lib.hid (HK12.out.over HN3.out HB3.out VA rfl)
        clear ht HK12
        generalize w12.setCells g3 0 VA = w13 at *
        have hr0 := HK13.out.hd.range
        have hr1 := HK13.out.tl.tl.tl.tl.hd.range
        go_upto_region 17 with (first | (refine wpList_load_if (by rfl) 31 _ rfl (g3) 0 rfl VA _ hr0 Try.underlying31 rfl HIA.out ?_) | (refine wpList_load_if (by rfl) 31 _ rfl (w.heap.size + 1) 0 rfl VA _ hr1 Try.underlying31 rfl HIA.out ?_))
        clear hr0 hr1
        have HKs : Hid (Kp w w.heap.size [(g1, 23, VG), (g3, 31, VA), (g2, 23, VF), (w.heap.size + 1 + 1, 31, VB), (w.heap.size + 1, 31, VA), (w.heap.size, 26, V)] w13) := Lib.hid (HK13.out.sub (by intro y hy; simp only [List.mem_cons, List.not_mem_nil, or_false] at hy; rcases hy with rfl | rfl | rfl | rfl | rfl | rfl <;> simp))
        clear HK13
        have HK13 := HKs
        clear HKs
        rw [← HVG.out] at HK13
        clear HIg HVG
        have cc := HK13.out.hd.at (i := 8) (b8_at (E.set 15 last) 8 (by have := HEL.out; simp; omega))
        have cz := HK13.out.hd.z 8
        generalize (E.set 15 last).getD 8 0 = dx at *
        have HKn := Lib.hid (HK13.out.set8 HNE.out HB1.out 8 1)
        go_upto_region 18 with (fail)
        clear cc cz HK13
        have HIg : Hid ((Try.prog.info? 23).map (·.size) = some (b8 ((E.set 15 last).set 8 1)).length) := Lib.hid (Try.infoSix _ (by have := HEL.out; simp; omega))
        have HC8 := Lib.hid (C8.out (E.set 15 last) (by have := HEL.out; (try simp only [List.length_set]); omega))
        generalize w13.setCell ⟨g1, 8, none⟩ (.int .u8 1) = w14 at *
        have HK14 := HKn
        clear HKn C8
        generalize b8 ((E.set 15 last).set 8 1) = VH at *
        have hr0 := HK14.out.tl.tl.tl.tl.tl.hd.range
        have hr1 := HK14.out.hd.range
        go_wp2_with (first | (refine wpList_load_mid rfl 26 _ rfl (w.heap.size) 0 rfl V _ hr0 Try.underlying26 rfl HIP.out ?_) | (refine wpList_load_mid rfl 23 _ rfl (g1) 0 rfl VH _ hr1 Try.underlying23 rfl HIg.out ?_))
        clear hr0 hr1
        refine (HC8.out _).mono ?_
        rintro e w15 ⟨rfl, bb⟩
        have HK15 := Lib.hid (HK14.out.below bb (Nat.le_refl _))
        clear bb HK14
        go_wp2_with (fail)
        go_ret
        exact ⟨rfl, HK15.out.2.1⟩
      · have d96 := decide_eq_false h96
        go_upto_region 17 with (fail)
        clear c16 d96 h96 HC7
        have cc := HK10.out.hd.at (i := 8) (b8_at E 8 (by have := HEL.out; omega))
        have cz := HK10.out.hd.z 8
        generalize E.getD 8 0 = dx at *
        have HKn := Lib.hid (HK10.out.set8 HNE.out HB1.out 8 1)
        go_upto_region 18 with (fail)
        clear cc cz HK10
        have HIg : Hid ((Try.prog.info? 23).map (·.size) = some (b8 (E.set 8 1)).length) := Lib.hid (Try.infoSix _ (by have := HEL.out; simp; omega))
        have HC8 := Lib.hid (C8.out E (by have := HEL.out; (try simp only [List.length_set]); omega))
        generalize w10.setCell ⟨g1, 8, none⟩ (.int .u8 1) = w11 at *
        have HK11 := HKn
        clear HKn C8
        generalize b8 (E.set 8 1) = VH at *
        have hr0 := HK11.out.tl.tl.tl.tl.tl.hd.range
        have hr1 := HK11.out.hd.range
        go_wp2_with (first | (refine wpList_load_mid rfl 26 _ rfl (w.heap.size) 0 rfl V _ hr0 Try.underlying26 rfl HIP.out ?_) | (refine wpList_load_mid rfl 23 _ rfl (g1) 0 rfl VH _ hr1 Try.underlying23 rfl HIg.out ?_))
        clear hr0 hr1
        refine (HC8.out _).mono ?_
        rintro e w12 ⟨rfl, bb⟩
        have HK12 := Lib.hid (HK11.out.below bb (Nat.le_refl _))
        clear bb HK11
        go_wp2_with (fail)
        go_ret
        exact ⟨rfl, HK12.out.2.1⟩
    · skip
      refine wp_region_noPanic ?_
      refine wp_region_held_drew (S := fun w' => Kp w w.heap.size [(g3, 31, VA), (g2, 23, VF), (g1, 23, VE), (w.heap.size + 1 + 1, 31, VB), (w.heap.size + 1, 31, VA), (w.heap.size, 26, V)] w' ∧ w'.rangeAt (w.heap.size) 0 V ∧ w'.rangeAt (g1) 0 VE ∧ w'.rangeAt (g2) 0 VF ∧ w'.rangeAt (g3) 0 VA ∧ w'.rangeAt (w.heap.size + 1) 0 VA ∧ w'.rangeAt (w.heap.size + 1 + 1) 0 VB ∧ w'.cell? ⟨g1, 8, none⟩ = some (.int .u8 0)) (by kernel_rfl) (HKR.out _ HK9.out.drew) (fun hHeld => ?_)
      refine wpAnyH_take (i := 0) (oi := { dst := some 62, op := Op.load 26 (Operand.tmp 4), type := 26, pos := "outright.go:22", after := #[], guard := none }) (v := .agg (V).toArray) rfl (by kernel_rfl) (by kernel_rfl) (by kernel_rfl) (fun _ _ _ h => h) (yieldsIf_load_mid (by rfl) _ _ rfl (w.heap.size) 0 rfl (V) _ (fun ww hSw => hSw.2.1) Try.underlying26 rfl HIP.out) (by assumption) ?_
      (try simp only [Act.put, List.setIfInBounds_toArray, List.set_cons_zero, List.set_cons_succ])
      refine wpAnyH_take (i := 1) (oi := { dst := some 63, op := Op.load 23 (Operand.tmp 9), type := 23, pos := "outright.go:22", after := #[], guard := none }) (v := .agg (VE).toArray) rfl (by kernel_rfl) (by kernel_rfl) (by kernel_rfl) (fun _ _ _ h => h) (yieldsIf_load_mid (by rfl) _ _ rfl (g1) 0 rfl (VE) _ (fun ww hSw => hSw.2.2.1) Try.underlying23 rfl HIE.out) (by assumption) ?_
      (try simp only [Act.put, List.setIfInBounds_toArray, List.set_cons_zero, List.set_cons_succ])
      refine wpAnyH_ready (rs := [2]) (by kernel_rfl) (by simp) ?_
      refine AllReadyH.cons (o := { dst := some 64, op := Op.call { callee := Callee.value (Operand.func 19), args := #[Operand.tmp 62, Operand.tmp 63], argTypes := #[26, 23] }, type := 4, pos := "outright.go:22", after := #[{ on := 0, ground := Ground.data }, { on := 1, ground := Ground.data }], guard := none }) rfl (fun K hK => ?_) AllReadyH.nil
      go_simp
      ((with_reducible refine (C4.out _).mono ?_); rintro e wR ⟨rfl, hb9⟩)
      refine hK.out _ _ (HKR.out _ ((And.left hHeld).below hb9 (Nat.le_refl _))) (fun hHeld => ?_)
      clear hK K
      (try simp only [Act.put, List.setIfInBounds_toArray, List.set_cons_zero, List.set_cons_succ])
      refine wpAnyH_take (i := 3) (oi := { dst := some 65, op := Op.unOp UnOp.not 4 (Operand.tmp 64), type := 4, pos := "outright.go:22", after := #[{ on := 2, ground := Ground.data }], guard := none }) (v := ?_) rfl (by kernel_rfl) (by kernel_rfl) (by kernel_rfl) (fun _ _ _ h => h) (Or.inl ⟨by rfl, ?_⟩) (by assumption) ?_
      rotate_left
      · (intro ww hSw; (try dsimp only at hSw); go_simp; try with_reducible rfl)
      (try simp only [Act.put, List.setIfInBounds_toArray, List.set_cons_zero, List.set_cons_succ])
      refine wpAnyH_take (i := 4) (oi := { dst := some 66, op := Op.move (Operand.tmp 65), type := 4, pos := "outright.go:22", after := #[{ on := 3, ground := Ground.data }, { on := 2, ground := Ground.chain }], guard := none }) (v := ?_) rfl (by kernel_rfl) (by kernel_rfl) (by kernel_rfl) (fun _ _ _ h => h) (Or.inl ⟨by rfl, ?_⟩) (by assumption) ?_
      rotate_left
      · (intro ww hSw; (try dsimp only at hSw); go_simp; try with_reducible rfl)
      (try simp only [Act.put, List.setIfInBounds_toArray, List.set_cons_zero, List.set_cons_succ])
      refine wpAnyH_take (i := 5) (oi := { dst := some 67, op := Op.move (Operand.tmp 14), type := 4, pos := "outright.go:22", after := #[{ on := 4, ground := Ground.guard }], guard := some (4, false) }) (v := ?_) rfl (by kernel_rfl) (by kernel_rfl) (by kernel_rfl) (fun _ _ _ h => h) (Or.inl ⟨by rfl, ?_⟩) (by assumption) ?_
      rotate_left
      · (intro ww hSw; (try dsimp only at hSw); go_simp; try with_reducible rfl)
      (try simp only [Act.put, List.setIfInBounds_toArray, List.set_cons_zero, List.set_cons_succ])
      refine wpAnyH_take (i := 6) (oi := { dst := some 68, op := Op.unOp UnOp.not 4 (Operand.tmp 67), type := 4, pos := "outright.go:22", after := #[{ on := 5, ground := Ground.data }, { on := 4, ground := Ground.guard }], guard := some (4, false) }) (v := ?_) rfl (by kernel_rfl) (by kernel_rfl) (by kernel_rfl) (fun _ _ _ h => h) (Or.inl ⟨by rfl, ?_⟩) (by assumption) ?_
      rotate_left
      · (intro ww hSw; (try dsimp only at hSw); go_simp; try with_reducible rfl)
      (try simp only [Act.put, List.setIfInBounds_toArray, List.set_cons_zero, List.set_cons_succ])
      refine wpAnyH_take (i := 7) (oi := { dst := some 69, op := Op.pick (Operand.tmp 66) (Operand.const (Value.bool true)) (Operand.tmp 68), type := 4, pos := "outright.go:22", after := #[{ on := 4, ground := Ground.data }, { on := 6, ground := Ground.data }], guard := none }) (v := ?_) rfl (by kernel_rfl) (by kernel_rfl) (by kernel_rfl) (fun _ _ _ h => h) (Or.inl ⟨by rfl, ?_⟩) (by assumption) ?_
      rotate_left
      · (intro ww hSw; (try dsimp only at hSw); go_simp; try with_reducible rfl)
      (try simp only [Act.put, List.setIfInBounds_toArray, List.set_cons_zero, List.set_cons_succ])
      refine wpAnyH_take (i := 8) (oi := { dst := some 70, op := Op.move (Operand.tmp 69), type := 4, pos := "outright.go:22", after := #[{ on := 7, ground := Ground.data }, { on := 4, ground := Ground.chain }], guard := none }) (v := ?_) rfl (by kernel_rfl) (by kernel_rfl) (by kernel_rfl) (fun _ _ _ h => h) (Or.inl ⟨by rfl, ?_⟩) (by assumption) ?_
      rotate_left
      · (intro ww hSw; (try dsimp only at hSw); go_simp; try with_reducible rfl)
      (try simp only [Act.put, List.setIfInBounds_toArray, List.set_cons_zero, List.set_cons_succ])
      refine wpAnyH_take (i := 9) (oi := { dst := some 71, op := Op.load 31 (Operand.tmp 13), type := 31, pos := "outright.go:22", after := #[{ on := 8, ground := Ground.guard }], guard := some (8, false) }) (v := .agg (VA).toArray) rfl (by kernel_rfl) (by kernel_rfl) (by kernel_rfl) (fun _ _ _ h => h) (yieldsIf_load_mid (by rfl) _ _ rfl (g3) 0 rfl (VA) _ (fun ww hSw => hSw.2.2.2.2.1) Try.underlying31 rfl HIA.out) (by assumption) ?_
      (try simp only [Act.put, List.setIfInBounds_toArray, List.set_cons_zero, List.set_cons_succ])
      refine wpAnyH_take (i := 10) (oi := { dst := some 72, op := Op.load 31 (Operand.tmp 5), type := 31, pos := "outright.go:22", after := #[{ on := 8, ground := Ground.guard }], guard := some (8, false) }) (v := .agg (VA).toArray) rfl (by kernel_rfl) (by kernel_rfl) (by kernel_rfl) (fun _ _ _ h => h) (yieldsIf_load_mid (by rfl) _ _ rfl (w.heap.size + 1) 0 rfl (VA) _ (fun ww hSw => hSw.2.2.2.2.2.1) Try.underlying31 rfl HIA.out) (by assumption) ?_
      (try simp only [Act.put, List.setIfInBounds_toArray, List.set_cons_zero, List.set_cons_succ])
      refine wpAnyH_take (i := 11) (oi := { dst := some 73, op := Op.binOp BinOp.neq 31 (Operand.tmp 71) (Operand.tmp 72) 31, type := 4, pos := "outright.go:22", after := #[{ on := 9, ground := Ground.data }, { on := 10, ground := Ground.data }, { on := 8, ground := Ground.guard }], guard := some (8, false) }) (v := ?_) rfl (by kernel_rfl) (by kernel_rfl) (by kernel_rfl) (fun _ _ _ h => h) (Or.inl ⟨by rfl, ?_⟩) (by assumption) ?_
      rotate_left
      · (intro ww hSw; (try dsimp only at hSw); go_simp; try with_reducible rfl)
      (try simp only [Act.put, List.setIfInBounds_toArray, List.set_cons_zero, List.set_cons_succ])
      refine wpAnyH_take (i := 12) (oi := { dst := some 74, op := Op.pick (Operand.tmp 70) (Operand.const (Value.bool true)) (Operand.tmp 73), type := 4, pos := "outright.go:22", after := #[{ on := 8, ground := Ground.data }, { on := 11, ground := Ground.data }], guard := none }) (v := ?_) rfl (by kernel_rfl) (by kernel_rfl) (by kernel_rfl) (fun _ _ _ h => h) (Or.inl ⟨by rfl, ?_⟩) (by assumption) ?_
      rotate_left
      · (intro ww hSw; (try dsimp only at hSw); go_simp; try with_reducible rfl)
      (try simp only [Act.put, List.setIfInBounds_toArray, List.set_cons_zero, List.set_cons_succ])
      refine wpAnyH_take (i := 13) (oi := { dst := some 75, op := Op.move (Operand.tmp 74), type := 4, pos := "outright.go:22", after := #[{ on := 12, ground := Ground.data }, { on := 8, ground := Ground.chain }], guard := none }) (v := ?_) rfl (by kernel_rfl) (by kernel_rfl) (by kernel_rfl) (fun _ _ _ h => h) (Or.inl ⟨by rfl, ?_⟩) (by assumption) ?_
      rotate_left
      · (intro ww hSw; (try dsimp only at hSw); go_simp; try with_reducible rfl)
      (try simp only [Act.put, List.setIfInBounds_toArray, List.set_cons_zero, List.set_cons_succ])
      refine wpAnyH_take (i := 14) (oi := { dst := some 76, op := Op.load 23 (Operand.tmp 9), type := 23, pos := "outright.go:22", after := #[{ on := 13, ground := Ground.guard }], guard := some (13, false) }) (v := .agg (VE).toArray) rfl (by kernel_rfl) (by kernel_rfl) (by kernel_rfl) (fun _ _ _ h => h) (yieldsIf_load_mid (by rfl) _ _ rfl (g1) 0 rfl (VE) _ (fun ww hSw => hSw.2.2.1) Try.underlying23 rfl HIE.out) (by assumption) ?_
      (try simp only [Act.put, List.setIfInBounds_toArray, List.set_cons_zero, List.set_cons_succ])
      refine wpAnyH_take (i := 15) (oi := { dst := some 77, op := Op.load 23 (Operand.tmp 11), type := 23, pos := "outright.go:22", after := #[{ on := 13, ground := Ground.guard }], guard := some (13, false) }) (v := .agg (VF).toArray) rfl (by kernel_rfl) (by kernel_rfl) (by kernel_rfl) (fun _ _ _ h => h) (yieldsIf_load_mid (by rfl) _ _ rfl (g2) 0 rfl (VF) _ (fun ww hSw => hSw.2.2.2.1) Try.underlying23 rfl HIF.out) (by assumption) ?_
      (try simp only [Act.put, List.setIfInBounds_toArray, List.set_cons_zero, List.set_cons_succ])
      refine wpAnyH_take (i := 16) (oi := { dst := some 78, op := Op.binOp BinOp.eql 23 (Operand.tmp 76) (Operand.tmp 77) 23, type := 4, pos := "outright.go:22", after := #[{ on := 14, ground := Ground.data }, { on := 15, ground := Ground.data }, { on := 13, ground := Ground.guard }], guard := some (13, false) }) (v := ?_) rfl (by kernel_rfl) (by kernel_rfl) (by kernel_rfl) (fun _ _ _ h => h) (Or.inl ⟨by rfl, ?_⟩) (by assumption) ?_
      rotate_left
      · (intro ww hSw; (try dsimp only at hSw); go_simp; try with_reducible rfl)
      (try simp only [Act.put, List.setIfInBounds_toArray, List.set_cons_zero, List.set_cons_succ])
      refine wpAnyH_take (i := 17) (oi := { dst := some 79, op := Op.load 31 (Operand.tmp 5), type := 31, pos := "outright.go:22", after := #[{ on := 13, ground := Ground.guard }], guard := some (13, false) }) (v := .agg (VA).toArray) rfl (by kernel_rfl) (by kernel_rfl) (by kernel_rfl) (fun _ _ _ h => h) (yieldsIf_load_mid (by rfl) _ _ rfl (w.heap.size + 1) 0 rfl (VA) _ (fun ww hSw => hSw.2.2.2.2.2.1) Try.underlying31 rfl HIA.out) (by assumption) ?_
      (try simp only [Act.put, List.setIfInBounds_toArray, List.set_cons_zero, List.set_cons_succ])
      refine wpAnyH_take (i := 18) (oi := { dst := some 80, op := Op.load 31 (Operand.tmp 6), type := 31, pos := "outright.go:22", after := #[{ on := 13, ground := Ground.guard }], guard := some (13, false) }) (v := .agg (VB).toArray) rfl (by kernel_rfl) (by kernel_rfl) (by kernel_rfl) (fun _ _ _ h => h) (yieldsIf_load_mid (by rfl) _ _ rfl (w.heap.size + 1 + 1) 0 rfl (VB) _ (fun ww hSw => hSw.2.2.2.2.2.2.1) Try.underlying31 rfl HIB.out) (by assumption) ?_
      (try simp only [Act.put, List.setIfInBounds_toArray, List.set_cons_zero, List.set_cons_succ])
      refine wpAnyH_take (i := 19) (oi := { dst := some 81, op := Op.binOp BinOp.eql 31 (Operand.tmp 79) (Operand.tmp 80) 31, type := 4, pos := "outright.go:22", after := #[{ on := 17, ground := Ground.data }, { on := 18, ground := Ground.data }, { on := 13, ground := Ground.guard }], guard := some (13, false) }) (v := ?_) rfl (by kernel_rfl) (by kernel_rfl) (by kernel_rfl) (fun _ _ _ h => h) (Or.inl ⟨by rfl, ?_⟩) (by assumption) ?_
      rotate_left
      · (intro ww hSw; (try dsimp only at hSw); go_simp; try with_reducible rfl)
      (try simp only [Act.put, List.setIfInBounds_toArray, List.set_cons_zero, List.set_cons_succ])
      refine wpAnyH_take (i := 20) (oi := { dst := some 82, op := Op.binOp BinOp.neq 4 (Operand.tmp 78) (Operand.tmp 81) 4, type := 4, pos := "outright.go:22", after := #[{ on := 16, ground := Ground.data }, { on := 19, ground := Ground.data }, { on := 13, ground := Ground.guard }], guard := some (13, false) }) (v := ?_) rfl (by kernel_rfl) (by kernel_rfl) (by kernel_rfl) (fun _ _ _ h => h) (Or.inl ⟨by rfl, ?_⟩) (by assumption) ?_
      rotate_left
      · (intro ww hSw; (try dsimp only at hSw); go_simp; try with_reducible rfl)
      (try simp only [Act.put, List.setIfInBounds_toArray, List.set_cons_zero, List.set_cons_succ])
      refine wpAnyH_take (i := 21) (oi := { dst := some 83, op := Op.pick (Operand.tmp 75) (Operand.const (Value.bool true)) (Operand.tmp 82), type := 4, pos := "outright.go:22", after := #[{ on := 13, ground := Ground.data }, { on := 20, ground := Ground.data }], guard := none }) (v := ?_) rfl (by kernel_rfl) (by kernel_rfl) (by kernel_rfl) (fun _ _ _ h => h) (Or.inl ⟨by rfl, ?_⟩) (by assumption) ?_
      rotate_left
      · (intro ww hSw; (try dsimp only at hSw); go_simp; try with_reducible rfl)
      (try simp only [Act.put, List.setIfInBounds_toArray, List.set_cons_zero, List.set_cons_succ])
      refine wpAnyH_take (i := 22) (oi := { dst := some 84, op := Op.move (Operand.tmp 83), type := 4, pos := "outright.go:22", after := #[{ on := 21, ground := Ground.data }, { on := 13, ground := Ground.chain }], guard := none }) (v := ?_) rfl (by kernel_rfl) (by kernel_rfl) (by kernel_rfl) (fun _ _ _ h => h) (Or.inl ⟨by rfl, ?_⟩) (by assumption) ?_
      rotate_left
      · (intro ww hSw; (try dsimp only at hSw); go_simp; try with_reducible rfl)
      (try simp only [Act.put, List.setIfInBounds_toArray, List.set_cons_zero, List.set_cons_succ])
      refine wpAnyH_take (i := 23) (oi := { dst := some 85, op := Op.indexAddr 23 (Operand.tmp 9) (Operand.const (Value.int IntKind.i64 8)), type := 0, pos := "outright.go:22", after := #[{ on := 22, ground := Ground.guard }], guard := some (22, false) }) (v := ?_) rfl (by kernel_rfl) (by kernel_rfl) (by kernel_rfl) (fun _ _ _ h => h) (Or.inl ⟨by rfl, ?_⟩) (by assumption) ?_
      rotate_left
      · (intro ww hSw; (try dsimp only at hSw); go_simp; try with_reducible rfl)
      (try simp only [Act.put, List.setIfInBounds_toArray, List.set_cons_zero, List.set_cons_succ])
      refine wpAnyH_take (i := 24) (oi := { dst := some 86, op := Op.load 5 (Operand.tmp 85), type := 5, pos := "outright.go:22", after := #[{ on := 23, ground := Ground.data }, { on := 22, ground := Ground.guard }], guard := some (22, false) }) (v := ?_) rfl (by kernel_rfl) (by kernel_rfl) (by kernel_rfl) (fun _ _ _ h => h) (Or.inl ⟨by rfl, ?_⟩) (by assumption) ?_
      rotate_left
      · (intro ww hSw; (try dsimp only at hSw); go_simp; try with_reducible rfl)
      (try simp only [Act.put, List.setIfInBounds_toArray, List.set_cons_zero, List.set_cons_succ])
      refine wpAnyH_take (i := 25) (oi := { dst := some 87, op := Op.binOp BinOp.neq 5 (Operand.tmp 86) (Operand.const (Value.int IntKind.u8 0)) 5, type := 4, pos := "outright.go:22", after := #[{ on := 24, ground := Ground.data }, { on := 22, ground := Ground.guard }], guard := some (22, false) }) (v := ?_) rfl (by kernel_rfl) (by kernel_rfl) (by kernel_rfl) (fun _ _ _ h => h) (Or.inl ⟨by rfl, ?_⟩) (by assumption) ?_
      rotate_left
      · (intro ww hSw; (try dsimp only at hSw); go_simp; try with_reducible rfl)
      (try simp only [Act.put, List.setIfInBounds_toArray, List.set_cons_zero, List.set_cons_succ])
      refine wpAnyH_take (i := 26) (oi := { dst := some 88, op := Op.pick (Operand.tmp 84) (Operand.const (Value.bool true)) (Operand.tmp 87), type := 4, pos := "outright.go:22", after := #[{ on := 22, ground := Ground.data }, { on := 25, ground := Ground.data }], guard := none }) (v := ?_) rfl (by kernel_rfl) (by kernel_rfl) (by kernel_rfl) (fun _ _ _ h => h) (Or.inl ⟨by rfl, ?_⟩) (by assumption) ?_
      rotate_left
      · (intro ww hSw; (try dsimp only at hSw); go_simp; try with_reducible rfl)
      (try simp only [Act.put, List.setIfInBounds_toArray, List.set_cons_zero, List.set_cons_succ])
      refine wpAnyH_done (by kernel_rfl) ?_ _
      refine NoPanic.normal ?_
      have hKw := And.left hHeld
      rw [← HVE.out] at hKw
      clear hHeld HKR HK9
      generalize wR = w10 at *
      have HK10 := Lib.hid hKw
      clear hKw
      have HKs : Hid (Kp w w.heap.size [(g1, 23, (b8 E)), (g3, 31, VA), (g2, 23, VF), (w.heap.size + 1 + 1, 31, VB), (w.heap.size + 1, 31, VA), (w.heap.size, 26, V)] w10) := Lib.hid (HK10.out.sub (by intro y hy; simp only [List.mem_cons, List.not_mem_nil, or_false] at hy; rcases hy with rfl | rfl | rfl | rfl | rfl | rfl <;> simp))
      clear HK10
      have HK10 := HKs
      clear HKs
      have HNE : Hid (∀ y ∈ [(g3, 31, VA), (g2, 23, VF), (w.heap.size + 1 + 1, 31, VB), (w.heap.size + 1, 31, VA), (w.heap.size, 26, V)], y.1 ≠ g1) := Lib.hid (by
        intro y hy
        have h2 := HGg2.out (g1, 23, VE) (by simp)
        have h3 := HGg3.out (g1, 23, VE) (by simp)
        have h1 := HGg1.out
        simp only [List.mem_cons, List.not_mem_nil, or_false] at hy h1
        rcases hy with rfl | rfl | hy
        · exact Ne.symm h3
        · exact Ne.symm h2
        · exact h1 y hy)
      have HB1 := HBg1
      have HB3 := HBg3
      have HN3 : Hid (∀ y ∈ [(g1, 23, b8 (E.set 15 last)), (g2, 23, VF), (w.heap.size + 1 + 1, 31, VB), (w.heap.size + 1, 31, VA), (w.heap.size, 26, V)], y.1 ≠ g3) := Lib.hid (by
        intro y hy
        have h1 := HGg3.out (g1, 23, VE) (by simp)
        have h2 := HGg3.out
        simp only [List.mem_cons, List.not_mem_nil, or_false] at hy h2
        rcases hy with rfl | rfl | hy
        · exact h1
        · exact h2 _ (Or.inl rfl)
        · exact h2 y (Or.inr (Or.inr hy)))
      clear HGg1 HGg2 HGg3 HBg1 HBg2 HBg3
      have c16 := (net_s HNF.out HK10.out.tl.tl.tl.tl.tl.hd).2.2
      by_cases h96 : L < 96
      · have d96 := decide_eq_true h96
        have HC := Lib.hid (HC7.out h96)
        have cc := HK10.out.hd.at (i := 15) (b8_at E 15 (by have := HEL.out; omega))
        have cz := HK10.out.hd.z 15
        generalize E.getD 15 0 = dx at *
        have HKn := Lib.hid (HK10.out.set8 HNE.out HB1.out 15 last)
        clear HC7
        go_upto_region 14 with (fail)
        clear cc cz c16 d96 h96 HK10
        have HIg : Hid ((Try.prog.info? 23).map (·.size) = some (b8 (E.set 15 last)).length) := Lib.hid (Try.infoSix _ HL15.out)
        generalize w10.setCell ⟨g1, 15, none⟩ (.int .u8 last) = w11 at *
        have HK11 := HKn
        clear HKn
        generalize hVG : b8 (E.set 15 last) = VG at *
        have HVG := Lib.hid hVG
        clear hVG
        have hr0 := HK11.out.tl.tl.tl.tl.tl.hd.range
        have hr1 := HK11.out.hd.range
        go_wp2_with (first | (refine wpList_load_mid rfl 26 _ rfl (w.heap.size) 0 rfl V _ hr0 Try.underlying26 rfl HIP.out ?_) | (refine wpList_load_mid rfl 23 _ rfl (g1) 0 rfl VG _ hr1 Try.underlying23 rfl HIg.out ?_))
        clear hr0 hr1
        refine (HC.out _).mono ?_
        rintro e w12 ⟨rfl, bb⟩
        have HK12 := Lib.hid (HK11.out.below bb (Nat.le_refl _))
        clear bb HK11
        have HKs : Hid (Kp w w.heap.size [(g3, 31, VA), (g1, 23, VG), (g2, 23, VF), (w.heap.size + 1 + 1, 31, VB), (w.heap.size + 1, 31, VA), (w.heap.size, 26, V)] w12) := Lib.hid (HK12.out.sub (by intro y hy; simp only [List.mem_cons, List.not_mem_nil, or_false] at hy; rcases hy with rfl | rfl | rfl | rfl | rfl | rfl <;> simp))
        clear HK12
        have HK12 := HKs
        clear HKs
        have ht := HK12.out.hd.there VA.toArray.size (Nat.le_refl _)
        go_upto_region 15 with ((refine wpList_store_mid rfl 31 _ _ rfl g3 0 VA.toArray rfl rfl ht (by simpa using HIA.out) HOA.out ?_))
        have HK13 := Lib.hid (HK12.out.over HN3.out HB3.out VA rfl)
        clear ht HK12
        generalize w12.setCells g3 0 VA = w13 at *
        have hr0 := HK13.out.hd.range
        have hr1 := HK13.out.tl.tl.tl.tl.hd.range
        go_upto_region 17 with (first | (refine wpList_load_if (by rfl) 31 _ rfl (g3) 0 rfl VA _ hr0 Try.underlying31 rfl HIA.out ?_) | (refine wpList_load_if (by rfl) 31 _ rfl (w.heap.size + 1) 0 rfl VA _ hr1 Try.underlying31 rfl HIA.out ?_))
        clear hr0 hr1
        have HKs : Hid (Kp w w.heap.size [(g1, 23, VG), (g3, 31, VA), (g2, 23, VF), (w.heap.size + 1 + 1, 31, VB), (w.heap.size + 1, 31, VA), (w.heap.size, 26, V)] w13) := Lib.hid (HK13.out.sub (by intro y hy; simp only [List.mem_cons, List.not_mem_nil, or_false] at hy; rcases hy with rfl | rfl | rfl | rfl | rfl | rfl <;> simp))
        clear HK13
        have HK13 := HKs
        clear HKs
        rw [← HVG.out] at HK13
        clear HIg HVG
        have cc := HK13.out.hd.at (i := 8) (b8_at (E.set 15 last) 8 (by have := HEL.out; simp; omega))
        have cz := HK13.out.hd.z 8
        generalize (E.set 15 last).getD 8 0 = dx at *
        have HKn := Lib.hid (HK13.out.set8 HNE.out HB1.out 8 1)
        go_upto_region 18 with (fail)
        clear cc cz HK13
        have HIg : Hid ((Try.prog.info? 23).map (·.size) = some (b8 ((E.set 15 last).set 8 1)).length) := Lib.hid (Try.infoSix _ (by have := HEL.out; simp; omega))
        have HC8 := Lib.hid (C8.out (E.set 15 last) (by have := HEL.out; (try simp only [List.length_set]); omega))
        generalize w13.setCell ⟨g1, 8, none⟩ (.int .u8 1) = w14 at *
        have HK14 := HKn
        clear HKn C8
        generalize b8 ((E.set 15 last).set 8 1) = VH at *
        have hr0 := HK14.out.tl.tl.tl.tl.tl.hd.range
        have hr1 := HK14.out.hd.range
        go_wp2_with (first | (refine wpList_load_mid rfl 26 _ rfl (w.heap.size) 0 rfl V _ hr0 Try.underlying26 rfl HIP.out ?_) | (refine wpList_load_mid rfl 23 _ rfl (g1) 0 rfl VH _ hr1 Try.underlying23 rfl HIg.out ?_))
        clear hr0 hr1
        refine (HC8.out _).mono ?_
        rintro e w15 ⟨rfl, bb⟩
        have HK15 := Lib.hid (HK14.out.below bb (Nat.le_refl _))
        clear bb HK14
        go_wp2_with (fail)
        go_ret
        exact ⟨rfl, HK15.out.2.1⟩
      · have d96 := decide_eq_false h96
        go_upto_region 17 with (fail)
        clear c16 d96 h96 HC7
        have cc := HK10.out.hd.at (i := 8) (b8_at E 8 (by have := HEL.out; omega))
        have cz := HK10.out.hd.z 8
        generalize E.getD 8 0 = dx at *
        have HKn := Lib.hid (HK10.out.set8 HNE.out HB1.out 8 1)
        go_upto_region 18 with (fail)
        clear cc cz HK10
        have HIg : Hid ((Try.prog.info? 23).map (·.size) = some (b8 (E.set 8 1)).length) := Lib.hid (Try.infoSix _ (by have := HEL.out; simp; omega))
        have HC8 := Lib.hid (C8.out E (by have := HEL.out; (try simp only [List.length_set]); omega))
        generalize w10.setCell ⟨g1, 8, none⟩ (.int .u8 1) = w11 at *
        have HK11 := HKn
        clear HKn C8
        generalize b8 (E.set 8 1) = VH at *
        have hr0 := HK11.out.tl.tl.tl.tl.tl.hd.range
        have hr1 := HK11.out.hd.range
        go_wp2_with (first | (refine wpList_load_mid rfl 26 _ rfl (w.heap.size) 0 rfl V _ hr0 Try.underlying26 rfl HIP.out ?_) | (refine wpList_load_mid rfl 23 _ rfl (g1) 0 rfl VH _ hr1 Try.underlying23 rfl HIg.out ?_))
        clear hr0 hr1
        refine (HC8.out _).mono ?_
        rintro e w12 ⟨rfl, bb⟩
        have HK12 := Lib.hid (HK11.out.below bb (Nat.le_refl _))
        clear bb HK11
        go_wp2_with (fail)
        go_ret
        exact ⟨rfl, HK12.out.2.1⟩
end Go.Proofs.Ytpjcanejenmldaa
