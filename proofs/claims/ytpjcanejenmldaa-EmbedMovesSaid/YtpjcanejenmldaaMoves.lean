/-
  Proved here: the law EmbedMoves answers true.
  Conditions: addresses of 16 and of 4 bytes.
-/
import Derived.Test.YtpjcanejenmldaaAwake
import Derived.Test.YtpjcanejenmldaaFacts
namespace Go.Proofs.Ytpjcanejenmldaa
open Go.RowKit

set_option maxRecDepth 100000 in
set_option maxHeartbeats 4000000 in
theorem embedMoves_any (p q : Nt) (a : List Int) (w : World) (hp : p.ad.length = 16) (hq : q.ad.length = 16) (ha : a.length = 4) :
    Calls Try.prog 9 #[.agg p.vals.toArray, .agg q.vals.toArray, .agg (b8 a).toArray] w fun e w' => e = .returned (.bool true) ∧ Below w.heap.size w w' := by
  have HA := Lib.hid awake_true
  have C1 := Lib.hid (fun W => embed_any p a hp ha W)
  have C2 := Lib.hid (fun W => right_any p hp W)
  have C3 := Lib.hid (fun W => extract_any p (p.emb a) hp (emb_len p hp a) W)
  have C4 := Lib.hid (fun W => embed_any q a hq ha W)
  have C5 := Lib.hid (fun W => extract_any q (q.emb a) hq (emb_len q hq a) W)
  have HPE := Lib.hid (fun h => emb_all hp ha (p := p) h)
  have HQE := Lib.hid (fun h => emb_all hq ha (p := q) h)
  have hn6 : ∀ W, (binOp .neq 23 (.agg (b8 (q.emb a)).toArray) (.agg (b8 (q.emb a)).toArray)).run Try.prog W = .ok (.bool false) W := fun W => by rw [neq6 _ _ (emb_len q hq a) (emb_len q hq a) W, beq_self_eq_true]; rfl
  have hq4 : ∀ W, (binOp .eql 31 (.agg (b8 a).toArray) (.agg (b8 a).toArray)).run Try.prog W = .ok (.bool true) W := fun W => by rw [eq4 _ _ ha ha W, beq_self_eq_true]
  have HIP := Lib.hid (Try.infoNet p hp)
  have HIQ := Lib.hid (Try.infoNet q hq)
  have HIA := Lib.hid (Try.infoFour a ha)
  have HIE := Lib.hid (Try.infoSix _ (emb_len p hp a))
  have HIF := Lib.hid (Try.infoSix _ (emb_len q hq a))
  have HIZ : Hid ((Try.prog.info? 31).map (·.size) = some (b8 zero4).length) := Lib.hid (Try.infoFour zero4 rfl)
  have HOA := Lib.hid (b8_one a)
  have HOZ := Lib.hid (b8_one zero4)
  have HOE := Lib.hid (b8_one (p.emb a))
  have HOF := Lib.hid (b8_one (q.emb a))
  have HLA : Hid ((b8 a).length = 4) := Lib.hid ((b8_len _).trans ha)
  have HLZ : Hid ((b8 zero4).length = 4) := Lib.hid rfl
  have HLE : Hid ((b8 (p.emb a)).length = 16) := Lib.hid ((b8_len _).trans (emb_len p hp a))
  have HLF : Hid ((b8 (q.emb a)).length = 16) := Lib.hid ((b8_len _).trans (emb_len q hq a))
  have HK1 := Lib.hid (kp3 w 26 26 31 p.vals q.vals (b8 a))
  have HT : Hid (p.right = true → p.takes (p.emb a) = true ∧ b8 (p.ext (p.emb a)) = b8 a) := Lib.hid (fun h => ⟨(HPE.out h).2.1, by rw [(HPE.out h).2.2.1]⟩)
  have HU : Hid (q.right = true → q.takes (q.emb a) = true ∧ b8 (q.ext (q.emb a)) = b8 a) := Lib.hid (fun h => ⟨(HQE.out h).2.1, by rw [(HQE.out h).2.2.1]⟩)
  have HW : Hid (q.right = false → q.takes (q.emb a) = false ∧ b8 (q.ext (q.emb a)) = b8 zero4) := Lib.hid (fun h => ⟨not_right_takes h _, by rw [not_takes_ext (not_right_takes h _)]⟩)
  clear hp hq ha HPE HQE
  generalize b8 (p.ext (p.emb a)) = VD at *
  generalize b8 (q.ext (q.emb a)) = VC at *
  generalize p.takes (p.emb a) = f1 at *
  generalize q.takes (q.emb a) = f2 at *
  generalize b8 (p.emb a) = VE at *
  generalize b8 (q.emb a) = VF at *
  generalize p.right = pr at *
  generalize q.right = qr at *
  generalize p.vals = V at *
  generalize q.vals = U at *
  generalize b8 zero4 = VZ at *
  generalize b8 a = VA at *
  generalize hw1 : ((w.alloc (.cells V.toArray 26)).alloc (.cells U.toArray 26)).alloc (.cells VA.toArray 31) = w1 at *
  go_enter Try.func9, Try.ntmps9
  go_upto_region 1 with (fail)
  clear hw1
  go_wp2_with (fail)
  refine (HA.out _).mono ?_
  rintro e w2 ⟨rfl, bb⟩
  have HK2 := Lib.hid (HK1.out.below bb (Nat.le_refl _))
  clear bb HK1
  go_upto_region 3 with (fail)
  have hr0 := HK2.out.tl.tl.hd.range
  have hr1 := HK2.out.hd.range
  go_wp2_with (first | (refine wpList_load_mid rfl 26 _ rfl (w.heap.size) 0 rfl V _ hr0 Try.underlying26 rfl HIP.out ?_) | (refine wpList_load_mid rfl 31 _ rfl (w.heap.size + 1 + 1) 0 rfl VA _ hr1 Try.underlying31 rfl HIA.out ?_))
  clear hr0 hr1
  refine (C1.out _).mono ?_
  rintro e w3 ⟨rfl, bb⟩
  have HK3 := Lib.hid (HK2.out.below bb (Nat.le_refl _))
  clear bb HK2
  have ht := (bk_new w3 23 ([.int .u8 0, .int .u8 0, .int .u8 0, .int .u8 0, .int .u8 0, .int .u8 0, .int .u8 0, .int .u8 0, .int .u8 0, .int .u8 0, .int .u8 0, .int .u8 0, .int .u8 0, .int .u8 0, .int .u8 0, .int .u8 0] : List Value).toArray).there VE.toArray.size (by have := HLE.out; simp; omega)
  go_upto_region 4 with ((refine wpList_store_mid rfl 23 _ _ rfl w3.heap.size 0 VE.toArray rfl rfl ht (by simpa using HIE.out) HOE.out ?_))
  have HK4 := Lib.hid (HK3.out.put 23 ([.int .u8 0, .int .u8 0, .int .u8 0, .int .u8 0, .int .u8 0, .int .u8 0, .int .u8 0, .int .u8 0, .int .u8 0, .int .u8 0, .int .u8 0, .int .u8 0, .int .u8 0, .int .u8 0, .int .u8 0, .int .u8 0] : List Value).toArray VE (by have := HLE.out; simp; omega))
  have HGg1 := Lib.hid HK3.out.ne
  have HBg1 := Lib.hid HK3.out.2.2
  clear ht HK3
  generalize (w3.alloc (.cells ([.int .u8 0, .int .u8 0, .int .u8 0, .int .u8 0, .int .u8 0, .int .u8 0, .int .u8 0, .int .u8 0, .int .u8 0, .int .u8 0, .int .u8 0, .int .u8 0, .int .u8 0, .int .u8 0, .int .u8 0, .int .u8 0] : List Value).toArray 23)).setCells w3.heap.size 0 VE = w4 at *
  generalize w3.heap.size = g1 at *
  cases pr
  · clear HT HU HW
    have hr0 := HK4.out.tl.tl.tl.hd.range
    go_wp2_with ((refine wpList_load_mid rfl 26 _ rfl (w.heap.size) 0 rfl V _ hr0 Try.underlying26 rfl HIP.out ?_))
    clear hr0
    refine (C2.out _).mono ?_
    rintro e w5 ⟨rfl, bb⟩
    have HK5 := Lib.hid (HK4.out.below bb (Nat.le_refl _))
    clear bb HK4
    go_wp2_with fail
    go_ret
    exact ⟨rfl, HK5.out.2.1⟩
  · obtain ⟨e1, e2⟩ := HT.out rfl
    have e3 := e2.symm
    clear e2
    subst e1 e3
    clear HT
    have hr0 := HK4.out.tl.tl.tl.hd.range
    have hr1 := HK4.out.hd.range
    go_wp2_with (first | (refine wpList_load_mid rfl 26 _ rfl (w.heap.size) 0 rfl V _ hr0 Try.underlying26 rfl HIP.out ?_) | (refine wpList_load_mid rfl 23 _ rfl (g1) 0 rfl VE _ hr1 Try.underlying23 rfl HIE.out ?_))
    clear hr0 hr1
    refine (C3.out _).mono ?_
    rintro e w5 ⟨rfl, bb⟩
    have HK5 := Lib.hid (HK4.out.below bb (Nat.le_refl _))
    clear bb HK4
    have ht := (bk_new w5 31 ([.int .u8 0, .int .u8 0, .int .u8 0, .int .u8 0] : List Value).toArray).there VA.toArray.size (by have := HLA.out; simp; omega)
    go_upto_region 7 with ((refine wpList_store_mid rfl 31 _ _ rfl w5.heap.size 0 VA.toArray rfl rfl ht (by simpa using HIA.out) HOA.out ?_))
    have HK6 := Lib.hid (HK5.out.put 31 ([.int .u8 0, .int .u8 0, .int .u8 0, .int .u8 0] : List Value).toArray VA (by have := HLA.out; simp; omega))
    have HGg2 := Lib.hid HK5.out.ne
    have HBg2 := Lib.hid HK5.out.2.2
    clear ht HK5
    generalize (w5.alloc (.cells ([.int .u8 0, .int .u8 0, .int .u8 0, .int .u8 0] : List Value).toArray 31)).setCells w5.heap.size 0 VA = w6 at *
    generalize w5.heap.size = g2 at *
    have hr0 := HK6.out.tl.tl.tl.hd.range
    have hr1 := HK6.out.hd.range
    go_wp2_with (first | (refine wpList_load_mid rfl 26 _ rfl (w.heap.size + 1) 0 rfl U _ hr0 Try.underlying26 rfl HIQ.out ?_) | (refine wpList_load_mid rfl 31 _ rfl (g2) 0 rfl VA _ hr1 Try.underlying31 rfl HIA.out ?_))
    clear hr0 hr1
    refine (C4.out _).mono ?_
    rintro e w7 ⟨rfl, bb⟩
    have HK7 := Lib.hid (HK6.out.below bb (Nat.le_refl _))
    clear bb HK6
    have ht := (bk_new w7 23 ([.int .u8 0, .int .u8 0, .int .u8 0, .int .u8 0, .int .u8 0, .int .u8 0, .int .u8 0, .int .u8 0, .int .u8 0, .int .u8 0, .int .u8 0, .int .u8 0, .int .u8 0, .int .u8 0, .int .u8 0, .int .u8 0] : List Value).toArray).there VF.toArray.size (by have := HLF.out; simp; omega)
    go_upto_region 8 with ((refine wpList_store_mid rfl 23 _ _ rfl w7.heap.size 0 VF.toArray rfl rfl ht (by simpa using HIF.out) HOF.out ?_))
    have HK8 := Lib.hid (HK7.out.put 23 ([.int .u8 0, .int .u8 0, .int .u8 0, .int .u8 0, .int .u8 0, .int .u8 0, .int .u8 0, .int .u8 0, .int .u8 0, .int .u8 0, .int .u8 0, .int .u8 0, .int .u8 0, .int .u8 0, .int .u8 0, .int .u8 0] : List Value).toArray VF (by have := HLF.out; simp; omega))
    have HGg3 := Lib.hid HK7.out.ne
    have HBg3 := Lib.hid HK7.out.2.2
    clear ht HK7
    generalize (w7.alloc (.cells ([.int .u8 0, .int .u8 0, .int .u8 0, .int .u8 0, .int .u8 0, .int .u8 0, .int .u8 0, .int .u8 0, .int .u8 0, .int .u8 0, .int .u8 0, .int .u8 0, .int .u8 0, .int .u8 0, .int .u8 0, .int .u8 0] : List Value).toArray 23)).setCells w7.heap.size 0 VF = w8 at *
    generalize w7.heap.size = g3 at *
    have hr0 := HK8.out.tl.tl.tl.tl.hd.range
    have hr1 := HK8.out.tl.tl.tl.hd.range
    go_wp2_with (first | (refine wpList_load_mid rfl 26 _ rfl (w.heap.size + 1) 0 rfl U _ hr0 Try.underlying26 rfl HIQ.out ?_) | (refine wpList_load_mid rfl 31 _ rfl (w.heap.size + 1 + 1) 0 rfl VA _ hr1 Try.underlying31 rfl HIA.out ?_))
    clear hr0 hr1
    refine (C4.out _).mono ?_
    rintro e w9 ⟨rfl, bb⟩
    have HK9 := Lib.hid (HK8.out.below bb (Nat.le_refl _))
    clear bb HK8
    have ht := (bk_new w9 23 ([.int .u8 0, .int .u8 0, .int .u8 0, .int .u8 0, .int .u8 0, .int .u8 0, .int .u8 0, .int .u8 0, .int .u8 0, .int .u8 0, .int .u8 0, .int .u8 0, .int .u8 0, .int .u8 0, .int .u8 0, .int .u8 0] : List Value).toArray).there VF.toArray.size (by have := HLF.out; simp; omega)
    go_upto_region 9 with ((refine wpList_store_mid rfl 23 _ _ rfl w9.heap.size 0 VF.toArray rfl rfl ht (by simpa using HIF.out) HOF.out ?_))
    have HK10 := Lib.hid (HK9.out.put 23 ([.int .u8 0, .int .u8 0, .int .u8 0, .int .u8 0, .int .u8 0, .int .u8 0, .int .u8 0, .int .u8 0, .int .u8 0, .int .u8 0, .int .u8 0, .int .u8 0, .int .u8 0, .int .u8 0, .int .u8 0, .int .u8 0] : List Value).toArray VF (by have := HLF.out; simp; omega))
    have HGg4 := Lib.hid HK9.out.ne
    have HBg4 := Lib.hid HK9.out.2.2
    clear ht HK9
    generalize (w9.alloc (.cells ([.int .u8 0, .int .u8 0, .int .u8 0, .int .u8 0, .int .u8 0, .int .u8 0, .int .u8 0, .int .u8 0, .int .u8 0, .int .u8 0, .int .u8 0, .int .u8 0, .int .u8 0, .int .u8 0, .int .u8 0, .int .u8 0] : List Value).toArray 23)).setCells w9.heap.size 0 VF = w10 at *
    generalize w9.heap.size = g4 at *
    cases qr
    · obtain ⟨e1, e2⟩ := HW.out rfl
      have e3 := e2.symm
      clear e2
      subst e1 e3
      clear HU HW
      have hr0 := HK10.out.tl.hd.range
      have hr1 := HK10.out.hd.range
      go_upto_region 11 with (first | (refine wpList_load_if (by rfl) 23 _ rfl (g3) 0 rfl VF _ hr0 Try.underlying23 rfl HIF.out ?_) | (refine wpList_load_if (by rfl) 23 _ rfl (g4) 0 rfl VF _ hr1 Try.underlying23 rfl HIF.out ?_))
      clear hr0 hr1
      have hr0 := HK10.out.tl.tl.tl.tl.tl.hd.range
      have hr1 := HK10.out.tl.hd.range
      go_wp2_with (first | (refine wpList_load_mid rfl 26 _ rfl (w.heap.size + 1) 0 rfl U _ hr0 Try.underlying26 rfl HIQ.out ?_) | (refine wpList_load_mid rfl 23 _ rfl (g3) 0 rfl VF _ hr1 Try.underlying23 rfl HIF.out ?_))
      clear hr0 hr1
      refine (C5.out _).mono ?_
      rintro e w11 ⟨rfl, bb⟩
      have HK11 := Lib.hid (HK10.out.below bb (Nat.le_refl _))
      clear bb HK10
      have ht := (bk_new w11 31 ([.int .u8 0, .int .u8 0, .int .u8 0, .int .u8 0] : List Value).toArray).there VZ.toArray.size (by have := HLZ.out; simp; omega)
      go_upto_region 12 with ((refine wpList_store_mid rfl 31 _ _ rfl w11.heap.size 0 VZ.toArray rfl rfl ht (by simpa using HIZ.out) HOZ.out ?_))
      have HK12 := Lib.hid (HK11.out.put 31 ([.int .u8 0, .int .u8 0, .int .u8 0, .int .u8 0] : List Value).toArray VZ (by have := HLZ.out; simp; omega))
      have HGg5 := Lib.hid HK11.out.ne
      have HBg5 := Lib.hid HK11.out.2.2
      clear ht HK11
      generalize (w11.alloc (.cells ([.int .u8 0, .int .u8 0, .int .u8 0, .int .u8 0] : List Value).toArray 31)).setCells w11.heap.size 0 VZ = w12 at *
      generalize w11.heap.size = g5 at *
      go_wp2_with (fail)
      go_ret
      exact ⟨rfl, HK12.out.2.1⟩
    · obtain ⟨e1, e2⟩ := HU.out rfl
      have e3 := e2.symm
      clear e2
      subst e1 e3
      clear HU HW
      have hr0 := HK10.out.tl.hd.range
      have hr1 := HK10.out.hd.range
      go_upto_region 11 with (first | (refine wpList_load_if (by rfl) 23 _ rfl (g3) 0 rfl VF _ hr0 Try.underlying23 rfl HIF.out ?_) | (refine wpList_load_if (by rfl) 23 _ rfl (g4) 0 rfl VF _ hr1 Try.underlying23 rfl HIF.out ?_))
      clear hr0 hr1
      have hr0 := HK10.out.tl.tl.tl.tl.tl.hd.range
      have hr1 := HK10.out.tl.hd.range
      go_wp2_with (first | (refine wpList_load_mid rfl 26 _ rfl (w.heap.size + 1) 0 rfl U _ hr0 Try.underlying26 rfl HIQ.out ?_) | (refine wpList_load_mid rfl 23 _ rfl (g3) 0 rfl VF _ hr1 Try.underlying23 rfl HIF.out ?_))
      clear hr0 hr1
      refine (C5.out _).mono ?_
      rintro e w11 ⟨rfl, bb⟩
      have HK11 := Lib.hid (HK10.out.below bb (Nat.le_refl _))
      clear bb HK10
      have ht := (bk_new w11 31 ([.int .u8 0, .int .u8 0, .int .u8 0, .int .u8 0] : List Value).toArray).there VA.toArray.size (by have := HLA.out; simp; omega)
      go_upto_region 12 with ((refine wpList_store_mid rfl 31 _ _ rfl w11.heap.size 0 VA.toArray rfl rfl ht (by simpa using HIA.out) HOA.out ?_))
      have HK12 := Lib.hid (HK11.out.put 31 ([.int .u8 0, .int .u8 0, .int .u8 0, .int .u8 0] : List Value).toArray VA (by have := HLA.out; simp; omega))
      have HGg5 := Lib.hid HK11.out.ne
      have HBg5 := Lib.hid HK11.out.2.2
      clear ht HK11
      generalize (w11.alloc (.cells ([.int .u8 0, .int .u8 0, .int .u8 0, .int .u8 0] : List Value).toArray 31)).setCells w11.heap.size 0 VA = w12 at *
      generalize w11.heap.size = g5 at *
      have hr0 := HK12.out.hd.range
      have hr1 := HK12.out.tl.tl.tl.tl.tl.hd.range
      go_wp2_with (first | (refine wpList_load_if (by rfl) 31 _ rfl (g5) 0 rfl VA _ hr0 Try.underlying31 rfl HIA.out ?_) | (refine wpList_load_if (by rfl) 31 _ rfl (w.heap.size + 1 + 1) 0 rfl VA _ hr1 Try.underlying31 rfl HIA.out ?_))
      go_ret
      exact ⟨rfl, HK12.out.2.1⟩
end Go.Proofs.Ytpjcanejenmldaa
