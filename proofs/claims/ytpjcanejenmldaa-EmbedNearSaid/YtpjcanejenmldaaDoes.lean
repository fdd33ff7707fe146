/-
  Proved here: the law EmbedDoes answers true.
  Conditions: addresses of 16 and of 4 bytes.
-/
import Derived.Test.YtpjcanejenmldaaAwake
namespace Go.Proofs.Ytpjcanejenmldaa
open Go.RowKit

set_option maxRecDepth 100000 in
set_option maxHeartbeats 4000000 in
theorem embedDoes_any (p : Nt) (a x : List Int) (w : World) (hp : p.ad.length = 16) (ha : a.length = 4) (hx : x.length = 16) :
    Calls Try.prog 4 #[.agg p.vals.toArray, .agg (b8 a).toArray, .agg (b8 x).toArray] w fun e w' => e = .returned (.bool true) ∧ Below w.heap.size w w' := by
  have HA := Lib.hid awake_true
  have C1 := Lib.hid (fun W => embed_any p a hp ha W)
  have C2 := Lib.hid (fun W => rembed_any p a hp ha W)
  have C3 := Lib.hid (fun W => extract_any p x hp hx W)
  have C4 := Lib.hid (fun W => rextract_any p x hp hx W)
  have C5 := Lib.hid (fun W => right_any p hp W)
  have C6 := Lib.hid (fun W => rright_any p hp W)
  have C7 := Lib.hid (fun W => inside_any p x hp hx W)
  have C8 := Lib.hid (fun W => rinside_any p x hp hx W)
  have hq6 : ∀ W, (binOp .eql 23 (.agg (b8 (p.emb a)).toArray) (.agg (b8 (p.emb a)).toArray)).run Try.prog W = .ok (.bool true) W := fun W => by rw [eq6 _ _ (emb_len p hp a) (emb_len p hp a) W, beq_self_eq_true]
  have hq4 : ∀ W, (binOp .eql 31 (.agg (b8 (p.ext x)).toArray) (.agg (b8 (p.ext x)).toArray)).run Try.prog W = .ok (.bool true) W := fun W => by rw [eq4 _ _ (ext_len p x) (ext_len p x) W, beq_self_eq_true]
  have HIN := Lib.hid (Try.infoNet p hp)
  have HIA := Lib.hid (Try.infoFour a ha)
  have HIX := Lib.hid (Try.infoSix x hx)
  have HIE := Lib.hid (Try.infoSix _ (emb_len p hp a))
  have HID := Lib.hid (Try.infoFour _ (ext_len p x))
  have HOE := Lib.hid (b8_one (p.emb a))
  have HOD := Lib.hid (b8_one (p.ext x))
  have HLE : Hid ((b8 (p.emb a)).length = 16) := Lib.hid ((b8_len _).trans (emb_len p hp a))
  have HLD : Hid ((b8 (p.ext x)).length = 4) := Lib.hid ((b8_len _).trans (ext_len p x))
  have HK1 := Lib.hid (kp3 w 26 31 23 p.vals (b8 a) (b8 x))
  clear hp ha hx
  generalize b8 (p.emb a) = VE at *
  generalize b8 (p.ext x) = VD at *
  generalize p.inside x = f1 at *
  generalize p.takes x = f2 at *
  generalize p.right = f3 at *
  generalize p.vals = V at *
  generalize b8 a = VA at *
  generalize b8 x = VX at *
  generalize hw1 : ((w.alloc (.cells V.toArray 26)).alloc (.cells VA.toArray 31)).alloc (.cells VX.toArray 23) = w1 at *
  go_enter Try.func4, Try.ntmps4
  go_upto_region 1 with (fail)
  clear hw1
  go_wp2_with (fail)
  refine (HA.out _).mono ?_
  rintro e w2 ⟨rfl, bb⟩
  have HK2 := Lib.hid (HK1.out.below bb (Nat.le_refl _))
  clear bb HK1
  go_upto_region 3 with (fail)
  have hr0 := HK2.out.tl.tl.hd.range
  have hr1 := HK2.out.tl.hd.range
  go_wp2_with (first | (refine wpList_load_mid rfl 26 _ rfl (w.heap.size) 0 rfl V _ hr0 Try.underlying26 rfl HIN.out ?_) | (refine wpList_load_mid rfl 31 _ rfl (w.heap.size + 1) 0 rfl VA _ hr1 Try.underlying31 rfl HIA.out ?_))
  clear hr0 hr1
  refine (C1.out _).mono ?_
  rintro e w3 ⟨rfl, bb⟩
  have HK3 := Lib.hid (HK2.out.below bb (Nat.le_refl _))
  clear bb HK2
  have ht := (bk_new w3 23 ([.int .u8 0, .int .u8 0, .int .u8 0, .int .u8 0, .int .u8 0, .int .u8 0, .int .u8 0, .int .u8 0, .int .u8 0, .int .u8 0, .int .u8 0, .int .u8 0, .int .u8 0, .int .u8 0, .int .u8 0, .int .u8 0] : List Value).toArray).there VE.toArray.size (by have := HLE.out; simp; omega)
  go_upto_region 4 with ((refine wpList_store_mid rfl 23 _ _ rfl w3.heap.size 0 VE.toArray rfl rfl ht (by simpa using HIE.out) HOE.out ?_))
  have HK4 := Lib.hid (HK3.out.put 23 ([.int .u8 0, .int .u8 0, .int .u8 0, .int .u8 0, .int .u8 0, .int .u8 0, .int .u8 0, .int .u8 0, .int .u8 0, .int .u8 0, .int .u8 0, .int .u8 0, .int .u8 0, .int .u8 0, .int .u8 0, .int .u8 0] : List Value).toArray VE (by have := HLE.out; simp; omega))
  have HGg1 := Lib.hid HK3.out.ne
  have HBg1 := Lib.hid HK3.out.2.2
  clear ht HK3
  generalize (w3.alloc (.cells ([.int .u8 0, .int .u8 0, .int .u8 0, .int .u8 0, .int .u8 0, .int .u8 0, .int .u8 0, .int .u8 0, .int .u8 0, .int .u8 0, .int .u8 0, .int .u8 0, .int .u8 0, .int .u8 0, .int .u8 0, .int .u8 0] : List Value).toArray 23)).setCells w3.heap.size 0 VE = w4 at *
  generalize w3.heap.size = g1 at *
  have hr0 := HK4.out.tl.tl.tl.hd.range
  have hr1 := HK4.out.tl.tl.hd.range
  go_wp2_with (first | (refine wpList_load_mid rfl 26 _ rfl (w.heap.size) 0 rfl V _ hr0 Try.underlying26 rfl HIN.out ?_) | (refine wpList_load_mid rfl 31 _ rfl (w.heap.size + 1) 0 rfl VA _ hr1 Try.underlying31 rfl HIA.out ?_))
  clear hr0 hr1
  refine (C2.out _).mono ?_
  rintro e w5 ⟨rfl, bb⟩
  have HK5 := Lib.hid (HK4.out.below bb (Nat.le_refl _))
  clear bb HK4
  have ht := (bk_new w5 23 ([.int .u8 0, .int .u8 0, .int .u8 0, .int .u8 0, .int .u8 0, .int .u8 0, .int .u8 0, .int .u8 0, .int .u8 0, .int .u8 0, .int .u8 0, .int .u8 0, .int .u8 0, .int .u8 0, .int .u8 0, .int .u8 0] : List Value).toArray).there VE.toArray.size (by have := HLE.out; simp; omega)
  go_upto_region 5 with ((refine wpList_store_mid rfl 23 _ _ rfl w5.heap.size 0 VE.toArray rfl rfl ht (by simpa using HIE.out) HOE.out ?_))
  have HK6 := Lib.hid (HK5.out.put 23 ([.int .u8 0, .int .u8 0, .int .u8 0, .int .u8 0, .int .u8 0, .int .u8 0, .int .u8 0, .int .u8 0, .int .u8 0, .int .u8 0, .int .u8 0, .int .u8 0, .int .u8 0, .int .u8 0, .int .u8 0, .int .u8 0] : List Value).toArray VE (by have := HLE.out; simp; omega))
  have HGg2 := Lib.hid HK5.out.ne
  have HBg2 := Lib.hid HK5.out.2.2
  clear ht HK5
  generalize (w5.alloc (.cells ([.int .u8 0, .int .u8 0, .int .u8 0, .int .u8 0, .int .u8 0, .int .u8 0, .int .u8 0, .int .u8 0, .int .u8 0, .int .u8 0, .int .u8 0, .int .u8 0, .int .u8 0, .int .u8 0, .int .u8 0, .int .u8 0] : List Value).toArray 23)).setCells w5.heap.size 0 VE = w6 at *
  generalize w5.heap.size = g2 at *
  have hr0 := HK6.out.tl.tl.tl.tl.hd.range
  have hr1 := HK6.out.tl.tl.hd.range
  go_wp2_with (first | (refine wpList_load_mid rfl 26 _ rfl (w.heap.size) 0 rfl V _ hr0 Try.underlying26 rfl HIN.out ?_) | (refine wpList_load_mid rfl 23 _ rfl (w.heap.size + 1 + 1) 0 rfl VX _ hr1 Try.underlying23 rfl HIX.out ?_))
  clear hr0 hr1
  refine (C3.out _).mono ?_
  rintro e w7 ⟨rfl, bb⟩
  have HK7 := Lib.hid (HK6.out.below bb (Nat.le_refl _))
  clear bb HK6
  have ht := (bk_new w7 31 ([.int .u8 0, .int .u8 0, .int .u8 0, .int .u8 0] : List Value).toArray).there VD.toArray.size (by have := HLD.out; simp; omega)
  go_upto_region 6 with ((refine wpList_store_mid rfl 31 _ _ rfl w7.heap.size 0 VD.toArray rfl rfl ht (by simpa using HID.out) HOD.out ?_))
  have HK8 := Lib.hid (HK7.out.put 31 ([.int .u8 0, .int .u8 0, .int .u8 0, .int .u8 0] : List Value).toArray VD (by have := HLD.out; simp; omega))
  have HGg3 := Lib.hid HK7.out.ne
  have HBg3 := Lib.hid HK7.out.2.2
  clear ht HK7
  generalize (w7.alloc (.cells ([.int .u8 0, .int .u8 0, .int .u8 0, .int .u8 0] : List Value).toArray 31)).setCells w7.heap.size 0 VD = w8 at *
  generalize w7.heap.size = g3 at *
  have hr0 := HK8.out.tl.tl.tl.tl.tl.hd.range
  have hr1 := HK8.out.tl.tl.tl.hd.range
  go_wp2_with (first | (refine wpList_load_mid rfl 26 _ rfl (w.heap.size) 0 rfl V _ hr0 Try.underlying26 rfl HIN.out ?_) | (refine wpList_load_mid rfl 23 _ rfl (w.heap.size + 1 + 1) 0 rfl VX _ hr1 Try.underlying23 rfl HIX.out ?_))
  clear hr0 hr1
  refine (C4.out _).mono ?_
  rintro e w9 ⟨rfl, bb⟩
  have HK9 := Lib.hid (HK8.out.below bb (Nat.le_refl _))
  clear bb HK8
  have ht := (bk_new w9 31 ([.int .u8 0, .int .u8 0, .int .u8 0, .int .u8 0] : List Value).toArray).there VD.toArray.size (by have := HLD.out; simp; omega)
  go_upto_region 7 with ((refine wpList_store_mid rfl 31 _ _ rfl w9.heap.size 0 VD.toArray rfl rfl ht (by simpa using HID.out) HOD.out ?_))
  have HK10 := Lib.hid (HK9.out.put 31 ([.int .u8 0, .int .u8 0, .int .u8 0, .int .u8 0] : List Value).toArray VD (by have := HLD.out; simp; omega))
  have HGg4 := Lib.hid HK9.out.ne
  have HBg4 := Lib.hid HK9.out.2.2
  clear ht HK9
  generalize (w9.alloc (.cells ([.int .u8 0, .int .u8 0, .int .u8 0, .int .u8 0] : List Value).toArray 31)).setCells w9.heap.size 0 VD = w10 at *
  generalize w9.heap.size = g4 at *
  have KR : ∀ W : World, Kp w w.heap.size [(g4, 31, VD), (g3, 31, VD), (g2, 23, VE), (g1, 23, VE), (w.heap.size + 1 + 1, 23, VX), (w.heap.size + 1, 31, VA), (w.heap.size, 26, V)] W → (fun w' => Kp w w.heap.size [(g4, 31, VD), (g3, 31, VD), (g2, 23, VE), (g1, 23, VE), (w.heap.size + 1 + 1, 23, VX), (w.heap.size + 1, 31, VA), (w.heap.size, 26, V)] w' ∧ w'.rangeAt (w.heap.size) 0 V ∧ w'.rangeAt (w.heap.size + 1 + 1) 0 VX ∧ w'.rangeAt (g1) 0 VE ∧ w'.rangeAt (g2) 0 VE ∧ w'.rangeAt (g3) 0 VD ∧ w'.rangeAt (g4) 0 VD) W := fun W k => ⟨k, k.tl.tl.tl.tl.tl.tl.hd.range, k.tl.tl.tl.tl.hd.range, k.tl.tl.tl.hd.range, k.tl.tl.hd.range, k.tl.hd.range, k.hd.range⟩
  have HKR := Lib.hid KR
  clear KR
  refine wp_region_noPanic ?_
  refine wp_region_held_drew (S := fun w' => Kp w w.heap.size [(g4, 31, VD), (g3, 31, VD), (g2, 23, VE), (g1, 23, VE), (w.heap.size + 1 + 1, 23, VX), (w.heap.size + 1, 31, VA), (w.heap.size, 26, V)] w' ∧ w'.rangeAt (w.heap.size) 0 V ∧ w'.rangeAt (w.heap.size + 1 + 1) 0 VX ∧ w'.rangeAt (g1) 0 VE ∧ w'.rangeAt (g2) 0 VE ∧ w'.rangeAt (g3) 0 VD ∧ w'.rangeAt (g4) 0 VD) (by kernel_rfl) (HKR.out _ HK10.out.drew) (fun hHeld => ?_)
  refine wpAnyH_take (i := 0) (oi := { dst := some 41, op := Op.load 26 (Operand.tmp 3), type := 26, pos := "law.go:30", after := #[], guard := none }) (v := .agg (V).toArray) rfl (by kernel_rfl) (by kernel_rfl) (by kernel_rfl) (fun _ _ _ h => h) (yieldsIf_load_mid (by rfl) _ _ rfl (w.heap.size) 0 rfl (V) _ (fun ww hSw => hSw.2.1) Try.underlying26 rfl HIN.out) (by assumption) ?_
  (try simp only [Act.put, List.setIfInBounds_toArray, List.set_cons_zero, List.set_cons_succ])
  refine wpAnyH_take (i := 2) (oi := { dst := some 43, op := Op.load 26 (Operand.tmp 3), type := 26, pos := "law.go:30", after := #[], guard := none }) (v := .agg (V).toArray) rfl (by kernel_rfl) (by kernel_rfl) (by kernel_rfl) (fun _ _ _ h => h) (yieldsIf_load_mid (by rfl) _ _ rfl (w.heap.size) 0 rfl (V) _ (fun ww hSw => hSw.2.1) Try.underlying26 rfl HIN.out) (by assumption) ?_
  (try simp only [Act.put, List.setIfInBounds_toArray, List.set_cons_zero, List.set_cons_succ])
  refine wpAnyH_ready (rs := [1]) (by kernel_rfl) (by simp) ?_
  refine AllReadyH.cons (o := { dst := some 42, op := Op.call { callee := Callee.value (Operand.func 15), args := #[Operand.tmp 41], argTypes := #[26] }, type := 4, pos := "law.go:30", after := #[{ on := 0, ground := Ground.data }], guard := none }) rfl (fun K hK => ?_) AllReadyH.nil
  go_simp
  ((with_reducible refine (C5.out _).mono ?_); rintro e w9 ⟨rfl, hb9⟩)
  refine hK.out _ _ (HKR.out _ ((And.left hHeld).below hb9 (Nat.le_refl _))) (fun hHeld => ?_)
  clear hK K
  (try simp only [Act.put, List.setIfInBounds_toArray, List.set_cons_zero, List.set_cons_succ])
  refine wpAnyH_ready (rs := [3]) (by kernel_rfl) (by simp) ?_
  refine AllReadyH.cons (o := { dst := some 44, op := Op.call { callee := Callee.value (Operand.func 18), args := #[Operand.tmp 43], argTypes := #[26] }, type := 4, pos := "law.go:30", after := #[{ on := 2, ground := Ground.data }, { on := 1, ground := Ground.chain }], guard := none }) rfl (fun K hK => ?_) AllReadyH.nil
  go_simp
  ((with_reducible refine (C6.out _).mono ?_); rintro e w9 ⟨rfl, hb9⟩)
  refine hK.out _ _ (HKR.out _ ((And.left hHeld).below hb9 (Nat.le_refl _))) (fun hHeld => ?_)
  clear hK K
  (try simp only [Act.put, List.setIfInBounds_toArray, List.set_cons_zero, List.set_cons_succ])
  refine wpAnyH_take (i := 4) (oi := { dst := some 45, op := Op.binOp BinOp.eql 4 (Operand.tmp 42) (Operand.tmp 44) 4, type := 4, pos := "law.go:30", after := #[{ on := 1, ground := Ground.data }, { on := 3, ground := Ground.data }], guard := none }) (v := ?_) rfl (by kernel_rfl) (by kernel_rfl) (by kernel_rfl) (fun _ _ _ h => h) (Or.inl ⟨by rfl, ?_⟩) (by assumption) ?_
  rotate_left
  · (intro ww hSw; (try dsimp only at hSw); go_simp; try with_reducible rfl)
  (try simp only [Act.put, List.setIfInBounds_toArray, List.set_cons_zero, List.set_cons_succ])
  refine wpAnyH_take (i := 5) (oi := { dst := some 46, op := Op.move (Operand.tmp 45), type := 4, pos := "law.go:30", after := #[{ on := 4, ground := Ground.data }, { on := 3, ground := Ground.chain }], guard := none }) (v := ?_) rfl (by kernel_rfl) (by kernel_rfl) (by kernel_rfl) (fun _ _ _ h => h) (Or.inl ⟨by rfl, ?_⟩) (by assumption) ?_
  rotate_left
  · (intro ww hSw; (try dsimp only at hSw); go_simp; try with_reducible rfl)
  (try simp only [Act.put, List.setIfInBounds_toArray, List.set_cons_zero, List.set_cons_succ])
  refine wpAnyH_take (i := 6) (oi := { dst := some 47, op := Op.load 26 (Operand.tmp 3), type := 26, pos := "law.go:30", after := #[{ on := 5, ground := Ground.guard }], guard := some (5, true) }) (v := .agg (V).toArray) rfl (by kernel_rfl) (by kernel_rfl) (by kernel_rfl) (fun _ _ _ h => h) (yieldsIf_load_mid (by rfl) _ _ rfl (w.heap.size) 0 rfl (V) _ (fun ww hSw => hSw.2.1) Try.underlying26 rfl HIN.out) (by assumption) ?_
  (try simp only [Act.put, List.setIfInBounds_toArray, List.set_cons_zero, List.set_cons_succ])
  refine wpAnyH_take (i := 7) (oi := { dst := some 48, op := Op.load 23 (Operand.tmp 5), type := 23, pos := "law.go:30", after := #[{ on := 5, ground := Ground.guard }], guard := some (5, true) }) (v := .agg (VX).toArray) rfl (by kernel_rfl) (by kernel_rfl) (by kernel_rfl) (fun _ _ _ h => h) (yieldsIf_load_mid (by rfl) _ _ rfl (w.heap.size + 1 + 1) 0 rfl (VX) _ (fun ww hSw => hSw.2.2.1) Try.underlying23 rfl HIX.out) (by assumption) ?_
  (try simp only [Act.put, List.setIfInBounds_toArray, List.set_cons_zero, List.set_cons_succ])
  refine wpAnyH_take (i := 9) (oi := { dst := some 50, op := Op.load 26 (Operand.tmp 3), type := 26, pos := "law.go:30", after := #[{ on := 5, ground := Ground.guard }], guard := some (5, true) }) (v := .agg (V).toArray) rfl (by kernel_rfl) (by kernel_rfl) (by kernel_rfl) (fun _ _ _ h => h) (yieldsIf_load_mid (by rfl) _ _ rfl (w.heap.size) 0 rfl (V) _ (fun ww hSw => hSw.2.1) Try.underlying26 rfl HIN.out) (by assumption) ?_
  (try simp only [Act.put, List.setIfInBounds_toArray, List.set_cons_zero, List.set_cons_succ])
  refine wpAnyH_take (i := 10) (oi := { dst := some 51, op := Op.load 23 (Operand.tmp 5), type := 23, pos := "law.go:30", after := #[{ on := 5, ground := Ground.guard }], guard := some (5, true) }) (v := .agg (VX).toArray) rfl (by kernel_rfl) (by kernel_rfl) (by kernel_rfl) (fun _ _ _ h => h) (yieldsIf_load_mid (by rfl) _ _ rfl (w.heap.size + 1 + 1) 0 rfl (VX) _ (fun ww hSw => hSw.2.2.1) Try.underlying23 rfl HIX.out) (by assumption) ?_
  (try simp only [Act.put, List.setIfInBounds_toArray, List.set_cons_zero, List.set_cons_succ])
  refine wpAnyH_ready (rs := [8]) (by kernel_rfl) (by simp) ?_
  refine AllReadyH.cons (o := { dst := some 49, op := Op.call { callee := Callee.value (Operand.func 19), args := #[Operand.tmp 47, Operand.tmp 48], argTypes := #[26, 23] }, type := 4, pos := "law.go:30", after := #[{ on := 6, ground := Ground.data }, { on := 7, ground := Ground.data }, { on := 5, ground := Ground.chain }, { on := 5, ground := Ground.guard }], guard := some (5, true) }) rfl (fun K hK => ?_) AllReadyH.nil
  go_simp
  ((with_reducible refine (C7.out _).mono ?_); rintro e w9 ⟨rfl, hb9⟩)
  refine hK.out _ _ (HKR.out _ ((And.left hHeld).below hb9 (Nat.le_refl _))) (fun hHeld => ?_)
  clear hK K
  (try simp only [Act.put, List.setIfInBounds_toArray, List.set_cons_zero, List.set_cons_succ])
  refine wpAnyH_ready (rs := [11]) (by kernel_rfl) (by simp) ?_
  refine AllReadyH.cons (o := { dst := some 52, op := Op.call { callee := Callee.value (Operand.func 20), args := #[Operand.tmp 50, Operand.tmp 51], argTypes := #[26, 23] }, type := 4, pos := "law.go:30", after := #[{ on := 9, ground := Ground.data }, { on := 10, ground := Ground.data }, { on := 8, ground := Ground.chain }, { on := 5, ground := Ground.guard }], guard := some (5, true) }) rfl (fun K hK => ?_) AllReadyH.nil
  go_simp
  ((with_reducible refine (C8.out _).mono ?_); rintro e w9 ⟨rfl, hb9⟩)
  refine hK.out _ _ (HKR.out _ ((And.left hHeld).below hb9 (Nat.le_refl _))) (fun hHeld => ?_)
  clear hK K
  (try simp only [Act.put, List.setIfInBounds_toArray, List.set_cons_zero, List.set_cons_succ])
  refine wpAnyH_take (i := 12) (oi := { dst := some 53, op := Op.binOp BinOp.eql 4 (Operand.tmp 49) (Operand.tmp 52) 4, type := 4, pos := "law.go:30", after := #[{ on := 8, ground := Ground.data }, { on := 11, ground := Ground.data }, { on := 5, ground := Ground.guard }], guard := some (5, true) }) (v := ?_) rfl (by kernel_rfl) (by kernel_rfl) (by kernel_rfl) (fun _ _ _ h => h) (Or.inl ⟨by rfl, ?_⟩) (by assumption) ?_
  rotate_left
  · (intro ww hSw; (try dsimp only at hSw); go_simp; try with_reducible rfl)
  (try simp only [Act.put, List.setIfInBounds_toArray, List.set_cons_zero, List.set_cons_succ])
  refine wpAnyH_take (i := 13) (oi := { dst := some 54, op := Op.pick (Operand.tmp 46) (Operand.tmp 53) (Operand.const (Value.bool false)), type := 4, pos := "law.go:30", after := #[{ on := 5, ground := Ground.data }, { on := 12, ground := Ground.data }], guard := none }) (v := ?_) rfl (by kernel_rfl) (by kernel_rfl) (by kernel_rfl) (fun _ _ _ h => h) (Or.inl ⟨by rfl, ?_⟩) (by assumption) ?_
  rotate_left
  · (intro ww hSw; (try dsimp only at hSw); go_simp; try with_reducible rfl)
  (try simp only [Act.put, List.setIfInBounds_toArray, List.set_cons_zero, List.set_cons_succ])
  refine wpAnyH_take (i := 14) (oi := { dst := some 55, op := Op.move (Operand.tmp 54), type := 4, pos := "law.go:30", after := #[{ on := 13, ground := Ground.data }, { on := 11, ground := Ground.chain }], guard := none }) (v := ?_) rfl (by kernel_rfl) (by kernel_rfl) (by kernel_rfl) (fun _ _ _ h => h) (Or.inl ⟨by rfl, ?_⟩) (by assumption) ?_
  rotate_left
  · (intro ww hSw; (try dsimp only at hSw); go_simp; try with_reducible rfl)
  (try simp only [Act.put, List.setIfInBounds_toArray, List.set_cons_zero, List.set_cons_succ])
  refine wpAnyH_take (i := 15) (oi := { dst := some 56, op := Op.load 23 (Operand.tmp 7), type := 23, pos := "law.go:30", after := #[{ on := 14, ground := Ground.guard }], guard := some (14, true) }) (v := .agg (VE).toArray) rfl (by kernel_rfl) (by kernel_rfl) (by kernel_rfl) (fun _ _ _ h => h) (yieldsIf_load_mid (by rfl) _ _ rfl (g1) 0 rfl (VE) _ (fun ww hSw => hSw.2.2.2.1) Try.underlying23 rfl HIE.out) (by assumption) ?_
  (try simp only [Act.put, List.setIfInBounds_toArray, List.set_cons_zero, List.set_cons_succ])
  refine wpAnyH_take (i := 16) (oi := { dst := some 57, op := Op.load 23 (Operand.tmp 9), type := 23, pos := "law.go:30", after := #[{ on := 14, ground := Ground.guard }], guard := some (14, true) }) (v := .agg (VE).toArray) rfl (by kernel_rfl) (by kernel_rfl) (by kernel_rfl) (fun _ _ _ h => h) (yieldsIf_load_mid (by rfl) _ _ rfl (g2) 0 rfl (VE) _ (fun ww hSw => hSw.2.2.2.2.1) Try.underlying23 rfl HIE.out) (by assumption) ?_
  (try simp only [Act.put, List.setIfInBounds_toArray, List.set_cons_zero, List.set_cons_succ])
  refine wpAnyH_take (i := 17) (oi := { dst := some 58, op := Op.binOp BinOp.eql 23 (Operand.tmp 56) (Operand.tmp 57) 23, type := 4, pos := "law.go:30", after := #[{ on := 15, ground := Ground.data }, { on := 16, ground := Ground.data }, { on := 14, ground := Ground.guard }], guard := some (14, true) }) (v := ?_) rfl (by kernel_rfl) (by kernel_rfl) (by kernel_rfl) (fun _ _ _ h => h) (Or.inl ⟨by rfl, ?_⟩) (by assumption) ?_
  rotate_left
  · (intro ww hSw; (try dsimp only at hSw); go_simp; try with_reducible rfl)
  (try simp only [Act.put, List.setIfInBounds_toArray, List.set_cons_zero, List.set_cons_succ])
  refine wpAnyH_take (i := 18) (oi := { dst := some 59, op := Op.pick (Operand.tmp 55) (Operand.tmp 58) (Operand.const (Value.bool false)), type := 4, pos := "law.go:30", after := #[{ on := 14, ground := Ground.data }, { on := 17, ground := Ground.data }], guard := none }) (v := ?_) rfl (by kernel_rfl) (by kernel_rfl) (by kernel_rfl) (fun _ _ _ h => h) (Or.inl ⟨by rfl, ?_⟩) (by assumption) ?_
  rotate_left
  · (intro ww hSw; (try dsimp only at hSw); go_simp; try with_reducible rfl)
  (try simp only [Act.put, List.setIfInBounds_toArray, List.set_cons_zero, List.set_cons_succ])
  refine wpAnyH_take (i := 19) (oi := { dst := some 60, op := Op.move (Operand.tmp 59), type := 4, pos := "law.go:30", after := #[{ on := 18, ground := Ground.data }, { on := 14, ground := Ground.chain }], guard := none }) (v := ?_) rfl (by kernel_rfl) (by kernel_rfl) (by kernel_rfl) (fun _ _ _ h => h) (Or.inl ⟨by rfl, ?_⟩) (by assumption) ?_
  rotate_left
  · (intro ww hSw; (try dsimp only at hSw); go_simp; try with_reducible rfl)
  (try simp only [Act.put, List.setIfInBounds_toArray, List.set_cons_zero, List.set_cons_succ])
  refine wpAnyH_take (i := 20) (oi := { dst := some 61, op := Op.move (Operand.tmp 8), type := 4, pos := "law.go:30", after := #[{ on := 19, ground := Ground.guard }], guard := some (19, true) }) (v := ?_) rfl (by kernel_rfl) (by kernel_rfl) (by kernel_rfl) (fun _ _ _ h => h) (Or.inl ⟨by rfl, ?_⟩) (by assumption) ?_
  rotate_left
  · (intro ww hSw; (try dsimp only at hSw); go_simp; try with_reducible rfl)
  (try simp only [Act.put, List.setIfInBounds_toArray, List.set_cons_zero, List.set_cons_succ])
  refine wpAnyH_take (i := 21) (oi := { dst := some 62, op := Op.move (Operand.tmp 10), type := 4, pos := "law.go:30", after := #[{ on := 19, ground := Ground.guard }], guard := some (19, true) }) (v := ?_) rfl (by kernel_rfl) (by kernel_rfl) (by kernel_rfl) (fun _ _ _ h => h) (Or.inl ⟨by rfl, ?_⟩) (by assumption) ?_
  rotate_left
  · (intro ww hSw; (try dsimp only at hSw); go_simp; try with_reducible rfl)
  (try simp only [Act.put, List.setIfInBounds_toArray, List.set_cons_zero, List.set_cons_succ])
  refine wpAnyH_take (i := 22) (oi := { dst := some 63, op := Op.binOp BinOp.eql 4 (Operand.tmp 61) (Operand.tmp 62) 4, type := 4, pos := "law.go:30", after := #[{ on := 20, ground := Ground.data }, { on := 21, ground := Ground.data }, { on := 19, ground := Ground.guard }], guard := some (19, true) }) (v := ?_) rfl (by kernel_rfl) (by kernel_rfl) (by kernel_rfl) (fun _ _ _ h => h) (Or.inl ⟨by rfl, ?_⟩) (by assumption) ?_
  rotate_left
  · (intro ww hSw; (try dsimp only at hSw); go_simp; try with_reducible rfl)
  (try simp only [Act.put, List.setIfInBounds_toArray, List.set_cons_zero, List.set_cons_succ])
  refine wpAnyH_take (i := 23) (oi := { dst := some 64, op := Op.pick (Operand.tmp 60) (Operand.tmp 63) (Operand.const (Value.bool false)), type := 4, pos := "law.go:30", after := #[{ on := 19, ground := Ground.data }, { on := 22, ground := Ground.data }], guard := none }) (v := ?_) rfl (by kernel_rfl) (by kernel_rfl) (by kernel_rfl) (fun _ _ _ h => h) (Or.inl ⟨by rfl, ?_⟩) (by assumption) ?_
  rotate_left
  · (intro ww hSw; (try dsimp only at hSw); go_simp; try with_reducible rfl)
  (try simp only [Act.put, List.setIfInBounds_toArray, List.set_cons_zero, List.set_cons_succ])
  refine wpAnyH_take (i := 24) (oi := { dst := some 65, op := Op.move (Operand.tmp 64), type := 4, pos := "law.go:30", after := #[{ on := 23, ground := Ground.data }, { on := 19, ground := Ground.chain }], guard := none }) (v := ?_) rfl (by kernel_rfl) (by kernel_rfl) (by kernel_rfl) (fun _ _ _ h => h) (Or.inl ⟨by rfl, ?_⟩) (by assumption) ?_
  rotate_left
  · (intro ww hSw; (try dsimp only at hSw); go_simp; try with_reducible rfl)
  (try simp only [Act.put, List.setIfInBounds_toArray, List.set_cons_zero, List.set_cons_succ])
  refine wpAnyH_take (i := 25) (oi := { dst := some 66, op := Op.load 31 (Operand.tmp 11), type := 31, pos := "law.go:30", after := #[{ on := 24, ground := Ground.guard }], guard := some (24, true) }) (v := .agg (VD).toArray) rfl (by kernel_rfl) (by kernel_rfl) (by kernel_rfl) (fun _ _ _ h => h) (yieldsIf_load_mid (by rfl) _ _ rfl (g3) 0 rfl (VD) _ (fun ww hSw => hSw.2.2.2.2.2.1) Try.underlying31 rfl HID.out) (by assumption) ?_
  (try simp only [Act.put, List.setIfInBounds_toArray, List.set_cons_zero, List.set_cons_succ])
  refine wpAnyH_take (i := 26) (oi := { dst := some 67, op := Op.load 31 (Operand.tmp 13), type := 31, pos := "law.go:30", after := #[{ on := 24, ground := Ground.guard }], guard := some (24, true) }) (v := .agg (VD).toArray) rfl (by kernel_rfl) (by kernel_rfl) (by kernel_rfl) (fun _ _ _ h => h) (yieldsIf_load_mid (by rfl) _ _ rfl (g4) 0 rfl (VD) _ (fun ww hSw => hSw.2.2.2.2.2.2) Try.underlying31 rfl HID.out) (by assumption) ?_
  (try simp only [Act.put, List.setIfInBounds_toArray, List.set_cons_zero, List.set_cons_succ])
  refine wpAnyH_take (i := 27) (oi := { dst := some 68, op := Op.binOp BinOp.eql 31 (Operand.tmp 66) (Operand.tmp 67) 31, type := 4, pos := "law.go:30", after := #[{ on := 25, ground := Ground.data }, { on := 26, ground := Ground.data }, { on := 24, ground := Ground.guard }], guard := some (24, true) }) (v := ?_) rfl (by kernel_rfl) (by kernel_rfl) (by kernel_rfl) (fun _ _ _ h => h) (Or.inl ⟨by rfl, ?_⟩) (by assumption) ?_
  rotate_left
  · (intro ww hSw; (try dsimp only at hSw); go_simp; try with_reducible rfl)
  (try simp only [Act.put, List.setIfInBounds_toArray, List.set_cons_zero, List.set_cons_succ])
  refine wpAnyH_take (i := 28) (oi := { dst := some 69, op := Op.pick (Operand.tmp 65) (Operand.tmp 68) (Operand.const (Value.bool false)), type := 4, pos := "law.go:30", after := #[{ on := 24, ground := Ground.data }, { on := 27, ground := Ground.data }], guard := none }) (v := ?_) rfl (by kernel_rfl) (by kernel_rfl) (by kernel_rfl) (fun _ _ _ h => h) (Or.inl ⟨by rfl, ?_⟩) (by assumption) ?_
  rotate_left
  · (intro ww hSw; (try dsimp only at hSw); go_simp; try with_reducible rfl)
  (try simp only [Act.put, List.setIfInBounds_toArray, List.set_cons_zero, List.set_cons_succ])
  refine wpAnyH_take (i := 29) (oi := { dst := some 70, op := Op.move (Operand.tmp 69), type := 4, pos := "law.go:30", after := #[{ on := 28, ground := Ground.data }, { on := 24, ground := Ground.chain }], guard := none }) (v := ?_) rfl (by kernel_rfl) (by kernel_rfl) (by kernel_rfl) (fun _ _ _ h => h) (Or.inl ⟨by rfl, ?_⟩) (by assumption) ?_
  rotate_left
  · (intro ww hSw; (try dsimp only at hSw); go_simp; try with_reducible rfl)
  (try simp only [Act.put, List.setIfInBounds_toArray, List.set_cons_zero, List.set_cons_succ])
  refine wpAnyH_take (i := 30) (oi := { dst := some 71, op := Op.move (Operand.tmp 12), type := 4, pos := "law.go:30", after := #[{ on := 29, ground := Ground.guard }], guard := some (29, true) }) (v := ?_) rfl (by kernel_rfl) (by kernel_rfl) (by kernel_rfl) (fun _ _ _ h => h) (Or.inl ⟨by rfl, ?_⟩) (by assumption) ?_
  rotate_left
  · (intro ww hSw; (try dsimp only at hSw); go_simp; try with_reducible rfl)
  (try simp only [Act.put, List.setIfInBounds_toArray, List.set_cons_zero, List.set_cons_succ])
  refine wpAnyH_take (i := 31) (oi := { dst := some 72, op := Op.move (Operand.tmp 14), type := 4, pos := "law.go:30", after := #[{ on := 29, ground := Ground.guard }], guard := some (29, true) }) (v := ?_) rfl (by kernel_rfl) (by kernel_rfl) (by kernel_rfl) (fun _ _ _ h => h) (Or.inl ⟨by rfl, ?_⟩) (by assumption) ?_
  rotate_left
  · (intro ww hSw; (try dsimp only at hSw); go_simp; try with_reducible rfl)
  (try simp only [Act.put, List.setIfInBounds_toArray, List.set_cons_zero, List.set_cons_succ])
  refine wpAnyH_take (i := 32) (oi := { dst := some 73, op := Op.binOp BinOp.eql 4 (Operand.tmp 71) (Operand.tmp 72) 4, type := 4, pos := "law.go:30", after := #[{ on := 30, ground := Ground.data }, { on := 31, ground := Ground.data }, { on := 29, ground := Ground.guard }], guard := some (29, true) }) (v := ?_) rfl (by kernel_rfl) (by kernel_rfl) (by kernel_rfl) (fun _ _ _ h => h) (Or.inl ⟨by rfl, ?_⟩) (by assumption) ?_
  rotate_left
  · (intro ww hSw; (try dsimp only at hSw); go_simp; try with_reducible rfl)
  (try simp only [Act.put, List.setIfInBounds_toArray, List.set_cons_zero, List.set_cons_succ])
  refine wpAnyH_take (i := 33) (oi := { dst := some 74, op := Op.pick (Operand.tmp 70) (Operand.tmp 73) (Operand.const (Value.bool false)), type := 4, pos := "law.go:30", after := #[{ on := 29, ground := Ground.data }, { on := 32, ground := Ground.data }], guard := none }) (v := ?_) rfl (by kernel_rfl) (by kernel_rfl) (by kernel_rfl) (fun _ _ _ h => h) (Or.inl ⟨by rfl, ?_⟩) (by assumption) ?_
  rotate_left
  · (intro ww hSw; (try dsimp only at hSw); go_simp; try with_reducible rfl)
  (try simp only [Act.put, List.setIfInBounds_toArray, List.set_cons_zero, List.set_cons_succ])
  refine wpAnyH_take (i := 34) (oi := { dst := some 6, op := Op.assign (Operand.tmp 74), type := 4, pos := "law.go:30", after := #[{ on := 33, ground := Ground.data }, { on := 29, ground := Ground.chain }, { on := 0, ground := Ground.phase }, { on := 1, ground := Ground.phase }, { on := 2, ground := Ground.phase }, { on := 3, ground := Ground.phase }, { on := 4, ground := Ground.phase }, { on := 5, ground := Ground.phase }, { on := 6, ground := Ground.phase }, { on := 7, ground := Ground.phase }, { on := 8, ground := Ground.phase }, { on := 9, ground := Ground.phase }, { on := 10, ground := Ground.phase }, { on := 11, ground := Ground.phase }, { on := 12, ground := Ground.phase }, { on := 13, ground := Ground.phase }, { on := 14, ground := Ground.phase }, { on := 15, ground := Ground.phase }, { on := 16, ground := Ground.phase }, { on := 17, ground := Ground.phase }, { on := 18, ground := Ground.phase }, { on := 19, ground := Ground.phase }, { on := 20, ground := Ground.phase }, { on := 21, ground := Ground.phase }, { on := 22, ground := Ground.phase }, { on := 23, ground := Ground.phase }, { on := 24, ground := Ground.phase }, { on := 25, ground := Ground.phase }, { on := 26, ground := Ground.phase }, { on := 27, ground := Ground.phase }, { on := 28, ground := Ground.phase }, { on := 29, ground := Ground.phase }, { on := 30, ground := Ground.phase }, { on := 31, ground := Ground.phase }, { on := 32, ground := Ground.phase }, { on := 33, ground := Ground.phase }], guard := none }) (v := ?_) rfl (by kernel_rfl) (by kernel_rfl) (by kernel_rfl) (fun _ _ _ h => h) (Or.inl ⟨by rfl, ?_⟩) (by assumption) ?_
  rotate_left
  · (intro ww hSw; (try dsimp only at hSw); go_simp; try with_reducible rfl)
  (try simp only [Act.put, List.setIfInBounds_toArray, List.set_cons_zero, List.set_cons_succ])
  refine wpAnyH_done (by kernel_rfl) ?_ _
  refine NoPanic.normal ?_
  have HE := Lib.hid (And.left hHeld)
  clear hHeld
  go_wp2_with fail
  go_ret
  exact ⟨rfl, HE.out.2.1⟩
end Go.Proofs.Ytpjcanejenmldaa
