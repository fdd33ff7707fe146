/-
  Proved here: the law ClassHolds answers true.
  Conditions: what the library's and the package's variables hold.
-/
import Derived.Test.YtkkgcmfcfacakaaDoorMars6
import Derived.Test.YtkkgcmfcfacakaaDoorAwakec
import Derived.Test.YtkkgcmfcfacakaaDoorLiftc
namespace Go.Proofs.YtkkgcmfcfacakaaDoor
open Go.RowKit

theorem kp_bel {w0 w : World} {B : Nat} {l : List (Nat × TypeId × List Value)} (h : Kp w0 B l w) : Below B w0 w := h.2.1
set_option maxRecDepth 100000 in
set_option maxHeartbeats 8000000 in
theorem classHolds_any (m n : Nn) (a x : List UInt8) (w : World) (hm : m.ad.length = 4) (hn : n.ad.length = 16) (ha : a.length = 4) (hx : x.length = 16) (h0 : Hw w) (hv : Vc w) (h6 : w.rangeAt 2 0 (flatN mL6)) :
    Calls Tryd.prog 5 #[.agg m.vals.toArray, .agg n.vals.toArray, .agg (bu a).toArray, .agg (bu x).toArray] w fun e w' => e = .returned (.bool true) ∧ Below w.heap.size w w' := by
  have HW := Lib.hid h0
  have HV := Lib.hid hv
  have HG := Lib.hid h6
  have CA := Lib.hid (fun W (h : Hw W) => awakec_true W h)
  have K1 : Hid (∀ W, Calls Tryd.prog 23 #[.agg m.vals.toArray, .agg (bu a).toArray] W fun e w' => e = .returned (.bool (m.holds a)) ∧ Below W.heap.size W w') := Lib.hid (fun W => holds4_any m a W hm ha)
  have D1 : Hid (∀ W, Calls Tryd.prog 24 #[.agg m.vals.toArray, .agg (bu a).toArray] W fun e w' => e = .returned (.bool (m.holds a)) ∧ Below W.heap.size W w') := Lib.hid (fun W => rholds4_any m a hm ha W)
  have K2 : Hid (∀ W, Calls Tryd.prog 25 #[.agg n.vals.toArray, .agg (bu x).toArray] W fun e w' => e = .returned (.bool (n.holds x)) ∧ Below W.heap.size W w') := Lib.hid (fun W => holds6_any n x W hn hx)
  have D2 : Hid (∀ W, Calls Tryd.prog 26 #[.agg n.vals.toArray, .agg (bu x).toArray] W fun e w' => e = .returned (.bool (n.holds x)) ∧ Below W.heap.size W w') := Lib.hid (fun W => rholds6_any n x hn hx W)
  have K3 : Hid (∀ W, Vc W → Calls Tryd.prog 27 #[.agg (bu a).toArray] W fun e w' => e = .returned (.bool (mart4 a)) ∧ Below W.heap.size W w') := Lib.hid (fun W h => mart4_any a W ha h.m4)
  have D3 : Hid (∀ W, Calls Tryd.prog 28 #[.agg (bu a).toArray] W fun e w' => e = .returned (.bool (mart4 a)) ∧ Below W.heap.size W w') := Lib.hid (fun W => by rw [← mars_four]; exact rmartian4_any a ha W)
  have K4 : Hid (∀ W, W.rangeAt 2 0 (flatN mL6) → Calls Tryd.prog 29 #[.agg (bu x).toArray] W fun e w' => e = .returned (.bool (mart6 x)) ∧ Below W.heap.size W w') := Lib.hid (fun W h => mart6_any x W hx h)
  have D4 : Hid (∀ W, Calls Tryd.prog 30 #[.agg (bu x).toArray] W fun e w' => e = .returned (.bool (mart6 x)) ∧ Below W.heap.size W w') := Lib.hid (fun W => rmartian6_any x hx W)
  have K5 : Hid (∀ W, Vc W → Calls Tryd.prog 18 #[.agg n.vals.toArray, .agg (bu a).toArray] W fun e w' => e = .returned (.bool (mayv n a)) ∧ Below W.heap.size W w') := Lib.hid (fun W h => may_any n a W hn ha h.m4 h.pr h.kn)
  have D5 : Hid (∀ W, Calls Tryd.prog 31 #[.agg n.vals.toArray, .agg (bu a).toArray] W fun e w' => e = .returned (.bool (mayv n a)) ∧ Below W.heap.size W w') := Lib.hid (fun W => rmay_any n a W hn ha)
  have HI_VM : Hid ((Tryd.prog.info? 32).map (·.size) = some (m.vals).length) := Lib.hid (Tryd.infoNn4 _ hm)
  have HO_VM : Hid ((m.vals).toArray.all (·.oneCell') = true) := Lib.hid (nn_one _)
  have HL_VM : Hid ((m.vals).length = 5) := Lib.hid (by unfold Nn.vals; rw [List.length_append, bu_len, hm]; rfl)
  have HI_VN : Hid ((Tryd.prog.info? 36).map (·.size) = some (n.vals).length) := Lib.hid (Tryd.infoNn6 _ hn)
  have HO_VN : Hid ((n.vals).toArray.all (·.oneCell') = true) := Lib.hid (nn_one _)
  have HL_VN : Hid ((n.vals).length = 17) := Lib.hid (by unfold Nn.vals; rw [List.length_append, bu_len, hn]; rfl)
  have HI_VA : Hid ((Tryd.prog.info? 28).map (·.size) = some (bu a).length) := Lib.hid (Tryd.infoU4 _ ha)
  have HO_VA : Hid ((bu a).toArray.all (·.oneCell') = true) := Lib.hid (bu_one _)
  have HL_VA : Hid ((bu a).length = 4) := Lib.hid (by rw [bu_len]; exact ha)
  have HI_VX : Hid ((Tryd.prog.info? 24).map (·.size) = some (bu x).length) := Lib.hid (Tryd.infoU6 _ hx)
  have HO_VX : Hid ((bu x).toArray.all (·.oneCell') = true) := Lib.hid (bu_one _)
  have HL_VX : Hid ((bu x).length = 16) := Lib.hid (by rw [bu_len]; exact hx)
  have HK1 : Hid (Kp w w.heap.size [(w.heap.size + 1 + 1 + 1, 24, bu x), (w.heap.size + 1 + 1, 28, bu a), (w.heap.size + 1, 36, n.vals), (w.heap.size, 32, m.vals)] ((((w.alloc (.cells m.vals.toArray 32)).alloc (.cells n.vals.toArray 36)).alloc (.cells (bu a).toArray 28)).alloc (.cells (bu x).toArray 24))) := Lib.hid (by
    have h := (kp2 w 32 36 m.vals n.vals).new 28 (bu a)
    have e : ((w.alloc (.cells m.vals.toArray 32)).alloc (.cells n.vals.toArray 36)).heap.size = w.heap.size + 1 + 1 := by simp
    rw [e] at h
    have h2 := h.new 24 (bu x)
    have e2 : (((w.alloc (.cells m.vals.toArray 32)).alloc (.cells n.vals.toArray 36)).alloc (.cells (bu a).toArray 28)).heap.size = w.heap.size + 1 + 1 + 1 := by simp
    rwa [e2] at h2)
  clear hm hn ha hx h0 hv h6
  generalize m.holds a = R1 at *
  generalize n.holds x = R2 at *
  generalize mart4 a = R3 at *
  generalize mart6 x = R4 at *
  generalize mayv n a = R5 at *
  generalize m.vals = VM at *
  generalize n.vals = VN at *
  generalize bu a = VA at *
  generalize bu x = VX at *
  generalize hw1 : (((w.alloc (.cells VM.toArray 32)).alloc (.cells VN.toArray 36)).alloc (.cells VA.toArray 28)).alloc (.cells VX.toArray 24) = w1 at *
  go_enter Tryd.func5, Tryd.ntmps5
  go_upto_region 1 with (fail)
  clear hw1
  go_wp2_with (fail)
  refine (CA.out _ (HW.out.below HK1.out.2.1)).mono ?_
  rintro e w2 ⟨rfl, bb⟩
  have HK2 := Lib.hid (HK1.out.below bb (Nat.le_refl _))
  clear bb HK1
  go_upto_region 3 with (fail)
  have HKR : Hid (∀ W : World, Kp w w.heap.size [(w.heap.size + 1 + 1 + 1, 24, VX), (w.heap.size + 1 + 1, 28, VA), (w.heap.size + 1, 36, VN), (w.heap.size, 32, VM)] W → (fun w' => Kp w w.heap.size [(w.heap.size + 1 + 1 + 1, 24, VX), (w.heap.size + 1 + 1, 28, VA), (w.heap.size + 1, 36, VN), (w.heap.size, 32, VM)] w' ∧ w'.rangeAt (w.heap.size + 1 + 1 + 1) 0 VX ∧ w'.rangeAt (w.heap.size + 1 + 1) 0 VA ∧ w'.rangeAt (w.heap.size + 1) 0 VN ∧ w'.rangeAt (w.heap.size) 0 VM) W) := Lib.hid (fun W k => ⟨k, k.hd.range, k.tl.hd.range, k.tl.tl.hd.range, k.tl.tl.tl.hd.range⟩)
  refine wp_region_noPanic ?_
  refine wp_region_held_drew (S := fun w' => Kp w w.heap.size [(w.heap.size + 1 + 1 + 1, 24, VX), (w.heap.size + 1 + 1, 28, VA), (w.heap.size + 1, 36, VN), (w.heap.size, 32, VM)] w' ∧ w'.rangeAt (w.heap.size + 1 + 1 + 1) 0 VX ∧ w'.rangeAt (w.heap.size + 1 + 1) 0 VA ∧ w'.rangeAt (w.heap.size + 1) 0 VN ∧ w'.rangeAt (w.heap.size) 0 VM) (by kernel_rfl) (HKR.out _ HK2.out.drew) (fun hHeld => ?_)
  refine wpAnyH_take (i := 0) (oi := { dst := some 11, op := Op.load 32 (Operand.tmp 4), type := 32, pos := "law.go:41", after := #[], guard := none }) (v := .agg (VM).toArray) rfl (by kernel_rfl) (by kernel_rfl) (by kernel_rfl) (fun _ _ _ h => h) (yieldsIf_load_mid (by rfl) _ _ rfl (w.heap.size) 0 rfl (VM) _ (fun ww hSw => hSw.2.2.2.2) Tryd.underlying32 rfl HI_VM.out) (by assumption) ?_
  (try simp only [Act.put, List.setIfInBounds_toArray, List.set_cons_zero, List.set_cons_succ])
  refine wpAnyH_take (i := 1) (oi := { dst := some 12, op := Op.load 28 (Operand.tmp 6), type := 28, pos := "law.go:41", after := #[], guard := none }) (v := .agg (VA).toArray) rfl (by kernel_rfl) (by kernel_rfl) (by kernel_rfl) (fun _ _ _ h => h) (yieldsIf_load_mid (by rfl) _ _ rfl (w.heap.size + 1 + 1) 0 rfl (VA) _ (fun ww hSw => hSw.2.2.1) Tryd.underlying28 rfl HI_VA.out) (by assumption) ?_
  (try simp only [Act.put, List.setIfInBounds_toArray, List.set_cons_zero, List.set_cons_succ])
  refine wpAnyH_take (i := 3) (oi := { dst := some 14, op := Op.load 32 (Operand.tmp 4), type := 32, pos := "law.go:41", after := #[], guard := none }) (v := .agg (VM).toArray) rfl (by kernel_rfl) (by kernel_rfl) (by kernel_rfl) (fun _ _ _ h => h) (yieldsIf_load_mid (by rfl) _ _ rfl (w.heap.size) 0 rfl (VM) _ (fun ww hSw => hSw.2.2.2.2) Tryd.underlying32 rfl HI_VM.out) (by assumption) ?_
  (try simp only [Act.put, List.setIfInBounds_toArray, List.set_cons_zero, List.set_cons_succ])
  refine wpAnyH_take (i := 4) (oi := { dst := some 15, op := Op.load 28 (Operand.tmp 6), type := 28, pos := "law.go:41", after := #[], guard := none }) (v := .agg (VA).toArray) rfl (by kernel_rfl) (by kernel_rfl) (by kernel_rfl) (fun _ _ _ h => h) (yieldsIf_load_mid (by rfl) _ _ rfl (w.heap.size + 1 + 1) 0 rfl (VA) _ (fun ww hSw => hSw.2.2.1) Tryd.underlying28 rfl HI_VA.out) (by assumption) ?_
  (try simp only [Act.put, List.setIfInBounds_toArray, List.set_cons_zero, List.set_cons_succ])
  refine wpAnyH_ready (rs := [2]) (by kernel_rfl) (by simp) ?_
  refine AllReadyH.cons (o := { dst := some 13, op := Op.call { callee := Callee.value (Operand.func 23), args := #[Operand.tmp 11, Operand.tmp 12], argTypes := #[32, 28] }, type := 4, pos := "law.go:41", after := #[{ on := 0, ground := Ground.data }, { on := 1, ground := Ground.data }], guard := none }) rfl (fun K hK => ?_) AllReadyH.nil
  go_simp
  ((with_reducible refine (K1.out _).mono ?_); rintro e w9 ⟨rfl, hb9⟩)
  refine hK.out _ _ (HKR.out _ ((And.left hHeld).below hb9 (Nat.le_refl _))) (fun hHeld => ?_)
  clear hK K
  (try simp only [Act.put, List.setIfInBounds_toArray, List.set_cons_zero, List.set_cons_succ])
  refine wpAnyH_ready (rs := [5]) (by kernel_rfl) (by simp) ?_
  refine AllReadyH.cons (o := { dst := some 16, op := Op.call { callee := Callee.value (Operand.func 24), args := #[Operand.tmp 14, Operand.tmp 15], argTypes := #[32, 28] }, type := 4, pos := "law.go:41", after := #[{ on := 3, ground := Ground.data }, { on := 4, ground := Ground.data }, { on := 2, ground := Ground.chain }], guard := none }) rfl (fun K hK => ?_) AllReadyH.nil
  go_simp
  ((with_reducible refine (D1.out _).mono ?_); rintro e w9 ⟨rfl, hb9⟩)
  refine hK.out _ _ (HKR.out _ ((And.left hHeld).below hb9 (Nat.le_refl _))) (fun hHeld => ?_)
  clear hK K
  (try simp only [Act.put, List.setIfInBounds_toArray, List.set_cons_zero, List.set_cons_succ])
  refine wpAnyH_take (i := 6) (oi := { dst := some 17, op := Op.binOp BinOp.eql 4 (Operand.tmp 13) (Operand.tmp 16) 4, type := 4, pos := "law.go:41", after := #[{ on := 2, ground := Ground.data }, { on := 5, ground := Ground.data }], guard := none }) (v := .bool true) rfl (by kernel_rfl) (by kernel_rfl) (by kernel_rfl) (fun _ _ _ h => h) (Or.inl ⟨by rfl, fun ww _ => by cases R1 <;> rfl⟩) (by assumption) ?_
  (try simp only [Act.put, List.setIfInBounds_toArray, List.set_cons_zero, List.set_cons_succ])
  refine wpAnyH_take (i := 7) (oi := { dst := some 18, op := Op.move (Operand.tmp 17), type := 4, pos := "law.go:41", after := #[{ on := 6, ground := Ground.data }, { on := 5, ground := Ground.chain }], guard := none }) (v := ?_) rfl (by kernel_rfl) (by kernel_rfl) (by kernel_rfl) (fun _ _ _ h => h) (Or.inl ⟨by rfl, ?_⟩) (by assumption) ?_
  rotate_left
  · (intro ww hSw; (try dsimp only at hSw); go_simp; try with_reducible rfl)
  (try simp only [Act.put, List.setIfInBounds_toArray, List.set_cons_zero, List.set_cons_succ])
  refine wpAnyH_take (i := 8) (oi := { dst := some 19, op := Op.load 36 (Operand.tmp 5), type := 36, pos := "law.go:41", after := #[{ on := 7, ground := Ground.guard }], guard := some (7, true) }) (v := .agg (VN).toArray) rfl (by kernel_rfl) (by kernel_rfl) (by kernel_rfl) (fun _ _ _ h => h) (yieldsIf_load_mid (by rfl) _ _ rfl (w.heap.size + 1) 0 rfl (VN) _ (fun ww hSw => hSw.2.2.2.1) Tryd.underlying36 rfl HI_VN.out) (by assumption) ?_
  (try simp only [Act.put, List.setIfInBounds_toArray, List.set_cons_zero, List.set_cons_succ])
  refine wpAnyH_take (i := 9) (oi := { dst := some 20, op := Op.load 24 (Operand.tmp 7), type := 24, pos := "law.go:41", after := #[{ on := 7, ground := Ground.guard }], guard := some (7, true) }) (v := .agg (VX).toArray) rfl (by kernel_rfl) (by kernel_rfl) (by kernel_rfl) (fun _ _ _ h => h) (yieldsIf_load_mid (by rfl) _ _ rfl (w.heap.size + 1 + 1 + 1) 0 rfl (VX) _ (fun ww hSw => hSw.2.1) Tryd.underlying24 rfl HI_VX.out) (by assumption) ?_
  (try simp only [Act.put, List.setIfInBounds_toArray, List.set_cons_zero, List.set_cons_succ])
  refine wpAnyH_take (i := 11) (oi := { dst := some 22, op := Op.load 36 (Operand.tmp 5), type := 36, pos := "law.go:41", after := #[{ on := 7, ground := Ground.guard }], guard := some (7, true) }) (v := .agg (VN).toArray) rfl (by kernel_rfl) (by kernel_rfl) (by kernel_rfl) (fun _ _ _ h => h) (yieldsIf_load_mid (by rfl) _ _ rfl (w.heap.size + 1) 0 rfl (VN) _ (fun ww hSw => hSw.2.2.2.1) Tryd.underlying36 rfl HI_VN.out) (by assumption) ?_
  (try simp only [Act.put, List.setIfInBounds_toArray, List.set_cons_zero, List.set_cons_succ])
  refine wpAnyH_take (i := 12) (oi := { dst := some 23, op := Op.load 24 (Operand.tmp 7), type := 24, pos := "law.go:41", after := #[{ on := 7, ground := Ground.guard }], guard := some (7, true) }) (v := .agg (VX).toArray) rfl (by kernel_rfl) (by kernel_rfl) (by kernel_rfl) (fun _ _ _ h => h) (yieldsIf_load_mid (by rfl) _ _ rfl (w.heap.size + 1 + 1 + 1) 0 rfl (VX) _ (fun ww hSw => hSw.2.1) Tryd.underlying24 rfl HI_VX.out) (by assumption) ?_
  (try simp only [Act.put, List.setIfInBounds_toArray, List.set_cons_zero, List.set_cons_succ])
  refine wpAnyH_ready (rs := [10]) (by kernel_rfl) (by simp) ?_
  refine AllReadyH.cons (o := { dst := some 21, op := Op.call { callee := Callee.value (Operand.func 25), args := #[Operand.tmp 19, Operand.tmp 20], argTypes := #[36, 24] }, type := 4, pos := "law.go:41", after := #[{ on := 8, ground := Ground.data }, { on := 9, ground := Ground.data }, { on := 7, ground := Ground.chain }, { on := 7, ground := Ground.guard }], guard := some (7, true) }) rfl (fun K hK => ?_) AllReadyH.nil
  go_simp
  ((with_reducible refine (K2.out _).mono ?_); rintro e w9 ⟨rfl, hb9⟩)
  refine hK.out _ _ (HKR.out _ ((And.left hHeld).below hb9 (Nat.le_refl _))) (fun hHeld => ?_)
  clear hK K
  (try simp only [Act.put, List.setIfInBounds_toArray, List.set_cons_zero, List.set_cons_succ])
  refine wpAnyH_ready (rs := [13]) (by kernel_rfl) (by simp) ?_
  refine AllReadyH.cons (o := { dst := some 24, op := Op.call { callee := Callee.value (Operand.func 26), args := #[Operand.tmp 22, Operand.tmp 23], argTypes := #[36, 24] }, type := 4, pos := "law.go:41", after := #[{ on := 11, ground := Ground.data }, { on := 12, ground := Ground.data }, { on := 10, ground := Ground.chain }, { on := 7, ground := Ground.guard }], guard := some (7, true) }) rfl (fun K hK => ?_) AllReadyH.nil
  go_simp
  ((with_reducible refine (D2.out _).mono ?_); rintro e w9 ⟨rfl, hb9⟩)
  refine hK.out _ _ (HKR.out _ ((And.left hHeld).below hb9 (Nat.le_refl _))) (fun hHeld => ?_)
  clear hK K
  (try simp only [Act.put, List.setIfInBounds_toArray, List.set_cons_zero, List.set_cons_succ])
  refine wpAnyH_take (i := 14) (oi := { dst := some 25, op := Op.binOp BinOp.eql 4 (Operand.tmp 21) (Operand.tmp 24) 4, type := 4, pos := "law.go:41", after := #[{ on := 10, ground := Ground.data }, { on := 13, ground := Ground.data }, { on := 7, ground := Ground.guard }], guard := some (7, true) }) (v := .bool true) rfl (by kernel_rfl) (by kernel_rfl) (by kernel_rfl) (fun _ _ _ h => h) (Or.inl ⟨by rfl, fun ww _ => by cases R2 <;> rfl⟩) (by assumption) ?_
  (try simp only [Act.put, List.setIfInBounds_toArray, List.set_cons_zero, List.set_cons_succ])
  refine wpAnyH_take (i := 15) (oi := { dst := some 26, op := Op.pick (Operand.tmp 18) (Operand.tmp 25) (Operand.const (Value.bool false)), type := 4, pos := "law.go:41", after := #[{ on := 7, ground := Ground.data }, { on := 14, ground := Ground.data }], guard := none }) (v := ?_) rfl (by kernel_rfl) (by kernel_rfl) (by kernel_rfl) (fun _ _ _ h => h) (Or.inl ⟨by rfl, ?_⟩) (by assumption) ?_
  rotate_left
  · (intro ww hSw; (try dsimp only at hSw); go_simp; try with_reducible rfl)
  (try simp only [Act.put, List.setIfInBounds_toArray, List.set_cons_zero, List.set_cons_succ])
  refine wpAnyH_take (i := 16) (oi := { dst := some 27, op := Op.move (Operand.tmp 26), type := 4, pos := "law.go:41", after := #[{ on := 15, ground := Ground.data }, { on := 13, ground := Ground.chain }], guard := none }) (v := ?_) rfl (by kernel_rfl) (by kernel_rfl) (by kernel_rfl) (fun _ _ _ h => h) (Or.inl ⟨by rfl, ?_⟩) (by assumption) ?_
  rotate_left
  · (intro ww hSw; (try dsimp only at hSw); go_simp; try with_reducible rfl)
  (try simp only [Act.put, List.setIfInBounds_toArray, List.set_cons_zero, List.set_cons_succ])
  refine wpAnyH_take (i := 17) (oi := { dst := some 28, op := Op.load 28 (Operand.tmp 6), type := 28, pos := "law.go:41", after := #[{ on := 16, ground := Ground.guard }], guard := some (16, true) }) (v := .agg (VA).toArray) rfl (by kernel_rfl) (by kernel_rfl) (by kernel_rfl) (fun _ _ _ h => h) (yieldsIf_load_mid (by rfl) _ _ rfl (w.heap.size + 1 + 1) 0 rfl (VA) _ (fun ww hSw => hSw.2.2.1) Tryd.underlying28 rfl HI_VA.out) (by assumption) ?_
  (try simp only [Act.put, List.setIfInBounds_toArray, List.set_cons_zero, List.set_cons_succ])
  refine wpAnyH_take (i := 19) (oi := { dst := some 30, op := Op.load 28 (Operand.tmp 6), type := 28, pos := "law.go:41", after := #[{ on := 16, ground := Ground.guard }], guard := some (16, true) }) (v := .agg (VA).toArray) rfl (by kernel_rfl) (by kernel_rfl) (by kernel_rfl) (fun _ _ _ h => h) (yieldsIf_load_mid (by rfl) _ _ rfl (w.heap.size + 1 + 1) 0 rfl (VA) _ (fun ww hSw => hSw.2.2.1) Tryd.underlying28 rfl HI_VA.out) (by assumption) ?_
  (try simp only [Act.put, List.setIfInBounds_toArray, List.set_cons_zero, List.set_cons_succ])
  refine wpAnyH_ready (rs := [18]) (by kernel_rfl) (by simp) ?_
  refine AllReadyH.cons (o := { dst := some 29, op := Op.call { callee := Callee.value (Operand.func 27), args := #[Operand.tmp 28], argTypes := #[28] }, type := 4, pos := "law.go:41", after := #[{ on := 17, ground := Ground.data }, { on := 16, ground := Ground.chain }, { on := 16, ground := Ground.guard }], guard := some (16, true) }) rfl (fun K hK => ?_) AllReadyH.nil
  go_simp
  ((with_reducible refine (K3.out _ (HV.out.below (kp_bel (And.left hHeld)))).mono ?_); rintro e w9 ⟨rfl, hb9⟩)
  refine hK.out _ _ (HKR.out _ ((And.left hHeld).below hb9 (Nat.le_refl _))) (fun hHeld => ?_)
  clear hK K
  (try simp only [Act.put, List.setIfInBounds_toArray, List.set_cons_zero, List.set_cons_succ])
  refine wpAnyH_ready (rs := [20]) (by kernel_rfl) (by simp) ?_
  refine AllReadyH.cons (o := { dst := some 31, op := Op.call { callee := Callee.value (Operand.func 28), args := #[Operand.tmp 30], argTypes := #[28] }, type := 4, pos := "law.go:41", after := #[{ on := 19, ground := Ground.data }, { on := 18, ground := Ground.chain }, { on := 16, ground := Ground.guard }], guard := some (16, true) }) rfl (fun K hK => ?_) AllReadyH.nil
  go_simp
  ((with_reducible refine (D3.out _).mono ?_); rintro e w9 ⟨rfl, hb9⟩)
  refine hK.out _ _ (HKR.out _ ((And.left hHeld).below hb9 (Nat.le_refl _))) (fun hHeld => ?_)
  clear hK K
  (try simp only [Act.put, List.setIfInBounds_toArray, List.set_cons_zero, List.set_cons_succ])
  refine wpAnyH_take (i := 21) (oi := { dst := some 32, op := Op.binOp BinOp.eql 4 (Operand.tmp 29) (Operand.tmp 31) 4, type := 4, pos := "law.go:41", after := #[{ on := 18, ground := Ground.data }, { on := 20, ground := Ground.data }, { on := 16, ground := Ground.guard }], guard := some (16, true) }) (v := .bool true) rfl (by kernel_rfl) (by kernel_rfl) (by kernel_rfl) (fun _ _ _ h => h) (Or.inl ⟨by rfl, fun ww _ => by cases R3 <;> rfl⟩) (by assumption) ?_
  (try simp only [Act.put, List.setIfInBounds_toArray, List.set_cons_zero, List.set_cons_succ])
  refine wpAnyH_take (i := 22) (oi := { dst := some 33, op := Op.pick (Operand.tmp 27) (Operand.tmp 32) (Operand.const (Value.bool false)), type := 4, pos := "law.go:41", after := #[{ on := 16, ground := Ground.data }, { on := 21, ground := Ground.data }], guard := none }) (v := ?_) rfl (by kernel_rfl) (by kernel_rfl) (by kernel_rfl) (fun _ _ _ h => h) (Or.inl ⟨by rfl, ?_⟩) (by assumption) ?_
  rotate_left
  · (intro ww hSw; (try dsimp only at hSw); go_simp; try with_reducible rfl)
  (try simp only [Act.put, List.setIfInBounds_toArray, List.set_cons_zero, List.set_cons_succ])
  refine wpAnyH_take (i := 23) (oi := { dst := some 34, op := Op.move (Operand.tmp 33), type := 4, pos := "law.go:41", after := #[{ on := 22, ground := Ground.data }, { on := 20, ground := Ground.chain }], guard := none }) (v := ?_) rfl (by kernel_rfl) (by kernel_rfl) (by kernel_rfl) (fun _ _ _ h => h) (Or.inl ⟨by rfl, ?_⟩) (by assumption) ?_
  rotate_left
  · (intro ww hSw; (try dsimp only at hSw); go_simp; try with_reducible rfl)
  (try simp only [Act.put, List.setIfInBounds_toArray, List.set_cons_zero, List.set_cons_succ])
  refine wpAnyH_take (i := 24) (oi := { dst := some 35, op := Op.load 24 (Operand.tmp 7), type := 24, pos := "law.go:41", after := #[{ on := 23, ground := Ground.guard }], guard := some (23, true) }) (v := .agg (VX).toArray) rfl (by kernel_rfl) (by kernel_rfl) (by kernel_rfl) (fun _ _ _ h => h) (yieldsIf_load_mid (by rfl) _ _ rfl (w.heap.size + 1 + 1 + 1) 0 rfl (VX) _ (fun ww hSw => hSw.2.1) Tryd.underlying24 rfl HI_VX.out) (by assumption) ?_
  (try simp only [Act.put, List.setIfInBounds_toArray, List.set_cons_zero, List.set_cons_succ])
  refine wpAnyH_take (i := 26) (oi := { dst := some 37, op := Op.load 24 (Operand.tmp 7), type := 24, pos := "law.go:41", after := #[{ on := 23, ground := Ground.guard }], guard := some (23, true) }) (v := .agg (VX).toArray) rfl (by kernel_rfl) (by kernel_rfl) (by kernel_rfl) (fun _ _ _ h => h) (yieldsIf_load_mid (by rfl) _ _ rfl (w.heap.size + 1 + 1 + 1) 0 rfl (VX) _ (fun ww hSw => hSw.2.1) Tryd.underlying24 rfl HI_VX.out) (by assumption) ?_
  (try simp only [Act.put, List.setIfInBounds_toArray, List.set_cons_zero, List.set_cons_succ])
  refine wpAnyH_ready (rs := [25]) (by kernel_rfl) (by simp) ?_
  refine AllReadyH.cons (o := { dst := some 36, op := Op.call { callee := Callee.value (Operand.func 29), args := #[Operand.tmp 35], argTypes := #[24] }, type := 4, pos := "law.go:41", after := #[{ on := 24, ground := Ground.data }, { on := 23, ground := Ground.chain }, { on := 23, ground := Ground.guard }], guard := some (23, true) }) rfl (fun K hK => ?_) AllReadyH.nil
  go_simp
  ((with_reducible refine (K4.out _ (rangeAt_below HG.out (kp_bel (And.left hHeld)))).mono ?_); rintro e w9 ⟨rfl, hb9⟩)
  refine hK.out _ _ (HKR.out _ ((And.left hHeld).below hb9 (Nat.le_refl _))) (fun hHeld => ?_)
  clear hK K
  (try simp only [Act.put, List.setIfInBounds_toArray, List.set_cons_zero, List.set_cons_succ])
  refine wpAnyH_ready (rs := [27]) (by kernel_rfl) (by simp) ?_
  refine AllReadyH.cons (o := { dst := some 38, op := Op.call { callee := Callee.value (Operand.func 30), args := #[Operand.tmp 37], argTypes := #[24] }, type := 4, pos := "law.go:41", after := #[{ on := 26, ground := Ground.data }, { on := 25, ground := Ground.chain }, { on := 23, ground := Ground.guard }], guard := some (23, true) }) rfl (fun K hK => ?_) AllReadyH.nil
  go_simp
  ((with_reducible refine (D4.out _).mono ?_); rintro e w9 ⟨rfl, hb9⟩)
  refine hK.out _ _ (HKR.out _ ((And.left hHeld).below hb9 (Nat.le_refl _))) (fun hHeld => ?_)
  clear hK K
  (try simp only [Act.put, List.setIfInBounds_toArray, List.set_cons_zero, List.set_cons_succ])
  refine wpAnyH_take (i := 28) (oi := { dst := some 39, op := Op.binOp BinOp.eql 4 (Operand.tmp 36) (Operand.tmp 38) 4, type := 4, pos := "law.go:41", after := #[{ on := 25, ground := Ground.data }, { on := 27, ground := Ground.data }, { on := 23, ground := Ground.guard }], guard := some (23, true) }) (v := .bool true) rfl (by kernel_rfl) (by kernel_rfl) (by kernel_rfl) (fun _ _ _ h => h) (Or.inl ⟨by rfl, fun ww _ => by cases R4 <;> rfl⟩) (by assumption) ?_
  (try simp only [Act.put, List.setIfInBounds_toArray, List.set_cons_zero, List.set_cons_succ])
  refine wpAnyH_take (i := 29) (oi := { dst := some 40, op := Op.pick (Operand.tmp 34) (Operand.tmp 39) (Operand.const (Value.bool false)), type := 4, pos := "law.go:41", after := #[{ on := 23, ground := Ground.data }, { on := 28, ground := Ground.data }], guard := none }) (v := ?_) rfl (by kernel_rfl) (by kernel_rfl) (by kernel_rfl) (fun _ _ _ h => h) (Or.inl ⟨by rfl, ?_⟩) (by assumption) ?_
  rotate_left
  · (intro ww hSw; (try dsimp only at hSw); go_simp; try with_reducible rfl)
  (try simp only [Act.put, List.setIfInBounds_toArray, List.set_cons_zero, List.set_cons_succ])
  refine wpAnyH_take (i := 30) (oi := { dst := some 41, op := Op.move (Operand.tmp 40), type := 4, pos := "law.go:41", after := #[{ on := 29, ground := Ground.data }, { on := 27, ground := Ground.chain }], guard := none }) (v := ?_) rfl (by kernel_rfl) (by kernel_rfl) (by kernel_rfl) (fun _ _ _ h => h) (Or.inl ⟨by rfl, ?_⟩) (by assumption) ?_
  rotate_left
  · (intro ww hSw; (try dsimp only at hSw); go_simp; try with_reducible rfl)
  (try simp only [Act.put, List.setIfInBounds_toArray, List.set_cons_zero, List.set_cons_succ])
  refine wpAnyH_take (i := 31) (oi := { dst := some 42, op := Op.load 36 (Operand.tmp 5), type := 36, pos := "law.go:41", after := #[{ on := 30, ground := Ground.guard }], guard := some (30, true) }) (v := .agg (VN).toArray) rfl (by kernel_rfl) (by kernel_rfl) (by kernel_rfl) (fun _ _ _ h => h) (yieldsIf_load_mid (by rfl) _ _ rfl (w.heap.size + 1) 0 rfl (VN) _ (fun ww hSw => hSw.2.2.2.1) Tryd.underlying36 rfl HI_VN.out) (by assumption) ?_
  (try simp only [Act.put, List.setIfInBounds_toArray, List.set_cons_zero, List.set_cons_succ])
  refine wpAnyH_take (i := 32) (oi := { dst := some 43, op := Op.load 28 (Operand.tmp 6), type := 28, pos := "law.go:41", after := #[{ on := 30, ground := Ground.guard }], guard := some (30, true) }) (v := .agg (VA).toArray) rfl (by kernel_rfl) (by kernel_rfl) (by kernel_rfl) (fun _ _ _ h => h) (yieldsIf_load_mid (by rfl) _ _ rfl (w.heap.size + 1 + 1) 0 rfl (VA) _ (fun ww hSw => hSw.2.2.1) Tryd.underlying28 rfl HI_VA.out) (by assumption) ?_
  (try simp only [Act.put, List.setIfInBounds_toArray, List.set_cons_zero, List.set_cons_succ])
  refine wpAnyH_take (i := 34) (oi := { dst := some 45, op := Op.load 36 (Operand.tmp 5), type := 36, pos := "law.go:41", after := #[{ on := 30, ground := Ground.guard }], guard := some (30, true) }) (v := .agg (VN).toArray) rfl (by kernel_rfl) (by kernel_rfl) (by kernel_rfl) (fun _ _ _ h => h) (yieldsIf_load_mid (by rfl) _ _ rfl (w.heap.size + 1) 0 rfl (VN) _ (fun ww hSw => hSw.2.2.2.1) Tryd.underlying36 rfl HI_VN.out) (by assumption) ?_
  (try simp only [Act.put, List.setIfInBounds_toArray, List.set_cons_zero, List.set_cons_succ])
  refine wpAnyH_take (i := 35) (oi := { dst := some 46, op := Op.load 28 (Operand.tmp 6), type := 28, pos := "law.go:41", after := #[{ on := 30, ground := Ground.guard }], guard := some (30, true) }) (v := .agg (VA).toArray) rfl (by kernel_rfl) (by kernel_rfl) (by kernel_rfl) (fun _ _ _ h => h) (yieldsIf_load_mid (by rfl) _ _ rfl (w.heap.size + 1 + 1) 0 rfl (VA) _ (fun ww hSw => hSw.2.2.1) Tryd.underlying28 rfl HI_VA.out) (by assumption) ?_
  (try simp only [Act.put, List.setIfInBounds_toArray, List.set_cons_zero, List.set_cons_succ])
  refine wpAnyH_ready (rs := [33]) (by kernel_rfl) (by simp) ?_
  refine AllReadyH.cons (o := { dst := some 44, op := Op.call { callee := Callee.value (Operand.func 18), args := #[Operand.tmp 42, Operand.tmp 43], argTypes := #[36, 28] }, type := 4, pos := "law.go:41", after := #[{ on := 31, ground := Ground.data }, { on := 32, ground := Ground.data }, { on := 30, ground := Ground.chain }, { on := 30, ground := Ground.guard }], guard := some (30, true) }) rfl (fun K hK => ?_) AllReadyH.nil
  go_simp
  ((with_reducible refine (K5.out _ (HV.out.below (kp_bel (And.left hHeld)))).mono ?_); rintro e w9 ⟨rfl, hb9⟩)
  refine hK.out _ _ (HKR.out _ ((And.left hHeld).below hb9 (Nat.le_refl _))) (fun hHeld => ?_)
  clear hK K
  (try simp only [Act.put, List.setIfInBounds_toArray, List.set_cons_zero, List.set_cons_succ])
  refine wpAnyH_ready (rs := [36]) (by kernel_rfl) (by simp) ?_
  refine AllReadyH.cons (o := { dst := some 47, op := Op.call { callee := Callee.value (Operand.func 31), args := #[Operand.tmp 45, Operand.tmp 46], argTypes := #[36, 28] }, type := 4, pos := "law.go:41", after := #[{ on := 34, ground := Ground.data }, { on := 35, ground := Ground.data }, { on := 33, ground := Ground.chain }, { on := 30, ground := Ground.guard }], guard := some (30, true) }) rfl (fun K hK => ?_) AllReadyH.nil
  go_simp
  ((with_reducible refine (D5.out _).mono ?_); rintro e w9 ⟨rfl, hb9⟩)
  refine hK.out _ _ (HKR.out _ ((And.left hHeld).below hb9 (Nat.le_refl _))) (fun hHeld => ?_)
  clear hK K
  (try simp only [Act.put, List.setIfInBounds_toArray, List.set_cons_zero, List.set_cons_succ])
  refine wpAnyH_take (i := 37) (oi := { dst := some 48, op := Op.binOp BinOp.eql 4 (Operand.tmp 44) (Operand.tmp 47) 4, type := 4, pos := "law.go:41", after := #[{ on := 33, ground := Ground.data }, { on := 36, ground := Ground.data }, { on := 30, ground := Ground.guard }], guard := some (30, true) }) (v := .bool true) rfl (by kernel_rfl) (by kernel_rfl) (by kernel_rfl) (fun _ _ _ h => h) (Or.inl ⟨by rfl, fun ww _ => by cases R5 <;> rfl⟩) (by assumption) ?_
  (try simp only [Act.put, List.setIfInBounds_toArray, List.set_cons_zero, List.set_cons_succ])
  refine wpAnyH_take (i := 38) (oi := { dst := some 49, op := Op.pick (Operand.tmp 41) (Operand.tmp 48) (Operand.const (Value.bool false)), type := 4, pos := "law.go:41", after := #[{ on := 30, ground := Ground.data }, { on := 37, ground := Ground.data }], guard := none }) (v := ?_) rfl (by kernel_rfl) (by kernel_rfl) (by kernel_rfl) (fun _ _ _ h => h) (Or.inl ⟨by rfl, ?_⟩) (by assumption) ?_
  rotate_left
  · (intro ww hSw; (try dsimp only at hSw); go_simp; try with_reducible rfl)
  (try simp only [Act.put, List.setIfInBounds_toArray, List.set_cons_zero, List.set_cons_succ])
  refine wpAnyH_take (i := 39) (oi := { dst := some 8, op := Op.assign (Operand.tmp 49), type := 4, pos := "law.go:41", after := #[{ on := 38, ground := Ground.data }, { on := 36, ground := Ground.chain }, { on := 0, ground := Ground.phase }, { on := 1, ground := Ground.phase }, { on := 2, ground := Ground.phase }, { on := 3, ground := Ground.phase }, { on := 4, ground := Ground.phase }, { on := 5, ground := Ground.phase }, { on := 6, ground := Ground.phase }, { on := 7, ground := Ground.phase }, { on := 8, ground := Ground.phase }, { on := 9, ground := Ground.phase }, { on := 10, ground := Ground.phase }, { on := 11, ground := Ground.phase }, { on := 12, ground := Ground.phase }, { on := 13, ground := Ground.phase }, { on := 14, ground := Ground.phase }, { on := 15, ground := Ground.phase }, { on := 16, ground := Ground.phase }, { on := 17, ground := Ground.phase }, { on := 18, ground := Ground.phase }, { on := 19, ground := Ground.phase }, { on := 20, ground := Ground.phase }, { on := 21, ground := Ground.phase }, { on := 22, ground := Ground.phase }, { on := 23, ground := Ground.phase }, { on := 24, ground := Ground.phase }, { on := 25, ground := Ground.phase }, { on := 26, ground := Ground.phase }, { on := 27, ground := Ground.phase }, { on := 28, ground := Ground.phase }, { on := 29, ground := Ground.phase }, { on := 30, ground := Ground.phase }, { on := 31, ground := Ground.phase }, { on := 32, ground := Ground.phase }, { on := 33, ground := Ground.phase }, { on := 34, ground := Ground.phase }, { on := 35, ground := Ground.phase }, { on := 36, ground := Ground.phase }, { on := 37, ground := Ground.phase }, { on := 38, ground := Ground.phase }], guard := none }) (v := ?_) rfl (by kernel_rfl) (by kernel_rfl) (by kernel_rfl) (fun _ _ _ h => h) (Or.inl ⟨by rfl, ?_⟩) (by assumption) ?_
  rotate_left
  · (intro ww hSw; (try dsimp only at hSw); go_simp; try with_reducible rfl)
  (try simp only [Act.put, List.setIfInBounds_toArray, List.set_cons_zero, List.set_cons_succ])
  refine wpAnyH_done (by kernel_rfl) ?_ _
  refine NoPanic.normal ?_
  go_wp2_with fail
  go_ret
  exact ⟨rfl, (And.left hHeld).2.1⟩
end Go.Proofs.YtkkgcmfcfacakaaDoor
