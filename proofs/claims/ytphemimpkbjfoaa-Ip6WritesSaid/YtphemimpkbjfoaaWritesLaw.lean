/-
  Proved here: the law Ip6Writes answers true, given what the document's Bytes answers.
  Conditions: the packet's sizes are within the form's own reach; what the document's Bytes answers (a hypothesis).
-/
import Derived.Test.YtphemimpkbjfoaaBack
namespace Go.Proofs.Ytphemimpkbjfoaa
open Go.RowKit

/-- The bytes that a packet has, or none. -/
def Pk6.out (p : Pk6) : ByteArray := if p.why = 0 then p.bytes else ⟨#[]⟩
theorem bytes_any (p : Pk6) (v : Value) (w : World) (hx : Exs w v p.exts) (hs : Sm p) (hid : 0 ≤ p.id ∧ p.id < 4294967296) :
    Calls Try.prog 14 #[.agg (p.vals v).toArray] w fun e w' => ∃ x, e = .returned (.tuple #[.string p.out, x]) ∧ ErrV w.heap.size p.why x w' ∧ Below w.heap.size w w' := by
  unfold Pk6.out
  by_cases hw : p.why = 0
  · rw [if_pos hw]
    refine (bytes_ok p v w hx hs hw hid).mono ?_
    rintro e w' ⟨rfl, b⟩
    exact ⟨_, rfl, .inl ⟨hw, rfl⟩, b⟩
  · rw [if_neg hw]
    refine (bytes_bad p v w hx hs (by rw [bne_iff_ne]; exact hw)).mono ?_
    rintro e w' ⟨f, rfl, hf, hle, b⟩
    exact ⟨_, rfl, .inr ⟨hw, f, rfl, hf, hle⟩, b⟩
theorem kp_bel {w0 w : World} {B : Nat} {l : List (Nat × TypeId × List Value)} (h : Kp w0 B l w) : Below B w0 w := h.2.1
theorem kw_keep {w0 w : World} {B b : Nat} {T : TypeId} {V : List Value} {x : Value} (h35 : V[35]? = some x) (h : Kp w0 B [(b, T, V)] w) : Kp w0 B [(b, T, V)] w ∧ w.cell? ⟨b, 35, none⟩ = some x := ⟨h, h.hd.at h35⟩
set_option maxRecDepth 100000 in
set_option maxHeartbeats 1000000 in
theorem ip6Writes_great (p : Pk6) (v : Value) (w : World) (hx : Exs w v p.exts) (hr : Reach6 p) (hg : p.great = true) :
    Calls Try.prog 4 #[.agg (p.vals v).toArray] w fun e w' => e = .returned (.bool true) ∧ Below w.heap.size w w' := by
  obtain ⟨V, hV, hVl, hD, hK⟩ := boxed6 p v w
  have HIV : Hid ((Try.prog.info? 31).map (·.size) = some V.length) := Lib.hid (by rw [hV]; exact Try.info6 p _)
  have HVV := Lib.hid hV
  have CG : Hid (∀ W, Exs W v p.exts → Calls Try.prog 19 #[.agg V.toArray] W fun e w' => e = .returned (.bool true) ∧ Below W.heap.size W w') := Lib.hid (fun W hW => by rw [hV, ← hg]; exact great_any p v W hW hr.len hr.data hr.body)
  have HX0 := Lib.hid hx
  rw [← hV]
  clear hV
  have HK1 := Lib.hid hK
  clear hK hD hx hVl hg
  generalize hw1 : w.alloc (.cells V.toArray 31) = w1 at *
  go_enter Try.func4, Try.ntmps4
  go_upto_region 1 with (fail)
  clear hw1
  go_wp2_with fail
  refine (awake_true w1).mono ?_
  rintro e w2 ⟨rfl, b2⟩
  have HK2 := Lib.hid (HK1.out.below b2 (Nat.le_refl _))
  have hrg2 := HK2.out.hd.range
  clear b2 HK1
  go_wp2_with (refine wpList_load_mid rfl 31 _ rfl w.heap.size 0 rfl V _ hrg2 Try.underlying31 rfl HIV.out ?_)
  refine (CG.out w2 (HX0.out.below HK2.out.2.1 (Nat.le_refl _))).mono ?_
  rintro e w3 ⟨rfl, b3⟩
  have HK3 := Lib.hid (HK2.out.below b3 (Nat.le_refl _))
  have hrg3 := HK3.out.hd.range
  clear b3 HK2 hrg2 CG
  go_wp2_with fail
  go_ret
  exact ⟨rfl, HK3.out.2.1⟩
set_option maxRecDepth 100000 in
set_option maxHeartbeats 1000000 in
theorem ip6Writes_small (p : Pk6) (v : Value) (w : World) (hx : Exs w v p.exts) (hr : Reach6 p) (hg : p.great = false) (HRB : ∀ W, Exs W v p.exts → Calls Try.prog 20 #[.agg (p.vals v).toArray] W fun e w' => e = .returned (.tuple #[.string p.out, .int .i64 p.why]) ∧ Below W.heap.size W w') :
    Calls Try.prog 4 #[.agg (p.vals v).toArray] w fun e w' => e = .returned (.bool true) ∧ Below w.heap.size w w' := by
  have hs := sm_great hg
  have hl : p.exts.length ≤ 1099511627776 := by have := hs.len; omega
  have C2 := Lib.hid (fun (W : World) (hW : Exs W v p.exts) => bytes_any p v W hW hs hr.id)
  have C3 := Lib.hid HRB
  clear HRB hs
  generalize p.out = so at *
  generalize p.why = c at *
  obtain ⟨V, hV, hVl, hD, hK⟩ := boxed6 p v w
  have HIV : Hid ((Try.prog.info? 31).map (·.size) = some V.length) := Lib.hid (by rw [hV]; exact Try.info6 p _)
  have HVV := Lib.hid hV
  have CG : Hid (∀ W, Exs W v p.exts → Calls Try.prog 19 #[.agg V.toArray] W fun e w' => e = .returned (.bool false) ∧ Below W.heap.size W w') := Lib.hid (fun W hW => by rw [hV, ← hg]; exact great_any p v W hW hr.len hr.data hr.body)
  have HX0 := Lib.hid hx
  rw [← hV]
  clear hV
  have HK1 := Lib.hid hK
  clear hK hD hx hVl hg
  generalize hw1 : w.alloc (.cells V.toArray 31) = w1 at *
  go_enter Try.func4, Try.ntmps4
  go_upto_region 1 with (fail)
  clear hw1
  go_wp2_with fail
  refine (awake_true w1).mono ?_
  rintro e w2 ⟨rfl, b2⟩
  have HK2 := Lib.hid (HK1.out.below b2 (Nat.le_refl _))
  have hrg2 := HK2.out.hd.range
  clear b2 HK1
  go_wp2_with (refine wpList_load_mid rfl 31 _ rfl w.heap.size 0 rfl V _ hrg2 Try.underlying31 rfl HIV.out ?_)
  refine (CG.out w2 (HX0.out.below HK2.out.2.1 (Nat.le_refl _))).mono ?_
  rintro e w3 ⟨rfl, b3⟩
  have HK3 := Lib.hid (HK2.out.below b3 (Nat.le_refl _))
  have hrg3 := HK3.out.hd.range
  clear b3 HK2 hrg2 CG
  go_wp2_with (refine wpList_load_mid rfl 31 _ rfl w.heap.size 0 rfl V _ hrg3 Try.underlying31 rfl HIV.out ?_)
  rw [HVV.out]
  refine (C2.out w3 (HX0.out.below HK3.out.2.1 (Nat.le_refl _))).mono ?_
  rintro e w4 ⟨x, rfl, he, b4⟩
  rw [← HVV.out]
  have HK4 := Lib.hid (HK3.out.below b4 (Nat.le_refl _))
  have HE4 := Lib.hid he
  have hrg4 := HK4.out.hd.range
  clear b4 HK3 C2 hrg3 he
  go_wp2_with (refine wpList_load_mid rfl 31 _ rfl w.heap.size 0 rfl V _ hrg4 Try.underlying31 rfl HIV.out ?_)
  rw [HVV.out]
  refine (C3.out w4 (HX0.out.below HK4.out.2.1 (Nat.le_refl _))).mono ?_
  rintro e w5 ⟨rfl, b5⟩
  rw [← HVV.out]
  have HK5 := Lib.hid (HK4.out.below b5 (Nat.le_refl _))
  have he5 := HE4.out.below b5 (Nat.le_refl _)
  have hed : ErrV w3.heap.size c x w5.drew := he5
  have HED := Lib.hid hed
  have h35 : V[35]? = some v := by rw [HVV.out]; exact vals_tail p v 0
  clear b5 HK4 C3 hrg4 he5 HE4
  go_upto_region 7 with (fail)
  generalize hb1 : w.heap.size = b1 at HK5 ⊢
  have HB1 := Lib.hid hb1
  have hleb : w.heap.size ≤ b1 := by omega
  have HLE := Lib.hid hleb
  clear hb1 hleb
  refine wp_region_noPanic ?_
  refine wp_region_held_drew (S := fun w' => Kp w b1 [(b1, 31, V)] w' ∧ w'.cell? ⟨b1, 35, none⟩ = some v) (by kernel_rfl) (kw_keep h35 HK5.out.drew) (fun hHeld => ?_)
  refine wpAnyH_take (i := 0) (oi := { dst := some 21, op := Op.move (Operand.tmp 3), type := 9, pos := "law.go:52", after := #[], guard := none }) (v := ?_) rfl (by kernel_rfl) (by kernel_rfl) (by kernel_rfl) (fun _ _ _ h => h) (Or.inl ⟨by rfl, ?_⟩) (by assumption) ?_
  rotate_left
  · (intro ww hSw; (try dsimp only at hSw); go_simp; try with_reducible rfl)
  (try simp only [Act.put, List.setIfInBounds_toArray, List.set_cons_zero, List.set_cons_succ])
  refine wpAnyH_take (i := 1) (oi := { dst := some 22, op := Op.move (Operand.tmp 5), type := 9, pos := "law.go:52", after := #[], guard := none }) (v := ?_) rfl (by kernel_rfl) (by kernel_rfl) (by kernel_rfl) (fun _ _ _ h => h) (Or.inl ⟨by rfl, ?_⟩) (by assumption) ?_
  rotate_left
  · (intro ww hSw; (try dsimp only at hSw); go_simp; try with_reducible rfl)
  (try simp only [Act.put, List.setIfInBounds_toArray, List.set_cons_zero, List.set_cons_succ])
  refine wpAnyH_take (i := 2) (oi := { dst := some 23, op := Op.binOp BinOp.eql 9 (Operand.tmp 21) (Operand.tmp 22) 9, type := 4, pos := "law.go:52", after := #[{ on := 0, ground := Ground.data }, { on := 1, ground := Ground.data }], guard := none }) (v := ?_) rfl (by kernel_rfl) (by kernel_rfl) (by kernel_rfl) (fun _ _ _ h => h) (Or.inl ⟨by rfl, ?_⟩) (by assumption) ?_
  rotate_left
  · (intro ww hSw; (try dsimp only at hSw); go_simp; try with_reducible rfl)
  (try simp only [Act.put, List.setIfInBounds_toArray, List.set_cons_zero, List.set_cons_succ])
  refine wpAnyH_take (i := 3) (oi := { dst := some 24, op := Op.move (Operand.tmp 23), type := 4, pos := "law.go:52", after := #[{ on := 2, ground := Ground.data }], guard := none }) (v := ?_) rfl (by kernel_rfl) (by kernel_rfl) (by kernel_rfl) (fun _ _ _ h => h) (Or.inl ⟨by rfl, ?_⟩) (by assumption) ?_
  rotate_left
  · (intro ww hSw; (try dsimp only at hSw); go_simp; try with_reducible rfl)
  (try simp only [Act.put, List.setIfInBounds_toArray, List.set_cons_zero, List.set_cons_succ])
  refine wpAnyH_take (i := 4) (oi := { dst := some 25, op := Op.move (Operand.tmp 4), type := 24, pos := "law.go:52", after := #[{ on := 3, ground := Ground.guard }], guard := some (3, true) }) (v := ?_) rfl (by kernel_rfl) (by kernel_rfl) (by kernel_rfl) (fun _ _ _ h => h) (Or.inl ⟨by rfl, ?_⟩) (by assumption) ?_
  rotate_left
  · (intro ww hSw; (try dsimp only at hSw); go_simp; try with_reducible rfl)
  (try simp only [Act.put, List.setIfInBounds_toArray, List.set_cons_zero, List.set_cons_succ])
  refine wpAnyH_take (i := 5) (oi := { dst := some 26, op := Op.move (Operand.tmp 6), type := 3, pos := "law.go:52", after := #[{ on := 3, ground := Ground.guard }], guard := some (3, true) }) (v := ?_) rfl (by kernel_rfl) (by kernel_rfl) (by kernel_rfl) (fun _ _ _ h => h) (Or.inl ⟨by rfl, ?_⟩) (by assumption) ?_
  rotate_left
  · (intro ww hSw; (try dsimp only at hSw); go_simp; try with_reducible rfl)
  (try simp only [Act.put, List.setIfInBounds_toArray, List.set_cons_zero, List.set_cons_succ])
  refine wpAnyH_ready (rs := [6]) (by kernel_rfl) (by simp) ?_
  refine AllReadyH.cons (o := { dst := some 27, op := Op.call { callee := Callee.value (Operand.func 17), args := #[Operand.tmp 25, Operand.tmp 26], argTypes := #[24, 3] }, type := 4, pos := "law.go:52", after := #[{ on := 4, ground := Ground.data }, { on := 5, ground := Ground.data }, { on := 3, ground := Ground.chain }, { on := 3, ground := Ground.guard }], guard := some (3, true) }) rfl (fun K hK => ?_) AllReadyH.nil
  go_simp
  ((with_reducible refine (same_any hed).mono ?_); rintro e w9 ⟨rfl, rfl⟩)
  refine hK.out _ _ (hHeld) (fun hHeld => ?_)
  clear hK K
  (try simp only [Act.put, List.setIfInBounds_toArray, List.set_cons_zero, List.set_cons_succ])
  refine wpAnyH_take (i := 7) (oi := { dst := some 28, op := Op.pick (Operand.tmp 24) (Operand.tmp 27) (Operand.const (Value.bool false)), type := 4, pos := "law.go:52", after := #[{ on := 3, ground := Ground.data }, { on := 6, ground := Ground.data }], guard := none }) (v := ?_) rfl (by kernel_rfl) (by kernel_rfl) (by kernel_rfl) (fun _ _ _ h => h) (Or.inl ⟨by rfl, ?_⟩) (by assumption) ?_
  rotate_left
  · (intro ww hSw; (try dsimp only at hSw); go_simp; try with_reducible rfl)
  (try simp only [Act.put, List.setIfInBounds_toArray, List.set_cons_zero, List.set_cons_succ])
  refine wpAnyH_take (i := 8) (oi := { dst := some 29, op := Op.move (Operand.tmp 28), type := 4, pos := "law.go:52", after := #[{ on := 7, ground := Ground.data }, { on := 6, ground := Ground.chain }], guard := none }) (v := ?_) rfl (by kernel_rfl) (by kernel_rfl) (by kernel_rfl) (fun _ _ _ h => h) (Or.inl ⟨by rfl, ?_⟩) (by assumption) ?_
  rotate_left
  · (intro ww hSw; (try dsimp only at hSw); go_simp; try with_reducible rfl)
  (try simp only [Act.put, List.setIfInBounds_toArray, List.set_cons_zero, List.set_cons_succ])
  refine wpAnyH_take (i := 9) (oi := { dst := some 30, op := Op.fieldAddr 31 (Operand.tmp 1) 5, type := 0, pos := "law.go:52", after := #[{ on := 8, ground := Ground.guard }], guard := some (8, true) }) (v := ?_) rfl (by kernel_rfl) (by kernel_rfl) (by kernel_rfl) (fun _ _ _ h => h) (Or.inl ⟨by rfl, ?_⟩) (by assumption) ?_
  rotate_left
  · (intro ww hSw; (try dsimp only at hSw); go_simp; try with_reducible rfl)
  (try simp only [Act.put, List.setIfInBounds_toArray, List.set_cons_zero, List.set_cons_succ])
  refine wpAnyH_take (i := 10) (oi := { dst := some 31, op := Op.load 22 (Operand.tmp 30), type := 22, pos := "law.go:52", after := #[{ on := 9, ground := Ground.data }, { on := 8, ground := Ground.guard }], guard := some (8, true) }) (v := ?_) rfl (by kernel_rfl) (by kernel_rfl) (by kernel_rfl) (fun _ _ _ h => h) (Or.inl ⟨by rfl, ?_⟩) (by assumption) ?_
  rotate_left
  · (intro ww hSw; (try dsimp only at hSw); go_simp; try with_reducible rfl)
  (try simp only [Act.put, List.setIfInBounds_toArray, List.set_cons_zero, List.set_cons_succ])
  refine wpAnyH_take (i := 12) (oi := { dst := some 33, op := Op.fieldAddr 31 (Operand.tmp 1) 5, type := 0, pos := "law.go:52", after := #[{ on := 8, ground := Ground.guard }], guard := some (8, true) }) (v := ?_) rfl (by kernel_rfl) (by kernel_rfl) (by kernel_rfl) (fun _ _ _ h => h) (Or.inl ⟨by rfl, ?_⟩) (by assumption) ?_
  rotate_left
  · (intro ww hSw; (try dsimp only at hSw); go_simp; try with_reducible rfl)
  (try simp only [Act.put, List.setIfInBounds_toArray, List.set_cons_zero, List.set_cons_succ])
  refine wpAnyH_take (i := 13) (oi := { dst := some 34, op := Op.load 22 (Operand.tmp 33), type := 22, pos := "law.go:52", after := #[{ on := 12, ground := Ground.data }, { on := 8, ground := Ground.guard }], guard := some (8, true) }) (v := ?_) rfl (by kernel_rfl) (by kernel_rfl) (by kernel_rfl) (fun _ _ _ h => h) (Or.inl ⟨by rfl, ?_⟩) (by assumption) ?_
  rotate_left
  · (intro ww hSw; (try dsimp only at hSw); go_simp; try with_reducible rfl)
  (try simp only [Act.put, List.setIfInBounds_toArray, List.set_cons_zero, List.set_cons_succ])
  refine wpAnyH_ready (rs := [11]) (by kernel_rfl) (by simp) ?_
  refine AllReadyH.cons (o := { dst := some 32, op := Op.call { callee := Callee.value (Operand.func 18), args := #[Operand.tmp 31], argTypes := #[22] }, type := 4, pos := "law.go:52", after := #[{ on := 10, ground := Ground.data }, { on := 8, ground := Ground.chain }, { on := 8, ground := Ground.guard }], guard := some (8, true) }) rfl (fun K hK => ?_) AllReadyH.nil
  go_simp
  ((with_reducible refine (routed_any v p.exts _ (HX0.out.below (kp_bel (And.left hHeld)) HLE.out) hl).mono ?_); rintro e w9 ⟨rfl, hb9⟩)
  refine hK.out _ _ (kw_keep h35 ((And.left hHeld).below hb9 (Nat.le_refl _))) (fun hHeld => ?_)
  clear hK K
  (try simp only [Act.put, List.setIfInBounds_toArray, List.set_cons_zero, List.set_cons_succ])
  refine wpAnyH_ready (rs := [14]) (by kernel_rfl) (by simp) ?_
  refine AllReadyH.cons (o := { dst := some 35, op := Op.call { callee := Callee.value (Operand.func 21), args := #[Operand.tmp 34], argTypes := #[22] }, type := 4, pos := "law.go:52", after := #[{ on := 13, ground := Ground.data }, { on := 11, ground := Ground.chain }, { on := 8, ground := Ground.guard }], guard := some (8, true) }) rfl (fun K hK => ?_) AllReadyH.nil
  go_simp
  ((with_reducible refine (rrouted_any v p.exts _ (HX0.out.below (kp_bel (And.left hHeld)) HLE.out) hl).mono ?_); rintro e w9 ⟨rfl, rfl⟩)
  refine hK.out _ _ (hHeld) (fun hHeld => ?_)
  clear hK K
  (try simp only [Act.put, List.setIfInBounds_toArray, List.set_cons_zero, List.set_cons_succ])
  refine wpAnyH_take (i := 15) (oi := { dst := some 36, op := Op.binOp BinOp.eql 4 (Operand.tmp 32) (Operand.tmp 35) 4, type := 4, pos := "law.go:52", after := #[{ on := 11, ground := Ground.data }, { on := 14, ground := Ground.data }, { on := 8, ground := Ground.guard }], guard := some (8, true) }) (v := ?_) rfl (by kernel_rfl) (by kernel_rfl) (by kernel_rfl) (fun _ _ _ h => h) (Or.inl ⟨by rfl, ?_⟩) (by assumption) ?_
  rotate_left
  · (intro ww hSw; (try dsimp only at hSw); go_simp; try with_reducible rfl)
  (try simp only [Act.put, List.setIfInBounds_toArray, List.set_cons_zero, List.set_cons_succ])
  refine wpAnyH_take (i := 16) (oi := { dst := some 37, op := Op.pick (Operand.tmp 29) (Operand.tmp 36) (Operand.const (Value.bool false)), type := 4, pos := "law.go:52", after := #[{ on := 8, ground := Ground.data }, { on := 15, ground := Ground.data }], guard := none }) (v := ?_) rfl (by kernel_rfl) (by kernel_rfl) (by kernel_rfl) (fun _ _ _ h => h) (Or.inl ⟨by rfl, ?_⟩) (by assumption) ?_
  rotate_left
  · (intro ww hSw; (try dsimp only at hSw); go_simp; try with_reducible rfl)
  (try simp only [Act.put, List.setIfInBounds_toArray, List.set_cons_zero, List.set_cons_succ])
  refine wpAnyH_take (i := 17) (oi := { dst := some 2, op := Op.assign (Operand.tmp 37), type := 4, pos := "law.go:52", after := #[{ on := 16, ground := Ground.data }, { on := 14, ground := Ground.chain }, { on := 0, ground := Ground.phase }, { on := 1, ground := Ground.phase }, { on := 2, ground := Ground.phase }, { on := 3, ground := Ground.phase }, { on := 4, ground := Ground.phase }, { on := 5, ground := Ground.phase }, { on := 6, ground := Ground.phase }, { on := 7, ground := Ground.phase }, { on := 8, ground := Ground.phase }, { on := 9, ground := Ground.phase }, { on := 10, ground := Ground.phase }, { on := 11, ground := Ground.phase }, { on := 12, ground := Ground.phase }, { on := 13, ground := Ground.phase }, { on := 14, ground := Ground.phase }, { on := 15, ground := Ground.phase }, { on := 16, ground := Ground.phase }], guard := none }) (v := ?_) rfl (by kernel_rfl) (by kernel_rfl) (by kernel_rfl) (fun _ _ _ h => h) (Or.inl ⟨by rfl, ?_⟩) (by assumption) ?_
  rotate_left
  · (intro ww hSw; (try dsimp only at hSw); go_simp; try with_reducible rfl)
  (try simp only [Act.put, List.setIfInBounds_toArray, List.set_cons_zero, List.set_cons_succ])
  refine wpAnyH_done (by kernel_rfl) ?_ _
  refine NoPanic.normal ?_
  have HE := Lib.hid (show Below b1 w _ from (kp_bel (And.left hHeld)))
  clear hHeld
  go_wp2_with fail
  go_ret
  exact ⟨rfl, by rw [HB1.out]; exact HE.out⟩
end Go.Proofs.Ytphemimpkbjfoaa
