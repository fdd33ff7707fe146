/-
  Proved here: what the program's Inside answers.
  Conditions: addresses of 16 bytes.
-/
import Derived.Test.YtpjcanejenmldaaProgRight
namespace Go.Proofs.Ytpjcanejenmldaa
open Go.RowKit

theorem inside_s {w : World} {b c : Nat} {V X8 X : List Value} {d8 L : Int} (hf : NF V X8 d8 L) {T T' : TypeId} (h : Bk w b T V.toArray) (h' : Bk w c T' X.toArray) : w.rangeAt b 0 X8 ∧ w.rangeAt c 0 X ∧ w.cell? ⟨b, 16, none⟩ = some (.int .i64 L) := ⟨(net_s hf h).1, h'.range, (net_s hf h).2.2⟩
theorem kp2 (w : World) (T1 T2 : TypeId) (V1 V2 : List Value) : Kp w w.heap.size [(w.heap.size + 1, T2, V2), (w.heap.size, T1, V1)] ((w.alloc (.cells V1.toArray T1)).alloc (.cells V2.toArray T2)) := by
  have h := ((Kp.start w).new T1 V1).new T2 V2
  have h1 : (w.alloc (.cells V1.toArray T1)).heap.size = w.heap.size + 1 := by simp
  rwa [h1] at h
set_option maxRecDepth 100000 in
set_option maxHeartbeats 1000000 in
theorem inside_any (p : Nt) (x : List Int) (hl : p.ad.length = 16) (hx : x.length = 16) (w : World) :
    Calls Try.prog 19 #[.agg p.vals.toArray, .agg (b8 x).toArray] w fun e w' => e = .returned (.bool (p.inside x)) ∧ Below w.heap.size w w' := by
  have HM := Lib.hid (fun W => right_any p hl W)
  have HO := Lib.hid (show p.right = true → okL p.ln = true ∧ nil8 p.ad (cut8 p.ln) 16 = true from fun h => by unfold Nt.right at h; simp only [Bool.and_eq_true] at h; exact ⟨h.1, h.2.2⟩)
  have HB := Lib.hid (fun (h : p.right = true) W => begins_any x p.ln hx (HO.out h).1 W)
  have HR : Hid (p.inside x = (p.right && (p.ad.take (cut8 p.ln) == x.take (cut8 p.ln)))) := Lib.hid rfl
  have HS := Lib.hid (fun h => beg_in p.ad x p.ln hl hx (HO.out h).1 (HO.out h).2)
  have HQ := Lib.hid (fun (h : p.right = true) W => eq6 (beg x p.ln) p.ad ((bgn_len _ _ _ (Nat.le_trans (okL_cut (HO.out h).1).1 (by omega)) (by omega)).trans hx) hl W)
  have HF := Lib.hid (nf_of p hl)
  have HI6 := Lib.hid (Try.infoSix p.ad hl)
  have HIx := Lib.hid (Try.infoSix x hx)
  have HIn := Lib.hid (Try.infoNet p hl)
  have HK := Lib.hid (kp2 w 26 23 p.vals (b8 x))
  clear HO
  generalize p.inside x = R at *
  generalize p.right = ok at *
  generalize p.ad.getD 8 0 = d8 at *
  generalize (beg x p.ln == p.ad) = sm at *
  generalize b8 (beg x p.ln) = VR at *
  generalize (p.ad.take (cut8 p.ln) == x.take (cut8 p.ln)) = ins at *
  generalize b8 p.ad = X8 at *
  generalize b8 x = X at *
  generalize p.vals = V at *
  generalize p.ln = L at *
  clear hl hx
  generalize hw1 : (w.alloc (.cells V.toArray 26)).alloc (.cells X.toArray 23) = w1 at *
  go_enter Try.func19, Try.ntmps19
  go_upto_region 1 with (fail)
  clear hw1
  have HS1 := Lib.hid (show Kp w w.heap.size [(w.heap.size + 1, 23, X), (w.heap.size, 26, V)] w1.drew ∧ w1.drew.rangeAt w.heap.size 0 V ∧ w1.drew.rangeAt w.heap.size 0 X8 ∧ w1.drew.rangeAt (w.heap.size + 1) 0 X ∧ w1.drew.cell? ⟨w.heap.size, 16, none⟩ = some (.int .i64 L) from ⟨HK.out.drew, HK.out.drew.tl.hd.range, inside_s HF.out HK.out.drew.tl.hd HK.out.drew.hd⟩)
  cases ok
  · have HX : Hid (R = false) := Lib.hid (by rw [HR.out]; rfl)
    clear HR HB HS HQ
    refine wp_region_noPanic ?_
    refine wp_region_held_drew (S := fun w' => Kp w w.heap.size [(w.heap.size + 1, 23, X), (w.heap.size, 26, V)] w' ∧ w'.rangeAt w.heap.size 0 V ∧ w'.rangeAt w.heap.size 0 X8 ∧ w'.rangeAt (w.heap.size + 1) 0 X ∧ w'.cell? ⟨w.heap.size, 16, none⟩ = some (.int .i64 L)) (by kernel_rfl) (HS1.out) (fun hHeld => ?_)
    refine wpAnyH_take (i := 0) (oi := { dst := some 5, op := Op.load 26 (Operand.tmp 2), type := 26, pos := "embed.go:35", after := #[], guard := none }) (v := .agg (V).toArray) rfl (by kernel_rfl) (by kernel_rfl) (by kernel_rfl) (fun _ _ _ h => h) (yieldsIf_load_mid (by rfl) _ _ rfl (w.heap.size) 0 rfl (V) _ (fun ww hSw => hSw.2.1) Try.underlying26 rfl HIn.out) (by assumption) ?_
    (try simp only [Act.put, List.setIfInBounds_toArray, List.set_cons_zero, List.set_cons_succ])
    refine wpAnyH_ready (rs := [1]) (by kernel_rfl) (by simp) ?_
    refine AllReadyH.cons (o := { dst := some 6, op := Op.call { callee := Callee.value (Operand.func 15), args := #[Operand.tmp 5], argTypes := #[26] }, type := 4, pos := "embed.go:35", after := #[{ on := 0, ground := Ground.data }], guard := none }) rfl (fun K hK => ?_) AllReadyH.nil
    go_simp
    ((with_reducible refine (HM.out _).mono ?_); rintro e w9 ⟨rfl, hb9⟩)
    refine hK.out _ _ (⟨((And.left hHeld).below hb9 (Nat.le_refl _)), ((And.left hHeld).below hb9 (Nat.le_refl _)).tl.hd.range, inside_s HF.out ((And.left hHeld).below hb9 (Nat.le_refl _)).tl.hd ((And.left hHeld).below hb9 (Nat.le_refl _)).hd⟩) (fun hHeld => ?_)
    clear hK K
    (try simp only [Act.put, List.setIfInBounds_toArray, List.set_cons_zero, List.set_cons_succ])
    refine wpAnyH_take (i := 2) (oi := { dst := some 7, op := Op.move (Operand.tmp 6), type := 4, pos := "embed.go:35", after := #[{ on := 1, ground := Ground.data }, { on := 1, ground := Ground.chain }], guard := none }) (v := ?_) rfl (by kernel_rfl) (by kernel_rfl) (by kernel_rfl) (fun _ _ _ h => h) (Or.inl ⟨by rfl, ?_⟩) (by assumption) ?_
    rotate_left
    · (intro ww hSw; (try dsimp only at hSw); go_simp; try with_reducible rfl)
    (try simp only [Act.put, List.setIfInBounds_toArray, List.set_cons_zero, List.set_cons_succ])
    refine wpAnyH_take (i := 3) (oi := { dst := some 8, op := Op.load 23 (Operand.tmp 3), type := 23, pos := "embed.go:35", after := #[{ on := 2, ground := Ground.guard }], guard := some (2, true) }) (v := undef) rfl (by kernel_rfl) (by kernel_rfl) (by kernel_rfl) (fun _ _ _ h => h) (Or.inr ⟨by rfl, rfl⟩) (by assumption) ?_
    (try simp only [Act.put, List.setIfInBounds_toArray, List.set_cons_zero, List.set_cons_succ])
    refine wpAnyH_take (i := 4) (oi := { dst := some 9, op := Op.fieldAddr 26 (Operand.tmp 2) 1, type := 0, pos := "embed.go:35", after := #[{ on := 2, ground := Ground.guard }], guard := some (2, true) }) (v := undef) rfl (by kernel_rfl) (by kernel_rfl) (by kernel_rfl) (fun _ _ _ h => h) (Or.inr ⟨by rfl, rfl⟩) (by assumption) ?_
    (try simp only [Act.put, List.setIfInBounds_toArray, List.set_cons_zero, List.set_cons_succ])
    refine wpAnyH_take (i := 5) (oi := { dst := some 10, op := Op.load 3 (Operand.tmp 9), type := 3, pos := "embed.go:35", after := #[{ on := 4, ground := Ground.data }, { on := 2, ground := Ground.guard }], guard := some (2, true) }) (v := undef) rfl (by kernel_rfl) (by kernel_rfl) (by kernel_rfl) (fun _ _ _ h => h) (Or.inr ⟨by rfl, rfl⟩) (by assumption) ?_
    (try simp only [Act.put, List.setIfInBounds_toArray, List.set_cons_zero, List.set_cons_succ])
    refine wpAnyH_take (i := 6) (oi := { dst := some 11, op := Op.call { callee := Callee.value (Operand.func 23), args := #[Operand.tmp 8, Operand.tmp 10], argTypes := #[23, 3] }, type := 23, pos := "embed.go:35", after := #[{ on := 3, ground := Ground.data }, { on := 5, ground := Ground.data }, { on := 2, ground := Ground.chain }, { on := 2, ground := Ground.guard }], guard := some (2, true) }) (v := undef) rfl (by kernel_rfl) (by kernel_rfl) (by kernel_rfl) (fun _ _ _ h => h) (Or.inr ⟨by rfl, rfl⟩) (by assumption) ?_
    (try simp only [Act.put, List.setIfInBounds_toArray, List.set_cons_zero, List.set_cons_succ])
    refine wpAnyH_take (i := 7) (oi := { dst := some 12, op := Op.fieldAddr 26 (Operand.tmp 2) 0, type := 0, pos := "embed.go:35", after := #[{ on := 2, ground := Ground.guard }], guard := some (2, true) }) (v := undef) rfl (by kernel_rfl) (by kernel_rfl) (by kernel_rfl) (fun _ _ _ h => h) (Or.inr ⟨by rfl, rfl⟩) (by assumption) ?_
    (try simp only [Act.put, List.setIfInBounds_toArray, List.set_cons_zero, List.set_cons_succ])
    refine wpAnyH_take (i := 8) (oi := { dst := some 13, op := Op.load 23 (Operand.tmp 12), type := 23, pos := "embed.go:35", after := #[{ on := 7, ground := Ground.data }, { on := 2, ground := Ground.guard }], guard := some (2, true) }) (v := undef) rfl (by kernel_rfl) (by kernel_rfl) (by kernel_rfl) (fun _ _ _ h => h) (Or.inr ⟨by rfl, rfl⟩) (by assumption) ?_
    (try simp only [Act.put, List.setIfInBounds_toArray, List.set_cons_zero, List.set_cons_succ])
    refine wpAnyH_take (i := 9) (oi := { dst := some 14, op := Op.binOp BinOp.eql 23 (Operand.tmp 11) (Operand.tmp 13) 23, type := 4, pos := "embed.go:35", after := #[{ on := 6, ground := Ground.data }, { on := 8, ground := Ground.data }, { on := 2, ground := Ground.guard }], guard := some (2, true) }) (v := undef) rfl (by kernel_rfl) (by kernel_rfl) (by kernel_rfl) (fun _ _ _ h => h) (Or.inr ⟨by rfl, rfl⟩) (by assumption) ?_
    (try simp only [Act.put, List.setIfInBounds_toArray, List.set_cons_zero, List.set_cons_succ])
    refine wpAnyH_take (i := 10) (oi := { dst := some 15, op := Op.pick (Operand.tmp 7) (Operand.tmp 14) (Operand.const (Value.bool false)), type := 4, pos := "embed.go:35", after := #[{ on := 2, ground := Ground.data }, { on := 9, ground := Ground.data }], guard := none }) (v := ?_) rfl (by kernel_rfl) (by kernel_rfl) (by kernel_rfl) (fun _ _ _ h => h) (Or.inl ⟨by rfl, ?_⟩) (by assumption) ?_
    rotate_left
    · (intro ww hSw; (try dsimp only at hSw); go_simp; try with_reducible rfl)
    (try simp only [Act.put, List.setIfInBounds_toArray, List.set_cons_zero, List.set_cons_succ])
    refine wpAnyH_take (i := 11) (oi := { dst := some 4, op := Op.assign (Operand.tmp 15), type := 4, pos := "embed.go:35", after := #[{ on := 10, ground := Ground.data }, { on := 6, ground := Ground.chain }, { on := 0, ground := Ground.phase }, { on := 1, ground := Ground.phase }, { on := 2, ground := Ground.phase }, { on := 3, ground := Ground.phase }, { on := 4, ground := Ground.phase }, { on := 5, ground := Ground.phase }, { on := 6, ground := Ground.phase }, { on := 7, ground := Ground.phase }, { on := 8, ground := Ground.phase }, { on := 9, ground := Ground.phase }, { on := 10, ground := Ground.phase }], guard := none }) (v := ?_) rfl (by kernel_rfl) (by kernel_rfl) (by kernel_rfl) (fun _ _ _ h => h) (Or.inl ⟨by rfl, ?_⟩) (by assumption) ?_
    rotate_left
    · (intro ww hSw; (try dsimp only at hSw); go_simp; try with_reducible rfl)
    (try simp only [Act.put, List.setIfInBounds_toArray, List.set_cons_zero, List.set_cons_succ])
    refine wpAnyH_done (by kernel_rfl) ?_ _
    refine NoPanic.normal ?_
    have HE := Lib.hid (And.left hHeld)
    clear hHeld
    go_wp2_with fail
    go_ret
    exact ⟨by rw [HX.out]; rfl, HE.out.2.1⟩
  · have hB := HB.out rfl
    have hq := HQ.out rfl
    have HBB := Lib.hid hB
    have HX : Hid (R = sm) := Lib.hid (by rw [HR.out, HS.out rfl]; rfl)
    clear HR HB HS HQ hB
    refine wp_region_noPanic ?_
    refine wp_region_held_drew (S := fun w' => Kp w w.heap.size [(w.heap.size + 1, 23, X), (w.heap.size, 26, V)] w' ∧ w'.rangeAt w.heap.size 0 V ∧ w'.rangeAt w.heap.size 0 X8 ∧ w'.rangeAt (w.heap.size + 1) 0 X ∧ w'.cell? ⟨w.heap.size, 16, none⟩ = some (.int .i64 L)) (by kernel_rfl) (HS1.out) (fun hHeld => ?_)
    refine wpAnyH_take (i := 0) (oi := { dst := some 5, op := Op.load 26 (Operand.tmp 2), type := 26, pos := "embed.go:35", after := #[], guard := none }) (v := .agg (V).toArray) rfl (by kernel_rfl) (by kernel_rfl) (by kernel_rfl) (fun _ _ _ h => h) (yieldsIf_load_mid (by rfl) _ _ rfl (w.heap.size) 0 rfl (V) _ (fun ww hSw => hSw.2.1) Try.underlying26 rfl HIn.out) (by assumption) ?_
    (try simp only [Act.put, List.setIfInBounds_toArray, List.set_cons_zero, List.set_cons_succ])
    refine wpAnyH_ready (rs := [1]) (by kernel_rfl) (by simp) ?_
    refine AllReadyH.cons (o := { dst := some 6, op := Op.call { callee := Callee.value (Operand.func 15), args := #[Operand.tmp 5], argTypes := #[26] }, type := 4, pos := "embed.go:35", after := #[{ on := 0, ground := Ground.data }], guard := none }) rfl (fun K hK => ?_) AllReadyH.nil
    go_simp
    ((with_reducible refine (HM.out _).mono ?_); rintro e w9 ⟨rfl, hb9⟩)
    refine hK.out _ _ (⟨((And.left hHeld).below hb9 (Nat.le_refl _)), ((And.left hHeld).below hb9 (Nat.le_refl _)).tl.hd.range, inside_s HF.out ((And.left hHeld).below hb9 (Nat.le_refl _)).tl.hd ((And.left hHeld).below hb9 (Nat.le_refl _)).hd⟩) (fun hHeld => ?_)
    clear hK K
    (try simp only [Act.put, List.setIfInBounds_toArray, List.set_cons_zero, List.set_cons_succ])
    refine wpAnyH_take (i := 2) (oi := { dst := some 7, op := Op.move (Operand.tmp 6), type := 4, pos := "embed.go:35", after := #[{ on := 1, ground := Ground.data }, { on := 1, ground := Ground.chain }], guard := none }) (v := ?_) rfl (by kernel_rfl) (by kernel_rfl) (by kernel_rfl) (fun _ _ _ h => h) (Or.inl ⟨by rfl, ?_⟩) (by assumption) ?_
    rotate_left
    · (intro ww hSw; (try dsimp only at hSw); go_simp; try with_reducible rfl)
    (try simp only [Act.put, List.setIfInBounds_toArray, List.set_cons_zero, List.set_cons_succ])
    refine wpAnyH_take (i := 3) (oi := { dst := some 8, op := Op.load 23 (Operand.tmp 3), type := 23, pos := "embed.go:35", after := #[{ on := 2, ground := Ground.guard }], guard := some (2, true) }) (v := .agg (X).toArray) rfl (by kernel_rfl) (by kernel_rfl) (by kernel_rfl) (fun _ _ _ h => h) (yieldsIf_load_mid (by rfl) _ _ rfl (w.heap.size + 1) 0 rfl (X) _ (fun ww hSw => hSw.2.2.2.1) Try.underlying23 rfl HIx.out) (by assumption) ?_
    (try simp only [Act.put, List.setIfInBounds_toArray, List.set_cons_zero, List.set_cons_succ])
    refine wpAnyH_take (i := 4) (oi := { dst := some 9, op := Op.fieldAddr 26 (Operand.tmp 2) 1, type := 0, pos := "embed.go:35", after := #[{ on := 2, ground := Ground.guard }], guard := some (2, true) }) (v := ?_) rfl (by kernel_rfl) (by kernel_rfl) (by kernel_rfl) (fun _ _ _ h => h) (Or.inl ⟨by rfl, ?_⟩) (by assumption) ?_
    rotate_left
    · (intro ww hSw; (try dsimp only at hSw); go_simp; try with_reducible rfl)
    (try simp only [Act.put, List.setIfInBounds_toArray, List.set_cons_zero, List.set_cons_succ])
    refine wpAnyH_take (i := 5) (oi := { dst := some 10, op := Op.load 3 (Operand.tmp 9), type := 3, pos := "embed.go:35", after := #[{ on := 4, ground := Ground.data }, { on := 2, ground := Ground.guard }], guard := some (2, true) }) (v := ?_) rfl (by kernel_rfl) (by kernel_rfl) (by kernel_rfl) (fun _ _ _ h => h) (Or.inl ⟨by rfl, ?_⟩) (by assumption) ?_
    rotate_left
    · (intro ww hSw; (try dsimp only at hSw); go_simp; try with_reducible rfl)
    (try simp only [Act.put, List.setIfInBounds_toArray, List.set_cons_zero, List.set_cons_succ])
    refine wpAnyH_take (i := 7) (oi := { dst := some 12, op := Op.fieldAddr 26 (Operand.tmp 2) 0, type := 0, pos := "embed.go:35", after := #[{ on := 2, ground := Ground.guard }], guard := some (2, true) }) (v := ?_) rfl (by kernel_rfl) (by kernel_rfl) (by kernel_rfl) (fun _ _ _ h => h) (Or.inl ⟨by rfl, ?_⟩) (by assumption) ?_
    rotate_left
    · (intro ww hSw; (try dsimp only at hSw); go_simp; try with_reducible rfl)
    (try simp only [Act.put, List.setIfInBounds_toArray, List.set_cons_zero, List.set_cons_succ])
    refine wpAnyH_take (i := 8) (oi := { dst := some 13, op := Op.load 23 (Operand.tmp 12), type := 23, pos := "embed.go:35", after := #[{ on := 7, ground := Ground.data }, { on := 2, ground := Ground.guard }], guard := some (2, true) }) (v := .agg (X8).toArray) rfl (by kernel_rfl) (by kernel_rfl) (by kernel_rfl) (fun _ _ _ h => h) (yieldsIf_load_mid (by rfl) _ _ rfl (w.heap.size) 0 rfl (X8) _ (fun ww hSw => hSw.2.2.1) Try.underlying23 rfl HI6.out) (by assumption) ?_
    (try simp only [Act.put, List.setIfInBounds_toArray, List.set_cons_zero, List.set_cons_succ])
    refine wpAnyH_ready (rs := [6]) (by kernel_rfl) (by simp) ?_
    refine AllReadyH.cons (o := { dst := some 11, op := Op.call { callee := Callee.value (Operand.func 23), args := #[Operand.tmp 8, Operand.tmp 10], argTypes := #[23, 3] }, type := 23, pos := "embed.go:35", after := #[{ on := 3, ground := Ground.data }, { on := 5, ground := Ground.data }, { on := 2, ground := Ground.chain }, { on := 2, ground := Ground.guard }], guard := some (2, true) }) rfl (fun K hK => ?_) AllReadyH.nil
    go_simp
    ((with_reducible refine (HBB.out _).mono ?_); rintro e w9 ⟨rfl, hb9⟩)
    refine hK.out _ _ (⟨((And.left hHeld).below hb9 (Nat.le_refl _)), ((And.left hHeld).below hb9 (Nat.le_refl _)).tl.hd.range, inside_s HF.out ((And.left hHeld).below hb9 (Nat.le_refl _)).tl.hd ((And.left hHeld).below hb9 (Nat.le_refl _)).hd⟩) (fun hHeld => ?_)
    clear hK K
    (try simp only [Act.put, List.setIfInBounds_toArray, List.set_cons_zero, List.set_cons_succ])
    refine wpAnyH_take (i := 9) (oi := { dst := some 14, op := Op.binOp BinOp.eql 23 (Operand.tmp 11) (Operand.tmp 13) 23, type := 4, pos := "embed.go:35", after := #[{ on := 6, ground := Ground.data }, { on := 8, ground := Ground.data }, { on := 2, ground := Ground.guard }], guard := some (2, true) }) (v := ?_) rfl (by kernel_rfl) (by kernel_rfl) (by kernel_rfl) (fun _ _ _ h => h) (Or.inl ⟨by rfl, ?_⟩) (by assumption) ?_
    rotate_left
    · (intro ww hSw; (try dsimp only at hSw); go_simp; try with_reducible rfl)
    (try simp only [Act.put, List.setIfInBounds_toArray, List.set_cons_zero, List.set_cons_succ])
    refine wpAnyH_take (i := 10) (oi := { dst := some 15, op := Op.pick (Operand.tmp 7) (Operand.tmp 14) (Operand.const (Value.bool false)), type := 4, pos := "embed.go:35", after := #[{ on := 2, ground := Ground.data }, { on := 9, ground := Ground.data }], guard := none }) (v := ?_) rfl (by kernel_rfl) (by kernel_rfl) (by kernel_rfl) (fun _ _ _ h => h) (Or.inl ⟨by rfl, ?_⟩) (by assumption) ?_
    rotate_left
    · (intro ww hSw; (try dsimp only at hSw); go_simp; try with_reducible rfl)
    (try simp only [Act.put, List.setIfInBounds_toArray, List.set_cons_zero, List.set_cons_succ])
    refine wpAnyH_take (i := 11) (oi := { dst := some 4, op := Op.assign (Operand.tmp 15), type := 4, pos := "embed.go:35", after := #[{ on := 10, ground := Ground.data }, { on := 6, ground := Ground.chain }, { on := 0, ground := Ground.phase }, { on := 1, ground := Ground.phase }, { on := 2, ground := Ground.phase }, { on := 3, ground := Ground.phase }, { on := 4, ground := Ground.phase }, { on := 5, ground := Ground.phase }, { on := 6, ground := Ground.phase }, { on := 7, ground := Ground.phase }, { on := 8, ground := Ground.phase }, { on := 9, ground := Ground.phase }, { on := 10, ground := Ground.phase }], guard := none }) (v := ?_) rfl (by kernel_rfl) (by kernel_rfl) (by kernel_rfl) (fun _ _ _ h => h) (Or.inl ⟨by rfl, ?_⟩) (by assumption) ?_
    rotate_left
    · (intro ww hSw; (try dsimp only at hSw); go_simp; try with_reducible rfl)
    (try simp only [Act.put, List.setIfInBounds_toArray, List.set_cons_zero, List.set_cons_succ])
    refine wpAnyH_done (by kernel_rfl) ?_ _
    refine NoPanic.normal ?_
    have HE := Lib.hid (And.left hHeld)
    clear hHeld
    go_wp2_with fail
    go_ret
    exact ⟨by rw [HX.out]; rfl, HE.out.2.1⟩
end Go.Proofs.Ytpjcanejenmldaa
