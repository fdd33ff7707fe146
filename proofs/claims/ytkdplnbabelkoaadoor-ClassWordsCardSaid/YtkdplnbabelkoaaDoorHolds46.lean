/-
  Proved here: what the document's Holds4 and Holds6 answer.
  Conditions: addresses of 4 and of 16 bytes.
-/
import Derived.Test.YtkdplnbabelkoaaDoorHolds
namespace Go.Proofs.YtkdplnbabelkoaaDoor
open Go.RowKit

/-- A prefix: its address and its length. -/
structure Nn where
  ad : List UInt8
  ln : Int
def Nn.vals (p : Nn) : List Value := bu p.ad ++ [.int .i64 p.ln]
def Nn.holds (p : Nn) (x : List UInt8) : Bool := holdsv p.ad x p.ln
theorem nn_at (p : Nn) (i : Nat) (h : i < p.ad.length) : p.vals[i]? = some (.int .u8 ((p.ad.getD i 0).toNat : Int)) := by
  unfold Nn.vals
  rw [List.getElem?_append_left (by rw [bu_len]; exact h)]
  exact bu_at _ i h
theorem nn_ln (p : Nn) : p.vals[p.ad.length]? = some (.int .i64 p.ln) := by
  unfold Nn.vals
  rw [List.getElem?_append_right (by rw [bu_len]; exact Nat.le_refl _), bu_len, Nat.sub_self]
  rfl
theorem lies_nn {w : World} {b : Nat} {T : TypeId} {p : Nn} (h : Bk w b T p.vals.toArray) : Lies b p.ad w := fun i hi => h.at (nn_at p i hi)
theorem lies_bu {w : World} {b : Nat} {T : TypeId} {x : List UInt8} (h : Bk w b T (bu x).toArray) : Lies b x w := fun i hi => h.at (bu_at x i hi)
theorem kp2 (w : World) (T1 T2 : TypeId) (V1 V2 : List Value) : Kp w w.heap.size [(w.heap.size + 1, T2, V2), (w.heap.size, T1, V1)] ((w.alloc (.cells V1.toArray T1)).alloc (.cells V2.toArray T2)) := by
  have h := ((Kp.start w).new T1 V1).new T2 V2
  have h1 : (w.alloc (.cells V1.toArray T1)).heap.size = w.heap.size + 1 := by simp
  rwa [h1] at h
set_option maxRecDepth 100000 in
set_option maxHeartbeats 1000000 in
theorem rholds4_any (p : Nn) (x : List UInt8) (hp : p.ad.length = 4) (hx : x.length = 4) (w : World) :
    Calls Tryd.prog 24 #[.agg p.vals.toArray, .agg (bu x).toArray] w fun e w' => e = .returned (.bool (p.holds x)) ∧ Below w.heap.size w w' := by
  have HK := Lib.hid (kp2 w 32 28 p.vals (bu x))
  have CH : Hid (∀ W, Kp w w.heap.size [(w.heap.size + 1, 28, bu x), (w.heap.size, 32, p.vals)] W → Calls Tryd.prog 55 #[.slice (some ⟨w.heap.size, 0, none⟩) 4 4, .slice (some ⟨w.heap.size + 1, 0, none⟩) 4 4, .int .i64 p.ln] W fun e w' => e = .returned (.bool (p.holds x)) ∧ Below W.heap.size W w') := Lib.hid (fun W k => by
    have h := rholds_any w.heap.size (w.heap.size + 1) p.ad x p.ln 4 4 W (lies_nn k.tl.hd) (lies_bu k.hd) (by omega) (by omega)
    rw [hp] at h
    refine h.mono ?_
    rintro e w' ⟨he, rfl⟩
    exact ⟨he, Below.refl _ _⟩)
  have HLn : Hid (p.vals[4]? = some (.int .i64 p.ln)) := Lib.hid (by have := nn_ln p; rwa [hp] at this)
  generalize p.holds x = R at *
  generalize p.ln = L at *
  generalize p.vals = V at *
  generalize bu x = X at *
  clear hp hx
  generalize hw1 : (w.alloc (.cells V.toArray 32)).alloc (.cells X.toArray 28) = w1 at *
  go_enter Tryd.func24, Tryd.ntmps24
  go_upto_region 1 with (fail)
  clear hw1
  have HS1 := Lib.hid (show Kp w w.heap.size [(w.heap.size + 1, 28, X), (w.heap.size, 32, V)] w1.drew ∧ w1.drew.cell? ⟨w.heap.size, 4, none⟩ = some (.int .i64 L) from ⟨HK.out.drew, HK.out.drew.tl.hd.at HLn.out⟩)
  refine wp_region_noPanic ?_
  refine wp_region_held_drew (S := fun w' => Kp w w.heap.size [(w.heap.size + 1, 28, X), (w.heap.size, 32, V)] w' ∧ w'.cell? ⟨w.heap.size, 4, none⟩ = some (.int .i64 L)) (by kernel_rfl) (HS1.out) (fun hHeld => ?_)
  refine wpAnyH_take (i := 0) (oi := { dst := some 5, op := Op.fieldAddr 32 (Operand.tmp 2) 0, type := 0, pos := "ref.go:145", after := #[], guard := none }) (v := ?_) rfl (by kernel_rfl) (by kernel_rfl) (by kernel_rfl) (fun _ _ _ h => h) (Or.inl ⟨by rfl, ?_⟩) (by assumption) ?_
  rotate_left
  · (intro ww hSw; (try dsimp only at hSw); go_simp; try with_reducible rfl)
  (try simp only [Act.put, List.setIfInBounds_toArray, List.set_cons_zero, List.set_cons_succ])
  refine wpAnyH_take (i := 1) (oi := { dst := some 6, op := Op.slice 28 (Operand.tmp 5) none none none, type := 84, pos := "ref.go:145", after := #[{ on := 0, ground := Ground.data }], guard := none }) (v := ?_) rfl (by kernel_rfl) (by kernel_rfl) (by kernel_rfl) (fun _ _ _ h => h) (Or.inl ⟨by rfl, ?_⟩) (by assumption) ?_
  rotate_left
  · (intro ww hSw; (try dsimp only at hSw); go_simp; try with_reducible rfl)
  (try simp only [Act.put, List.setIfInBounds_toArray, List.set_cons_zero, List.set_cons_succ])
  refine wpAnyH_take (i := 2) (oi := { dst := some 7, op := Op.slice 28 (Operand.tmp 3) none none none, type := 84, pos := "ref.go:145", after := #[], guard := none }) (v := ?_) rfl (by kernel_rfl) (by kernel_rfl) (by kernel_rfl) (fun _ _ _ h => h) (Or.inl ⟨by rfl, ?_⟩) (by assumption) ?_
  rotate_left
  · (intro ww hSw; (try dsimp only at hSw); go_simp; try with_reducible rfl)
  (try simp only [Act.put, List.setIfInBounds_toArray, List.set_cons_zero, List.set_cons_succ])
  refine wpAnyH_take (i := 3) (oi := { dst := some 8, op := Op.fieldAddr 32 (Operand.tmp 2) 1, type := 0, pos := "ref.go:145", after := #[], guard := none }) (v := ?_) rfl (by kernel_rfl) (by kernel_rfl) (by kernel_rfl) (fun _ _ _ h => h) (Or.inl ⟨by rfl, ?_⟩) (by assumption) ?_
  rotate_left
  · (intro ww hSw; (try dsimp only at hSw); go_simp; try with_reducible rfl)
  (try simp only [Act.put, List.setIfInBounds_toArray, List.set_cons_zero, List.set_cons_succ])
  refine wpAnyH_take (i := 4) (oi := { dst := some 9, op := Op.load 3 (Operand.tmp 8), type := 3, pos := "ref.go:145", after := #[{ on := 3, ground := Ground.data }], guard := none }) (v := ?_) rfl (by kernel_rfl) (by kernel_rfl) (by kernel_rfl) (fun _ _ _ h => h) (Or.inl ⟨by rfl, ?_⟩) (by assumption) ?_
  rotate_left
  · (intro ww hSw; (try dsimp only at hSw); go_simp; try with_reducible rfl)
  (try simp only [Act.put, List.setIfInBounds_toArray, List.set_cons_zero, List.set_cons_succ])
  refine wpAnyH_ready (rs := [5]) (by kernel_rfl) (by simp) ?_
  refine AllReadyH.cons (o := { dst := some 10, op := Op.call { callee := Callee.value (Operand.func 55), args := #[Operand.tmp 6, Operand.tmp 7, Operand.tmp 9], argTypes := #[84, 84, 3] }, type := 4, pos := "ref.go:145", after := #[{ on := 1, ground := Ground.data }, { on := 2, ground := Ground.data }, { on := 4, ground := Ground.data }], guard := none }) rfl (fun K hK => ?_) AllReadyH.nil
  go_simp
  ((with_reducible refine (CH.out _ (And.left hHeld)).mono ?_); rintro e w9 ⟨rfl, hb9⟩)
  refine hK.out _ _ (⟨(And.left hHeld).below hb9 (Nat.le_refl _), ((And.left hHeld).below hb9 (Nat.le_refl _)).tl.hd.at HLn.out⟩) (fun hHeld => ?_)
  clear hK K
  (try simp only [Act.put, List.setIfInBounds_toArray, List.set_cons_zero, List.set_cons_succ])
  refine wpAnyH_take (i := 6) (oi := { dst := some 4, op := Op.assign (Operand.tmp 10), type := 4, pos := "ref.go:145", after := #[{ on := 5, ground := Ground.data }, { on := 5, ground := Ground.chain }, { on := 0, ground := Ground.phase }, { on := 1, ground := Ground.phase }, { on := 2, ground := Ground.phase }, { on := 3, ground := Ground.phase }, { on := 4, ground := Ground.phase }, { on := 5, ground := Ground.phase }], guard := none }) (v := ?_) rfl (by kernel_rfl) (by kernel_rfl) (by kernel_rfl) (fun _ _ _ h => h) (Or.inl ⟨by rfl, ?_⟩) (by assumption) ?_
  rotate_left
  · (intro ww hSw; (try dsimp only at hSw); go_simp; try with_reducible rfl)
  (try simp only [Act.put, List.setIfInBounds_toArray, List.set_cons_zero, List.set_cons_succ])
  refine wpAnyH_done (by kernel_rfl) ?_ _
  refine NoPanic.normal ?_
  have HE := Lib.hid (And.left hHeld)
  clear hHeld
  go_wp2_with fail
  go_ret
  exact ⟨rfl, HE.out.2.1⟩
set_option maxRecDepth 100000 in
set_option maxHeartbeats 1000000 in
theorem rholds6_any (p : Nn) (x : List UInt8) (hp : p.ad.length = 16) (hx : x.length = 16) (w : World) :
    Calls Tryd.prog 26 #[.agg p.vals.toArray, .agg (bu x).toArray] w fun e w' => e = .returned (.bool (p.holds x)) ∧ Below w.heap.size w w' := by
  have HK := Lib.hid (kp2 w 36 24 p.vals (bu x))
  have CH : Hid (∀ W, Kp w w.heap.size [(w.heap.size + 1, 24, bu x), (w.heap.size, 36, p.vals)] W → Calls Tryd.prog 55 #[.slice (some ⟨w.heap.size, 0, none⟩) 16 16, .slice (some ⟨w.heap.size + 1, 0, none⟩) 16 16, .int .i64 p.ln] W fun e w' => e = .returned (.bool (p.holds x)) ∧ Below W.heap.size W w') := Lib.hid (fun W k => by
    have h := rholds_any w.heap.size (w.heap.size + 1) p.ad x p.ln 16 16 W (lies_nn k.tl.hd) (lies_bu k.hd) (by omega) (by omega)
    rw [hp] at h
    refine h.mono ?_
    rintro e w' ⟨he, rfl⟩
    exact ⟨he, Below.refl _ _⟩)
  have HLn : Hid (p.vals[16]? = some (.int .i64 p.ln)) := Lib.hid (by have := nn_ln p; rwa [hp] at this)
  generalize p.holds x = R at *
  generalize p.ln = L at *
  generalize p.vals = V at *
  generalize bu x = X at *
  clear hp hx
  generalize hw1 : (w.alloc (.cells V.toArray 36)).alloc (.cells X.toArray 24) = w1 at *
  go_enter Tryd.func26, Tryd.ntmps26
  go_upto_region 1 with (fail)
  clear hw1
  have HS1 := Lib.hid (show Kp w w.heap.size [(w.heap.size + 1, 24, X), (w.heap.size, 36, V)] w1.drew ∧ w1.drew.cell? ⟨w.heap.size, 16, none⟩ = some (.int .i64 L) from ⟨HK.out.drew, HK.out.drew.tl.hd.at HLn.out⟩)
  refine wp_region_noPanic ?_
  refine wp_region_held_drew (S := fun w' => Kp w w.heap.size [(w.heap.size + 1, 24, X), (w.heap.size, 36, V)] w' ∧ w'.cell? ⟨w.heap.size, 16, none⟩ = some (.int .i64 L)) (by kernel_rfl) (HS1.out) (fun hHeld => ?_)
  refine wpAnyH_take (i := 0) (oi := { dst := some 5, op := Op.fieldAddr 36 (Operand.tmp 2) 0, type := 0, pos := "ref.go:148", after := #[], guard := none }) (v := ?_) rfl (by kernel_rfl) (by kernel_rfl) (by kernel_rfl) (fun _ _ _ h => h) (Or.inl ⟨by rfl, ?_⟩) (by assumption) ?_
  rotate_left
  · (intro ww hSw; (try dsimp only at hSw); go_simp; try with_reducible rfl)
  (try simp only [Act.put, List.setIfInBounds_toArray, List.set_cons_zero, List.set_cons_succ])
  refine wpAnyH_take (i := 1) (oi := { dst := some 6, op := Op.slice 24 (Operand.tmp 5) none none none, type := 84, pos := "ref.go:148", after := #[{ on := 0, ground := Ground.data }], guard := none }) (v := ?_) rfl (by kernel_rfl) (by kernel_rfl) (by kernel_rfl) (fun _ _ _ h => h) (Or.inl ⟨by rfl, ?_⟩) (by assumption) ?_
  rotate_left
  · (intro ww hSw; (try dsimp only at hSw); go_simp; try with_reducible rfl)
  (try simp only [Act.put, List.setIfInBounds_toArray, List.set_cons_zero, List.set_cons_succ])
  refine wpAnyH_take (i := 2) (oi := { dst := some 7, op := Op.slice 24 (Operand.tmp 3) none none none, type := 84, pos := "ref.go:148", after := #[], guard := none }) (v := ?_) rfl (by kernel_rfl) (by kernel_rfl) (by kernel_rfl) (fun _ _ _ h => h) (Or.inl ⟨by rfl, ?_⟩) (by assumption) ?_
  rotate_left
  · (intro ww hSw; (try dsimp only at hSw); go_simp; try with_reducible rfl)
  (try simp only [Act.put, List.setIfInBounds_toArray, List.set_cons_zero, List.set_cons_succ])
  refine wpAnyH_take (i := 3) (oi := { dst := some 8, op := Op.fieldAddr 36 (Operand.tmp 2) 1, type := 0, pos := "ref.go:148", after := #[], guard := none }) (v := ?_) rfl (by kernel_rfl) (by kernel_rfl) (by kernel_rfl) (fun _ _ _ h => h) (Or.inl ⟨by rfl, ?_⟩) (by assumption) ?_
  rotate_left
  · (intro ww hSw; (try dsimp only at hSw); go_simp; try with_reducible rfl)
  (try simp only [Act.put, List.setIfInBounds_toArray, List.set_cons_zero, List.set_cons_succ])
  refine wpAnyH_take (i := 4) (oi := { dst := some 9, op := Op.load 3 (Operand.tmp 8), type := 3, pos := "ref.go:148", after := #[{ on := 3, ground := Ground.data }], guard := none }) (v := ?_) rfl (by kernel_rfl) (by kernel_rfl) (by kernel_rfl) (fun _ _ _ h => h) (Or.inl ⟨by rfl, ?_⟩) (by assumption) ?_
  rotate_left
  · (intro ww hSw; (try dsimp only at hSw); go_simp; try with_reducible rfl)
  (try simp only [Act.put, List.setIfInBounds_toArray, List.set_cons_zero, List.set_cons_succ])
  refine wpAnyH_ready (rs := [5]) (by kernel_rfl) (by simp) ?_
  refine AllReadyH.cons (o := { dst := some 10, op := Op.call { callee := Callee.value (Operand.func 55), args := #[Operand.tmp 6, Operand.tmp 7, Operand.tmp 9], argTypes := #[84, 84, 3] }, type := 4, pos := "ref.go:148", after := #[{ on := 1, ground := Ground.data }, { on := 2, ground := Ground.data }, { on := 4, ground := Ground.data }], guard := none }) rfl (fun K hK => ?_) AllReadyH.nil
  go_simp
  ((with_reducible refine (CH.out _ (And.left hHeld)).mono ?_); rintro e w9 ⟨rfl, hb9⟩)
  refine hK.out _ _ (⟨(And.left hHeld).below hb9 (Nat.le_refl _), ((And.left hHeld).below hb9 (Nat.le_refl _)).tl.hd.at HLn.out⟩) (fun hHeld => ?_)
  clear hK K
  (try simp only [Act.put, List.setIfInBounds_toArray, List.set_cons_zero, List.set_cons_succ])
  refine wpAnyH_take (i := 6) (oi := { dst := some 4, op := Op.assign (Operand.tmp 10), type := 4, pos := "ref.go:148", after := #[{ on := 5, ground := Ground.data }, { on := 5, ground := Ground.chain }, { on := 0, ground := Ground.phase }, { on := 1, ground := Ground.phase }, { on := 2, ground := Ground.phase }, { on := 3, ground := Ground.phase }, { on := 4, ground := Ground.phase }, { on := 5, ground := Ground.phase }], guard := none }) (v := ?_) rfl (by kernel_rfl) (by kernel_rfl) (by kernel_rfl) (fun _ _ _ h => h) (Or.inl ⟨by rfl, ?_⟩) (by assumption) ?_
  rotate_left
  · (intro ww hSw; (try dsimp only at hSw); go_simp; try with_reducible rfl)
  (try simp only [Act.put, List.setIfInBounds_toArray, List.set_cons_zero, List.set_cons_succ])
  refine wpAnyH_done (by kernel_rfl) ?_ _
  refine NoPanic.normal ?_
  have HE := Lib.hid (And.left hHeld)
  clear hHeld
  go_wp2_with fail
  go_ret
  exact ⟨rfl, HE.out.2.1⟩
end Go.Proofs.YtkdplnbabelkoaaDoor
