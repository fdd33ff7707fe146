/-
  Proved here: what the document's Inside answers.
  Conditions: addresses of 16 bytes.
-/
import Derived.Test.YtpjcanejenmldaaRefRight
namespace Go.Proofs.Ytpjcanejenmldaa
open Go.RowKit

theorem take_eq (a x : List Int) (k : Nat) (ha : k < a.length) (hx : k < x.length) : (a.take (k + 1) == x.take (k + 1)) = ((a.take k == x.take k) && (a.getD k 0 == x.getD k 0)) := by
  rw [List.take_succ_eq_append_getElem ha, List.take_succ_eq_append_getElem hx, List.getD_eq_getElem?_getD, List.getElem?_eq_getElem ha, List.getD_eq_getElem?_getD, List.getElem?_eq_getElem hx]
  show _ = ((a.take k == x.take k) && (a[k] == x[k]))
  rw [Bool.eq_iff_iff]
  simp only [beq_iff_eq, Bool.and_eq_true]
  constructor
  · intro h
    have hl : (a.take k).length = (x.take k).length := by simp; omega
    have h2 := List.append_inj h hl
    exact ⟨h2.1, by simpa using h2.2⟩
  · rintro ⟨h1, h2⟩
    rw [h1, h2]
theorem take_more (a x : List Int) (k n : Nat) (hkn : k ≤ n) (h : (a.take k == x.take k) = false) : (a.take n == x.take n) = false := by
  rw [beq_eq_false_iff_ne] at *
  intro he
  apply h
  have := congrArg (List.take k) he
  rwa [List.take_take, List.take_take, Nat.min_eq_left hkn] at this
theorem okL_cut {n : Int} (h : okL n = true) : cut8 n ≤ 12 ∧ n.tdiv 8 = (cut8 n : Int) := by
  rcases okL_cases h with rfl | rfl | rfl | rfl | rfl | rfl <;> exact ⟨by decide, by decide⟩
/-- What is kept while two addresses are compared. -/
def NX (w0 : World) (B b c : Nat) (V X : List Value) (w : World) : Prop := Below B w0 w ∧ B ≤ w.heap.size ∧ Bk w b 26 V.toArray ∧ Bk w c 23 X.toArray
section
variable {w0 w w' : World} {B b c : Nat} {V X : List Value}
theorem NX.below (h : NX w0 B b c V X w) (hb : Below w.heap.size w w') : NX w0 B b c V X w' := ⟨h.1.trans (hb.mono h.2.1), Nat.le_trans h.2.1 hb.size, h.2.2.1.below hb h.2.2.1.lt, h.2.2.2.below hb h.2.2.2.lt⟩
theorem NX.drew (h : NX w0 B b c V X w) : NX w0 B b c V X w.drew := ⟨h.1.drew, h.2⟩
theorem NX.new (w : World) (V X : List Value) : NX w w.heap.size w.heap.size (w.heap.size + 1) V X ((w.alloc (.cells V.toArray 26)).alloc (.cells X.toArray 23)) := by
  have hs : (w.alloc (.cells V.toArray 26)).heap.size = w.heap.size + 1 := by simp
  refine ⟨((Below.refl _ _).alloc (Nat.le_refl _) _).alloc (by rw [hs]; omega) _, by simp; omega, (bk_new _ _ _).alloc _, ?_⟩
  have h := bk_new (w.alloc (.cells V.toArray 26)) 23 X.toArray
  rwa [hs] at h
theorem NX.cells (h : NX w0 B b c V X w) {i : Nat} {v x : Value} (hv : V[i]? = some v) (hx : X[i]? = some x) : NX w0 B b c V X w ∧ w.cell? ⟨b, i, none⟩ = some v ∧ w.cell? ⟨c, i, none⟩ = some x := ⟨h, h.2.2.1.at hv, h.2.2.2.at hx⟩
end
set_option maxRecDepth 100000 in
set_option maxHeartbeats 1000000 in
theorem rinside_any (p : Nt) (x : List Int) (hl : p.ad.length = 16) (hx : x.length = 16) (w : World) :
    Calls Try.prog 20 #[.agg p.vals.toArray, .agg (b8 x).toArray] w fun e w' => e = .returned (.bool (p.inside x)) ∧ Below w.heap.size w w' := by
  have HR : Hid (∀ W, Calls Try.prog 18 #[.agg p.vals.toArray] W fun e w' => e = .returned (.bool p.right) ∧ Below W.heap.size W w') := Lib.hid (fun W => rright_any p hl W)
  have HI : Hid (p.inside x = (p.right && (p.ad.take (cut8 p.ln) == x.take (cut8 p.ln)))) := Lib.hid rfl
  have HO : Hid (p.right = true → okL p.ln = true) := Lib.hid (fun h => by unfold Nt.right at h; simp only [Bool.and_eq_true] at h; exact h.1)
  generalize p.inside x = R at *
  have HE := Lib.hid (fun k (h : k < 16) => take_eq p.ad x k (by omega) (by omega))
  have HM := Lib.hid (take_more p.ad x)
  have HVa := Lib.hid (nvals_at p hl)
  have HXa := Lib.hid (fun k (h : k < 16) => b8_at x k (by omega))
  have HV16 := Lib.hid (nvals_ln p hl)
  have HIn := Lib.hid (Try.infoNet p hl)
  generalize p.right = rt at *
  generalize p.ln = L at *
  have HN := Lib.hid (NX.new w p.vals (b8 x))
  generalize p.vals = V at *
  generalize b8 x = X at *
  generalize p.ad = A at *
  clear hl hx
  have hr := HN.out.2.2.1.range
  generalize hw1 : (w.alloc (.cells V.toArray 26)).alloc (.cells X.toArray 23) = w1 at *
  go_enter Try.func20, Try.ntmps20
  go_upto_region 1 with (fail)
  clear hw1
  go_wp2_with (refine wpList_load_mid rfl 26 _ rfl w.heap.size 0 rfl V _ hr Try.underlying26 rfl HIn.out ?_)
  clear hr
  refine (HR.out _).mono ?_
  rintro e w2 ⟨rfl, b2⟩
  have HN2 := Lib.hid (HN.out.below b2)
  clear b2 HN HR
  cases rt
  · have HX : Hid (R = false) := Lib.hid (by rw [HI.out]; rfl)
    clear HI
    go_wp2_with fail
    go_ret
    exact ⟨by rw [HX.out]; rfl, HN2.out.1⟩
  · have hok := HO.out rfl
    obtain ⟨hc, k1⟩ := okL_cut hok
    have HT : Hid (R = (A.take (cut8 L) == x.take (cut8 L))) := Lib.hid (by rw [HI.out]; rfl)
    have c16 := HN2.out.2.2.1.at HV16.out
    clear HI hok HO
    generalize cut8 L = N at *
    have k2 : IntKind.i64.wrap (N : Int) = (N : Int) := IntWalk.i64_in _ (by omega)
    have HN0 := Lib.hid hc
    clear hc
    go_wp2_with fail
    go_loopw [5] (fun i wr => ∃ k : Nat, k ≤ N ∧ i = .int .i64 k ∧ Hid ((A.take k == x.take k) = true) ∧ NX w w.heap.size w.heap.size (w.heap.size + 1) V X wr) (fun i _ => N - (intOf i).toNat)
    case atStart => exact ⟨0, Nat.zero_le _, rfl, Lib.hid rfl, HN2.out⟩
    case round =>
      obtain ⟨k, hk, rfl, hC, hN⟩ := hrel
      have HNr := Lib.hid hN
      clear hN c16 HN2
      have c16 := HNr.out.2.2.1.at HV16.out
      by_cases hlt : k < N
      · have hlt16 : k < 16 := by have := HN0.out; omega
        have i16 : ((k : Nat) : Int) < 16 := by omega
        have hq := HE.out k hlt16
        rw [hC.out] at hq
        have HS := Lib.hid (HNr.out.drew.cells (HVa.out k hlt16) (HXa.out k hlt16))
        generalize A.getD k 0 = a0 at *
        generalize x.getD k 0 = x0 at *
        go_upto_region 6 with (fail)
        refine wp_region_noPanic ?_
        refine wp_region_held_drew (S := fun w' => NX w w.heap.size w.heap.size (w.heap.size + 1) V X w' ∧ w'.cell? ⟨w.heap.size, k, none⟩ = some (.int .u8 a0) ∧ w'.cell? ⟨w.heap.size + 1, k, none⟩ = some (.int .u8 x0)) (by kernel_rfl) (HS.out) (fun hHeld => ?_)
        refine wpAnyH_take (i := 0) (oi := { dst := some 16, op := Op.move (Operand.tmp 5), type := 3, pos := "ref.go:25", after := #[], guard := none }) (v := ?_) rfl (by kernel_rfl) (by kernel_rfl) (by kernel_rfl) (fun _ _ _ h => h) (Or.inl ⟨by rfl, ?_⟩) (by assumption) ?_
        rotate_left
        · (intro ww hSw; (try dsimp only at hSw); go_simp; try with_reducible rfl)
        (try simp only [Act.put, List.setIfInBounds_toArray, List.set_cons_zero, List.set_cons_succ])
        refine wpAnyH_take (i := 1) (oi := { dst := some 17, op := Op.fieldAddr 26 (Operand.tmp 2) 0, type := 0, pos := "ref.go:25", after := #[], guard := none }) (v := ?_) rfl (by kernel_rfl) (by kernel_rfl) (by kernel_rfl) (fun _ _ _ h => h) (Or.inl ⟨by rfl, ?_⟩) (by assumption) ?_
        rotate_left
        · (intro ww hSw; (try dsimp only at hSw); go_simp; try with_reducible rfl)
        (try simp only [Act.put, List.setIfInBounds_toArray, List.set_cons_zero, List.set_cons_succ])
        refine wpAnyH_take (i := 2) (oi := { dst := some 18, op := Op.indexAddr 23 (Operand.tmp 17) (Operand.tmp 16), type := 0, pos := "ref.go:25", after := #[{ on := 1, ground := Ground.data }, { on := 0, ground := Ground.data }], guard := none }) (v := ?_) rfl (by kernel_rfl) (by kernel_rfl) (by kernel_rfl) (fun _ _ _ h => h) (Or.inl ⟨by rfl, ?_⟩) (by assumption) ?_
        rotate_left
        · (intro ww hSw; (try dsimp only at hSw); go_simp; try with_reducible rfl)
        (try simp only [Act.put, List.setIfInBounds_toArray, List.set_cons_zero, List.set_cons_succ])
        refine wpAnyH_take (i := 3) (oi := { dst := some 19, op := Op.load 5 (Operand.tmp 18), type := 5, pos := "ref.go:25", after := #[{ on := 2, ground := Ground.data }], guard := none }) (v := ?_) rfl (by kernel_rfl) (by kernel_rfl) (by kernel_rfl) (fun _ _ _ h => h) (Or.inl ⟨by rfl, ?_⟩) (by assumption) ?_
        rotate_left
        · (intro ww hSw; (try dsimp only at hSw); go_simp; try with_reducible rfl)
        (try simp only [Act.put, List.setIfInBounds_toArray, List.set_cons_zero, List.set_cons_succ])
        refine wpAnyH_take (i := 4) (oi := { dst := some 20, op := Op.move (Operand.tmp 5), type := 3, pos := "ref.go:25", after := #[], guard := none }) (v := ?_) rfl (by kernel_rfl) (by kernel_rfl) (by kernel_rfl) (fun _ _ _ h => h) (Or.inl ⟨by rfl, ?_⟩) (by assumption) ?_
        rotate_left
        · (intro ww hSw; (try dsimp only at hSw); go_simp; try with_reducible rfl)
        (try simp only [Act.put, List.setIfInBounds_toArray, List.set_cons_zero, List.set_cons_succ])
        refine wpAnyH_take (i := 5) (oi := { dst := some 21, op := Op.indexAddr 23 (Operand.tmp 3) (Operand.tmp 20), type := 0, pos := "ref.go:25", after := #[{ on := 4, ground := Ground.data }], guard := none }) (v := ?_) rfl (by kernel_rfl) (by kernel_rfl) (by kernel_rfl) (fun _ _ _ h => h) (Or.inl ⟨by rfl, ?_⟩) (by assumption) ?_
        rotate_left
        · (intro ww hSw; (try dsimp only at hSw); go_simp; try with_reducible rfl)
        (try simp only [Act.put, List.setIfInBounds_toArray, List.set_cons_zero, List.set_cons_succ])
        refine wpAnyH_take (i := 6) (oi := { dst := some 22, op := Op.load 5 (Operand.tmp 21), type := 5, pos := "ref.go:25", after := #[{ on := 5, ground := Ground.data }], guard := none }) (v := ?_) rfl (by kernel_rfl) (by kernel_rfl) (by kernel_rfl) (fun _ _ _ h => h) (Or.inl ⟨by rfl, ?_⟩) (by assumption) ?_
        rotate_left
        · (intro ww hSw; (try dsimp only at hSw); go_simp; try with_reducible rfl)
        (try simp only [Act.put, List.setIfInBounds_toArray, List.set_cons_zero, List.set_cons_succ])
        refine wpAnyH_take (i := 7) (oi := { dst := some 23, op := Op.binOp BinOp.neq 5 (Operand.tmp 19) (Operand.tmp 22) 5, type := 4, pos := "ref.go:25", after := #[{ on := 3, ground := Ground.data }, { on := 6, ground := Ground.data }], guard := none }) (v := ?_) rfl (by kernel_rfl) (by kernel_rfl) (by kernel_rfl) (fun _ _ _ h => h) (Or.inl ⟨by rfl, ?_⟩) (by assumption) ?_
        rotate_left
        · (intro ww hSw; (try dsimp only at hSw); go_simp; try with_reducible rfl)
        (try simp only [Act.put, List.setIfInBounds_toArray, List.set_cons_zero, List.set_cons_succ])
        refine wpAnyH_done (by kernel_rfl) ?_ _
        refine NoPanic.normal ?_
        have HN9 := Lib.hid (And.left hHeld)
        clear hHeld HS c16
        by_cases h0 : a0 = x0
        · have e0 : (a0 != x0) = false := by rw [h0]; simp
          have HX : Hid ((A.take (k + 1) == x.take (k + 1)) = true) := Lib.hid (by rw [hq, h0]; simp)
          clear hq h0
          go_wp2_with fail
          go_roundw
          case rel => exact ⟨k + 1, by omega, by go_num, HX, HN9.out⟩
          case measure => simp [intOf]; omega
        · have e0 : (a0 != x0) = true := by rw [bne_iff_ne]; exact h0
          have HX : Hid ((A.take N == x.take N) = false) := Lib.hid (HM.out (k + 1) N (by omega) (by rw [hq, beq_eq_false_iff_ne.2 h0]; rfl))
          clear hq h0
          go_wp2_with fail
          go_ret
          exact ⟨by rw [HT.out, HX.out]; rfl, HN9.out.1⟩
      · obtain rfl : k = N := by omega
        go_wp2_with fail
        go_ret
        exact ⟨by rw [HT.out, hC.out]; rfl, HNr.out.1⟩
end Go.Proofs.Ytpjcanejenmldaa
