/-
  Proved here: what the program's Text6 answers.
  Conditions: an address of 16 bytes; the library's table holds 4 at place 15.
-/
import Derived.Test.YtkdplnbabelkoaaDoorText4
namespace Go.Proofs.YtkdplnbabelkoaaDoor
open Go.RowKit

theorem Tryd.len8 : Tryd.prog.arrayLen 59 = 8 := by kernel_rfl
theorem Tryd.und8 : Tryd.prog.underlying 59 = some (.array (Tryd.prog.arrayLen 59) (Tryd.prog.elem 59)) := by kernel_rfl
theorem Tryd.siz8 (W : World) : (sizeOf (Tryd.prog.elem 59)).run Tryd.prog W = .ok 1 W := by kernel_rfl
theorem slice8h (b p : Nat) (hp : p ≤ 8) (W : World) : (Instr.sliceAt 59 (.pointer (some ⟨b, 0, none⟩)) none (some (.int .i64 (p : Int))) none).run Tryd.prog W = .ok (.slice (some ⟨b, 0, none⟩) p 8) W := by
  have h := run_sliceAt_array_h W 59 ⟨b, 0, none⟩ Tryd.und8 .i64 (p : Int) (by omega) (by rw [Tryd.len8]; omega)
  rw [h, Tryd.siz8, Tryd.len8]
  unfold slicedAt
  have e : ((p : Int)).toNat = p := rfl
  rw [e]
  simp only [Result.andThen_ok]
  rw [if_neg (by omega), Addr.add_mid, Nat.zero_mul, Nat.zero_add, Nat.sub_zero, Nat.sub_zero]
/-- Where a cut row begins. -/
def lo8 (p : Nat) : Nat := if p = 8 then 0 else p
theorem slice8l (b p : Nat) (hp : p ≤ 8) (W : World) : (Instr.sliceAt 59 (.pointer (some ⟨b, 0, none⟩)) (some (.int .i64 (p : Int))) none none).run Tryd.prog W = .ok (.slice (some ⟨b, lo8 p, none⟩) (8 - p) (8 - p)) W := by
  have h := run_sliceAt_array_l W 59 ⟨b, 0, none⟩ Tryd.und8 .i64 (p : Int) (by omega) (by rw [Tryd.len8]; omega)
  rw [h, Tryd.siz8, Tryd.len8]
  unfold slicedAt lo8
  have e : ((p : Int)).toNat = p := rfl
  rw [e]
  simp only [Result.andThen_ok]
  by_cases h8 : p = 8
  · rw [if_pos h8.symm, if_pos h8]
  · rw [if_neg (fun x => h8 x.symm), if_neg h8, Addr.add_mid, Nat.mul_one, Nat.zero_add]
theorem ba_app (a b : ByteArray) : (a ++ b).data.toList = a.data.toList ++ b.data.toList := by simp
theorem wds6_len (x : List UInt8) : (wds6 x).length = 8 := by unfold wds6; simp
theorem wds6_at (x : List UInt8) (k : Nat) (h : k < 8) : (wds6 x).getD k [] = hexd (grpN x k) := by
  unfold wds6
  rw [List.getD_eq_getElem?_getD, List.getElem?_map, List.getElem?_range h]
  rfl
theorem wds6_in (x : List UInt8) : ∀ p ∈ wds6 x, p.length ≤ 100 := fun p hp => by
  unfold wds6 at hp
  rw [List.mem_map] at hp
  obtain ⟨i, _, rfl⟩ := hp
  have := (hexd_len _ (grpN_lt x i)).2
  omega
set_option maxRecDepth 100000 in
set_option maxHeartbeats 8000000 in
theorem text6_any (x : List UInt8) (w : World) (hx : x.length = 16) (ht : Db w) :
    Calls Tryd.prog 12 #[.agg (bu x).toArray] w fun e w' => e = .returned (.string ⟨(txt6 x).toArray⟩) ∧ Below w.heap.size w w' := by
  have HT : Hid (txt6 x = if lrN x < 2 then jn [58] (wds6 x) else jn [58] ((wds6 x).take (lrF x)) ++ [58, 58] ++ jn [58] ((wds6 x).drop (lrF x + lrN x))) := Lib.hid rfl
  have HWl := Lib.hid (wds6_len x)
  have HWm := Lib.hid (wds6_in x)
  have HWk := Lib.hid (wds6_at x)
  have HLr : Hid (lrF x + lrN x ≤ 8) := Lib.hid (lrS_in x 8).1
  have CG := Lib.hid (fun k (hk : k < 8) W => group_any x k W hx hk)
  have CX := Lib.hid (fun k W (h : Db W) => fmtint_any (grpN x k) (grpN_lt x k) W h)
  have CL := Lib.hid (fun W => longest_any x W hx)
  have HIX : Hid ((Tryd.prog.info? 24).map (·.size) = some (bu x).length) := Lib.hid (Tryd.infoU6 _ hx)
  generalize txt6 x = TX at *
  generalize wds6 x = ws at *
  generalize lrF x = F at *
  generalize lrN x = N at *
  generalize bu x = X at *
  obtain ⟨VZ, hVZ⟩ : ∃ VZ, VZ = stl ws 8 0 := ⟨_, rfl⟩
  have hz : ([.string ⟨#[]⟩, .string ⟨#[]⟩, .string ⟨#[]⟩, .string ⟨#[]⟩, .string ⟨#[]⟩, .string ⟨#[]⟩, .string ⟨#[]⟩, .string ⟨#[]⟩] : List Value).toArray = VZ.toArray := by rw [hVZ]; rfl
  have HK1 := Lib.hid (kp2 w 24 59 X VZ)
  have HDb := Lib.hid ht
  have HVZ := Lib.hid hVZ
  clear hx ht hVZ
  generalize hw1 : (w.alloc (.cells X.toArray 24)).alloc (.cells VZ.toArray 59) = w1 at *
  go_enter Tryd.func12, Tryd.ntmps12
  go_upto_region 2 with (fail)
  clear hw1 hz
  go_wp2_with fail
  go_loopw [7] (fun i wr => ∃ k : Nat, k ≤ 8 ∧ i = .int .i64 k ∧ Kp w w.heap.size [(w.heap.size + 1, 59, stl ws 8 k), (w.heap.size, 24, X)] wr) (fun i _ => 8 - (intOf i).toNat)
  case atStart => exact ⟨0, Nat.zero_le _, rfl, by rw [← HVZ.out]; exact HK1.out⟩
  case round =>
    obtain ⟨k, hk, rfl, hK⟩ := hrel
    have HK := Lib.hid hK
    clear hK HK1 HVZ
    by_cases hlt : k < 8
    · have i8 : ((k : Nat) : Int) < 8 := by omega
      have CG1 := Lib.hid (CG.out k hlt)
      have CX1 := Lib.hid (CX.out k)
      have HNx := Lib.hid (stl_next ws 8 k HWl.out hlt)
      have HIs := Lib.hid (stl_is ws 8 k HWl.out hk k hlt)
      rw [HWk.out k hlt] at HNx
      generalize hexd (grpN x k) = s at *
      generalize grpN x k = c at *
      have hr := HK.out.tl.hd.range
      go_upto_region 5 with (fail)
      go_wp2_with (refine wpList_load_mid rfl 24 _ rfl w.heap.size 0 rfl X _ hr Tryd.underlying24 rfl HIX.out ?_)
      refine (CG1.out _).mono ?_
      rintro e w8 ⟨rfl, hb8⟩
      have HK8 := Lib.hid (HK.out.below hb8 (Nat.le_refl _))
      clear hb8 hr HK
      go_wp2_with fail
      refine (CX1.out _ (HDb.out.below HK8.out.2.1)).mono ?_
      rintro e w9 ⟨rfl, hb9⟩
      have hK9 := HK8.out.below hb9 (Nat.le_refl _)
      obtain ⟨s0, hs0⟩ := HIs.out
      have cc := hK9.hd.at hs0
      have cz := hK9.hd.z k
      have hk2 := hK9.set1 (by intro y hy; rw [List.mem_singleton] at hy; rw [hy]; show w.heap.size ≠ w.heap.size + 1; omega) (by omega) k (.string ⟨s.toArray⟩)
      rw [HNx.out] at hk2
      have HK2 := Lib.hid hk2
      clear hk2 hK9 hb9 HK8 hs0
      go_wp2_with fail
      go_roundw
      case rel => exact ⟨k + 1, hlt, by go_num, HK2.out⟩
      case measure => simp [intOf]; omega
    · obtain rfl : k = 8 := by omega
      have e8 : ((8 : Nat) : Int) = 8 := rfl
      have hr := HK.out.tl.hd.range
      simp only [e8] at *
      go_wp2_with (refine wpList_load_mid rfl 24 _ rfl w.heap.size 0 rfl X _ hr Tryd.underlying24 rfl HIX.out ?_)
      refine (CL.out _).mono ?_
      rintro e w8 ⟨rfl, hb8⟩
      have HK8 := Lib.hid (HK.out.below hb8 (Nat.le_refl _))
      clear hb8 hr HK
      have HAt : Hid (∀ W, Kp w w.heap.size [(w.heap.size + 1, 59, stl ws 8 8), (w.heap.size, 24, X)] W → ∀ j, j < 8 → W.cell? ⟨w.heap.size + 1, j, none⟩ = some (.string ⟨(ws.getD j []).toArray⟩)) := Lib.hid (fun W h j hj => h.hd.at (stl_at ws 8 HWl.out j hj))
      by_cases h2 : N < 2
      · have i2 : (N : Int) < 2 := by omega
        have d2 := decide_eq_true i2
        have HX : Hid (TX = jn [58] ws) := Lib.hid (by rw [HT.out, if_pos h2])
        have CJ := Lib.hid (join_any (w.heap.size + 1) 0 ws 8 ⟨#[58]⟩ w8 (by decide) (by rw [HWl.out]; decide) HWm.out (by rw [HWl.out]; exact Nat.le_refl _) HK8.out.hd.lt (fun j hj => by
          rw [Nat.zero_add]
          exact HAt.out w8 HK8.out j (by rw [← HWl.out]; exact hj)))
        rw [HWl.out] at CJ
        clear HT h2
        go_wp2_with fail
        refine CJ.out.mono ?_
        rintro e w9 ⟨rfl, hb9⟩
        have HB9 := Lib.hid (HK8.out.below hb9 (Nat.le_refl _)).2.1
        clear hb9 CJ
        go_wp2_with fail
        go_ret
        exact ⟨by rw [HX.out]; rfl, HB9.out⟩
      · have i2 : ¬ (N : Int) < 2 := by omega
        have d2 := decide_eq_false i2
        have HX : Hid (TX = jn [58] (ws.take F) ++ [58, 58] ++ jn [58] (ws.drop (F + N))) := Lib.hid (by rw [HT.out, if_neg h2])
        have hLr := HLr.out
        have ht : (ws.take F).length = F := by rw [List.length_take, HWl.out]; omega
        have hd : (ws.drop (F + N)).length = 8 - (F + N) := by rw [List.length_drop, HWl.out]
        have CJ1 : Hid (∀ W, Kp w w.heap.size [(w.heap.size + 1, 59, stl ws 8 8), (w.heap.size, 24, X)] W → Calls Tryd.prog 41 #[.slice (some ⟨w.heap.size + 1, 0, none⟩) F 8, .string ⟨#[58]⟩] W fun e w' => e = .returned (.string ⟨(jn [58] (ws.take F)).toArray⟩) ∧ Below W.heap.size W w') := Lib.hid (fun W hW => by
          have h := join_any (w.heap.size + 1) 0 (ws.take F) 8 ⟨#[58]⟩ W (by decide) (by omega) (fun p hp => HWm.out p (List.mem_of_mem_take hp)) (by omega) hW.hd.lt (fun j hj => by
            rw [Nat.zero_add]
            have h9 := HAt.out W hW j (by omega)
            have e : (ws.take F).getD j [] = ws.getD j [] := by rw [List.getD_eq_getElem?_getD, List.getD_eq_getElem?_getD, List.getElem?_take_of_lt (by omega)]
            rw [e]
            exact h9)
          rw [ht] at h
          exact h)
        have CJ2 : Hid (∀ W, Kp w w.heap.size [(w.heap.size + 1, 59, stl ws 8 8), (w.heap.size, 24, X)] W → Calls Tryd.prog 41 #[.slice (some ⟨w.heap.size + 1, lo8 (F + N), none⟩) (8 - (F + N)) (8 - (F + N)), .string ⟨#[58]⟩] W fun e w' => e = .returned (.string ⟨(jn [58] (ws.drop (F + N))).toArray⟩) ∧ Below W.heap.size W w') := Lib.hid (fun W hW => by
          have h := join_any (w.heap.size + 1) (lo8 (F + N)) (ws.drop (F + N)) (8 - (F + N)) ⟨#[58]⟩ W (by decide) (by omega) (fun p hp => HWm.out p (List.mem_of_mem_drop hp)) (by omega) hW.hd.lt (fun j hj => by
            have hne : F + N ≠ 8 := by omega
            have h9 := HAt.out W hW (F + N + j) (by omega)
            have e : (ws.drop (F + N)).getD j [] = ws.getD (F + N + j) [] := by rw [List.getD_eq_getElem?_getD, List.getD_eq_getElem?_getD, List.getElem?_drop]
            rw [e]
            unfold lo8
            rw [if_neg hne]
            exact h9)
          rw [hd] at h
          exact h)
        have hz1 : (jn [58] (ws.take F)).length ≤ 1000 := by
          have h := jn_len [58] (ws.take F) 100 (fun p hp => HWm.out p (List.mem_of_mem_take hp))
          have h2 : (ws.take F).length * (100 + ([58] : List UInt8).length) ≤ 8 * 101 := Nat.mul_le_mul (by omega) (Nat.le_refl _)
          omega
        have hz2 : (jn [58] (ws.drop (F + N))).length ≤ 1000 := by
          have h := jn_len [58] (ws.drop (F + N)) 100 (fun p hp => HWm.out p (List.mem_of_mem_drop hp))
          have h2 : (ws.drop (F + N)).length * (100 + ([58] : List UInt8).length) ≤ 8 * 101 := Nat.mul_le_mul (by omega) (Nat.le_refl _)
          omega
        obtain ⟨q, hq⟩ : ∃ q, q = F + N := ⟨_, rfl⟩
        have eq1 : (F : Int) + (N : Int) = (q : Int) := by omega
        rw [← hq] at HX CJ2 hz2
        have hs1 := fun W => slice8h (w.heap.size + 1) F (by omega) W
        have hs2 := fun W => slice8l (w.heap.size + 1) q (by omega) W
        obtain ⟨J1, hJ1⟩ : ∃ J1 : ByteArray, J1 = ⟨(jn [58] (ws.take F)).toArray⟩ := ⟨_, rfl⟩
        obtain ⟨J2, hJ2⟩ : ∃ J2 : ByteArray, J2 = ⟨(jn [58] (ws.drop q)).toArray⟩ := ⟨_, rfl⟩
        have HXX : Hid ((⟨TX.toArray⟩ : ByteArray) = J1 ++ ⟨#[58, 58]⟩ ++ J2) := Lib.hid (by
          apply ba_ext
          rw [ba_app, ba_app, hJ1, hJ2, HX.out])
        rw [← hJ1] at CJ1
        rw [← hJ2] at CJ2
        have jz1 : J1.size ≤ 1000 := by rw [hJ1]; simpa [ByteArray.size] using hz1
        have jz2 : J2.size ≤ 1000 := by rw [hJ2]; simpa [ByteArray.size] using hz2
        have ew : IntKind.i64.wrap ((q : Nat) : Int) = (q : Int) := by unfold IntKind.wrap IntKind.bits IntKind.signed; simp; omega
        have hl1 : ¬ 9223372036854775807 < J1.size + 2 := by omega
        have hl2 : ¬ 9223372036854775807 < J1.size + 2 + J2.size := by omega
        have hl3 : ¬ 9223372036854775807 < (J1 ++ ⟨#[58, 58]⟩).size + J2.size := by rw [ByteArray.size_append]; show ¬ 9223372036854775807 < J1.size + 2 + J2.size; omega
        have HS := Lib.hid HK8.out.drew
        clear HT h2 ht hd hz1 hz2 hq hJ1 hJ2 HX hLr
        generalize lo8 q = lo at *
        go_upto_region 10 with (fail)
        refine wp_region_noPanic ?_
        refine wp_region_held_drew (S := fun w' => Kp w w.heap.size [(w.heap.size + 1, 59, stl ws 8 8), (w.heap.size, 24, X)] w') (by kernel_rfl) (HS.out) (fun hHeld => ?_)
        refine wpAnyH_take (i := 0) (oi := { dst := some 26, op := Op.move (Operand.tmp 5), type := 3, pos := "class.go:80", after := #[], guard := none }) (v := ?_) rfl (by kernel_rfl) (by kernel_rfl) (by kernel_rfl) (fun _ _ _ h => h) (Or.inl ⟨by rfl, ?_⟩) (by assumption) ?_
        rotate_left
        · (intro ww hSw; (try dsimp only at hSw); go_simp; try with_reducible rfl)
        (try simp only [Act.put, List.setIfInBounds_toArray, List.set_cons_zero, List.set_cons_succ])
        refine wpAnyH_take (i := 1) (oi := { dst := some 27, op := Op.slice 59 (Operand.tmp 3) none (some (Operand.tmp 26)) none, type := 64, pos := "class.go:80", after := #[{ on := 0, ground := Ground.data }], guard := none }) (v := ?_) rfl (by kernel_rfl) (by kernel_rfl) (by kernel_rfl) (fun _ _ _ h => h) (Or.inl ⟨by rfl, ?_⟩) (by assumption) ?_
        rotate_left
        · (intro ww hSw; (try dsimp only at hSw); go_simp; try with_reducible rfl)
        (try simp only [Act.put, List.setIfInBounds_toArray, List.set_cons_zero, List.set_cons_succ])
        refine wpAnyH_take (i := 4) (oi := { dst := some 30, op := Op.move (Operand.tmp 5), type := 3, pos := "class.go:80", after := #[], guard := none }) (v := ?_) rfl (by kernel_rfl) (by kernel_rfl) (by kernel_rfl) (fun _ _ _ h => h) (Or.inl ⟨by rfl, ?_⟩) (by assumption) ?_
        rotate_left
        · (intro ww hSw; (try dsimp only at hSw); go_simp; try with_reducible rfl)
        (try simp only [Act.put, List.setIfInBounds_toArray, List.set_cons_zero, List.set_cons_succ])
        refine wpAnyH_take (i := 5) (oi := { dst := some 31, op := Op.move (Operand.tmp 6), type := 3, pos := "class.go:80", after := #[], guard := none }) (v := ?_) rfl (by kernel_rfl) (by kernel_rfl) (by kernel_rfl) (fun _ _ _ h => h) (Or.inl ⟨by rfl, ?_⟩) (by assumption) ?_
        rotate_left
        · (intro ww hSw; (try dsimp only at hSw); go_simp; try with_reducible rfl)
        (try simp only [Act.put, List.setIfInBounds_toArray, List.set_cons_zero, List.set_cons_succ])
        refine wpAnyH_take (i := 6) (oi := { dst := some 32, op := Op.binOp BinOp.add 3 (Operand.tmp 30) (Operand.tmp 31) 3, type := 3, pos := "class.go:80", after := #[{ on := 4, ground := Ground.data }, { on := 5, ground := Ground.data }], guard := none }) (v := ?_) rfl (by kernel_rfl) (by kernel_rfl) (by kernel_rfl) (fun _ _ _ h => h) (Or.inl ⟨by rfl, ?_⟩) (by assumption) ?_
        rotate_left
        · (intro ww hSw; (try dsimp only at hSw); go_simp; try with_reducible rfl)
        (try simp only [Act.put, List.setIfInBounds_toArray, List.set_cons_zero, List.set_cons_succ])
        refine wpAnyH_take (i := 7) (oi := { dst := some 33, op := Op.slice 59 (Operand.tmp 3) (some (Operand.tmp 32)) none none, type := 64, pos := "class.go:80", after := #[{ on := 6, ground := Ground.data }], guard := none }) (v := ?_) rfl (by kernel_rfl) (by kernel_rfl) (by kernel_rfl) (fun _ _ _ h => h) (Or.inl ⟨by rfl, ?_⟩) (by assumption) ?_
        rotate_left
        · (intro ww hSw; (try dsimp only at hSw); go_simp; try with_reducible rfl)
        (try simp only [Act.put, List.setIfInBounds_toArray, List.set_cons_zero, List.set_cons_succ])
        refine wpAnyH_ready (rs := [2]) (by kernel_rfl) (by simp) ?_
        refine AllReadyH.cons (o := { dst := some 28, op := Op.call { callee := Callee.value (Operand.func 41), args := #[Operand.tmp 27, Operand.const (Value.string { data := #[58] })], argTypes := #[64, 9] }, type := 9, pos := "class.go:80", after := #[{ on := 1, ground := Ground.data }], guard := none }) rfl (fun K hK => ?_) AllReadyH.nil
        go_simp
        ((with_reducible refine (CJ1.out _ hHeld).mono ?_); rintro e w9 ⟨rfl, hb9⟩)
        refine hK.out _ _ (hHeld.below hb9 (Nat.le_refl _)) (fun hHeld => ?_)
        clear hK K
        (try simp only [Act.put, List.setIfInBounds_toArray, List.set_cons_zero, List.set_cons_succ])
        refine wpAnyH_take (i := 3) (oi := { dst := some 29, op := Op.binOp BinOp.add 9 (Operand.tmp 28) (Operand.const (Value.string { data := #[58, 58] })) 9, type := 9, pos := "class.go:80", after := #[{ on := 2, ground := Ground.data }], guard := none }) (v := ?_) rfl (by kernel_rfl) (by kernel_rfl) (by kernel_rfl) (fun _ _ _ h => h) (Or.inl ⟨by rfl, ?_⟩) (by assumption) ?_
        rotate_left
        · (intro ww hSw; (try dsimp only at hSw); go_simp; try with_reducible rfl)
        (try simp only [Act.put, List.setIfInBounds_toArray, List.set_cons_zero, List.set_cons_succ])
        refine wpAnyH_ready (rs := [8]) (by kernel_rfl) (by simp) ?_
        refine AllReadyH.cons (o := { dst := some 34, op := Op.call { callee := Callee.value (Operand.func 41), args := #[Operand.tmp 33, Operand.const (Value.string { data := #[58] })], argTypes := #[64, 9] }, type := 9, pos := "class.go:80", after := #[{ on := 7, ground := Ground.data }, { on := 2, ground := Ground.chain }], guard := none }) rfl (fun K hK => ?_) AllReadyH.nil
        go_simp
        ((with_reducible refine (CJ2.out _ hHeld).mono ?_); rintro e w9 ⟨rfl, hb9⟩)
        refine hK.out _ _ (hHeld.below hb9 (Nat.le_refl _)) (fun hHeld => ?_)
        clear hK K
        (try simp only [Act.put, List.setIfInBounds_toArray, List.set_cons_zero, List.set_cons_succ])
        refine wpAnyH_take (i := 9) (oi := { dst := some 35, op := Op.binOp BinOp.add 9 (Operand.tmp 29) (Operand.tmp 34) 9, type := 9, pos := "class.go:80", after := #[{ on := 3, ground := Ground.data }, { on := 8, ground := Ground.data }], guard := none }) (v := ?_) rfl (by kernel_rfl) (by kernel_rfl) (by kernel_rfl) (fun _ _ _ h => h) (Or.inl ⟨by rfl, ?_⟩) (by assumption) ?_
        rotate_left
        · (intro ww hSw; (try dsimp only at hSw); go_simp; try with_reducible rfl)
        (try simp only [Act.put, List.setIfInBounds_toArray, List.set_cons_zero, List.set_cons_succ])
        refine wpAnyH_take (i := 10) (oi := { dst := some 2, op := Op.assign (Operand.tmp 35), type := 9, pos := "class.go:80", after := #[{ on := 9, ground := Ground.data }, { on := 8, ground := Ground.chain }, { on := 0, ground := Ground.phase }, { on := 1, ground := Ground.phase }, { on := 2, ground := Ground.phase }, { on := 3, ground := Ground.phase }, { on := 4, ground := Ground.phase }, { on := 5, ground := Ground.phase }, { on := 6, ground := Ground.phase }, { on := 7, ground := Ground.phase }, { on := 8, ground := Ground.phase }, { on := 9, ground := Ground.phase }], guard := none }) (v := ?_) rfl (by kernel_rfl) (by kernel_rfl) (by kernel_rfl) (fun _ _ _ h => h) (Or.inl ⟨by rfl, ?_⟩) (by assumption) ?_
        rotate_left
        · (intro ww hSw; (try dsimp only at hSw); go_simp; try with_reducible rfl)
        (try simp only [Act.put, List.setIfInBounds_toArray, List.set_cons_zero, List.set_cons_succ])
        refine wpAnyH_done (by kernel_rfl) ?_ _
        refine NoPanic.normal ?_
        have HE := Lib.hid hHeld
        clear hHeld
        go_wp2_with fail
        go_ret
        exact ⟨by rw [HXX.out]; rfl, HE.out.2.1⟩
end Go.Proofs.YtkdplnbabelkoaaDoor
