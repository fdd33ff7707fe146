/-
  Proved here: what the program's Parse6 answers.
  Conditions: a text that the library's cut takes; the library's MaxLen holds some number.
-/
import Derived.Test.YtkdplnbabelkoaaDoorSc
import Derived.Test.YtkdplnbabelkoaaDoorShelf
import Derived.Test.YtkdplnbabelkoaaDoorFour
namespace Go.Proofs.YtkdplnbabelkoaaDoor
open Go.RowKit

theorem Tryd.infoSix (l : List Int) (h : l.length = 16) : (Tryd.prog.info? 24).map (·.size) = some (b8 l).length := by
  rw [b8_len, h]
  kernel_rfl
theorem Tryd.execZ6 (ρ : Operand → Value) (d : Option Tmp) (ty : TypeId) (ps : String) (af : Array Edge) (gd : Option (Nat × Bool)) (w : World) : (execOp ρ { dst := d, op := .build 24 #[], type := ty, pos := ps, after := af, guard := gd }).run Tryd.prog w = .ok (.value (.agg (b8 (zs8 16)).toArray)) w := by kernel_rfl
/-- The library's variable holds some number. -/
def ML (w : World) : Prop := ∃ m, w.cell? ⟨5, 0, none⟩ = some (.int .i64 m)
theorem ML.below {w w' : World} (h : ML w) (hb : Below w.heap.size w w') : ML w' := by
  obtain ⟨m, hm⟩ := h
  exact ⟨m, (hb.cell (World.block_lt_of_cell? w _ hm)).trans hm⟩
theorem SlI.len {B : Nat} {v : Value} {ns : List Nat} {w : World} (h : SlI B v ns w) (ty : TypeId) (W : World) : (Builtin.len_ #[67] ty #[v]).run Tryd.prog W = .ok (.int .i64 (ns.length : Int)) W := by
  rcases h with ⟨rfl, rfl⟩ | ⟨g, cap, rfl, _⟩
  · exact run_len_slice W 67 ty none 0 0 (by kernel_rfl)
  · exact run_len_slice W 67 ty _ ns.length cap (by kernel_rfl)
theorem SlI.keep {B b : Nat} {v : Value} {ns : List Nat} {w w' : World} (h : SlI B v ns w) (hgb : ∀ g cap, v = .slice (some ⟨g, 0, none⟩) ns.length cap → ns ≠ [] → g ≠ b) (k : ∀ g x, g ≠ b → IntC g x w → IntC g x w') : SlI B v ns w' := by
  rcases h with h | ⟨g, cap, h1, h2, h3, h4⟩
  · exact .inl h
  · by_cases hn : ns = []
    · subst hn
      exact .inr ⟨g, cap, h1, h2, (fun i hi => absurd hi (Nat.not_lt_zero i)), h4⟩
    · exact .inr ⟨g, cap, h1, h2, k g _ (hgb g cap h1 hn) h3, h4⟩
theorem SlI.up {B C : Nat} {v : Value} {ns : List Nat} {w : World} (h : SlI B v ns w) (hC : C ≤ B) : SlI C v ns w := by
  rcases h with h | ⟨g, cap, h1, h2, h3⟩
  · exact .inl h
  · exact .inr ⟨g, cap, h1, by omega, h3⟩
theorem SlI.not {B b : Nat} {v : Value} {ns : List Nat} {w : World} (h : SlI B v ns w) (hb : b = w.heap.size) : ∀ g cap, v = .slice (some ⟨g, 0, none⟩) ns.length cap → ns ≠ [] → g ≠ b := by
  rcases h with ⟨_, h⟩ | ⟨g, cap, rfl, h2, h3, h4⟩
  · intro _ _ _ hn; exact absurd h hn
  · intro g' cap' e hn
    injection e with e1 e2 e3
    injection e1 with e1
    injection e1 with e1
    subst e1
    have hl : 0 < (ints' ns).length := by
      unfold ints'
      rw [List.length_map]
      exact List.length_pos_iff.mpr hn
    have := World.block_lt_of_cell? w _ (h3 0 hl)
    have h9 : g < w.heap.size := this
    omega
theorem sl_of {B : Nat} {ns : List Nat} {v : Value} {ok : Bool} {w : World} (h : GrA B (some ns) v ok w) : ok = true ∧ ns.length ≤ 8 ∧ SlI B v ns w := h
set_option maxRecDepth 100000 in
set_option maxHeartbeats 8000000 in
theorem parse6_any (s : ByteArray) (w : World) (hs : s.size < 4294967281) (hm : ML w) :
    Calls Tryd.prog 13 #[.string s] w fun e w' => e = .returned (.tuple #[.agg (b8 (val6 s)).toArray, .bool (ok6 s)]) ∧ Below w.heap.size w w' := by
  have CC := Lib.hid (fun W m (h : W.cell? ⟨5, 0, none⟩ = some (.int .i64 m)) => Tryd.strings_Cut s ⟨#[58, 58]⟩ m W hs h)
  have hd := six_doc s
  rw [six_cut] at hd
  have eb : bl s = s.data.toList := rfl
  rw [eb] at hd
  have es : (⟨#[58, 58]⟩ : ByteArray).data.toList = [58, 58] := rfl
  rw [es] at CC
  obtain ⟨A, hA⟩ : ∃ A : ByteArray, A = ⟨(Lib.cut s.data.toList [58, 58]).1.toArray⟩ := ⟨_, rfl⟩
  obtain ⟨B2, hB2⟩ : ∃ B2 : ByteArray, B2 = ⟨(Lib.cut s.data.toList [58, 58]).2.1.toArray⟩ := ⟨_, rfl⟩
  have hbA : (Lib.cut s.data.toList [58, 58]).1 = bl A := by rw [hA]; exact (bl_mk _).symm
  have hbB : (Lib.cut s.data.toList [58, 58]).2.1 = bl B2 := by rw [hB2]; exact (bl_mk _).symm
  rw [← hA, ← hB2] at CC
  rw [hbA, hbB] at hd
  generalize (Lib.cut s.data.toList [58, 58]).2.2 = sh at *
  have CA := Lib.hid (fun W => groups_any A W)
  have CB := Lib.hid (fun W => groups_any B2 W)
  have CF := Lib.hid (fun n W => fills_any n sh W)
  clear hA hB2 hbA hbB eb es hs
  obtain ⟨VZ, hVZ⟩ : ∃ VZ, VZ = b8 (zs8 16) := ⟨_, rfl⟩
  have HVZ := Lib.hid hVZ
  have HLZ : Hid (VZ.length = 16) := Lib.hid (by rw [hVZ, b8_len]; rfl)
  have HIL : Hid ((Tryd.prog.info? 24).map (·.size) = some VZ.length) := Lib.hid (by rw [hVZ]; exact Tryd.infoSix (zs8 16) rfl)
  have HIZ : Hid ((Tryd.prog.info? 24).map (·.size) = some VZ.toArray.size) := Lib.hid (by rw [List.size_toArray]; exact HIL.out)
  have HOZ : Hid (VZ.toArray.all (·.oneCell') = true) := Lib.hid (by rw [hVZ]; exact b8_one _)
  have HBD : Hid (∀ (ρ : Operand → Value) (d : Option Tmp) (ty : TypeId) (ps : String) (af : Array Edge) (W : World), (execOp ρ { dst := d, op := .build 24 #[], type := ty, pos := ps, after := af, guard := none }).run Tryd.prog W = .ok (.value (.agg VZ.toArray)) W) := Lib.hid (fun ρ d ty ps af W => by rw [hVZ]; exact Tryd.execZ6 ρ d ty ps af none W)
  generalize hok : ok6 s = ok at *
  generalize hR : b8 (val6 s) = VR at *
  have HR := Lib.hid hR
  have HD := Lib.hid hd
  clear hR hd hok
  generalize val6 s = vv at *
  have HM := Lib.hid (hm.below ((Below.refl w.heap.size w).alloc (Nat.le_refl _) (.cells VZ.toArray 24)))
  have HK1 := Lib.hid ((Kp.start w).new 24 VZ)
  have hz : (([.int .u8 0, .int .u8 0, .int .u8 0, .int .u8 0, .int .u8 0, .int .u8 0, .int .u8 0, .int .u8 0, .int .u8 0, .int .u8 0, .int .u8 0, .int .u8 0, .int .u8 0, .int .u8 0, .int .u8 0, .int .u8 0] : List Value) : List Value).toArray = VZ.toArray := by rw [hVZ]; rfl
  have HS1 : Hid ((w.alloc (.cells VZ.toArray 24)).heap.size = w.heap.size + 1) := Lib.hid (by simp)
  clear hm hVZ
  generalize hw1 : w.alloc (.cells VZ.toArray 24) = w1 at *
  go_enter Tryd.func13, Tryd.ntmps13
  go_upto_region 1 with (fail)
  clear hw1
  have HHz := Lib.hid hz
  clear hz
  obtain ⟨m, hm⟩ := HM.out
  go_wp2_with fail
  refine (CC.out w1 m hm).mono ?_
  rintro e w2 ⟨rfl, nd, rfl⟩
  have HK2 := Lib.hid (HK1.out.below ((Below.refl w1.heap.size w1).trans ⟨rfl, rfl, rfl, Nat.le_refl _, fun _ _ => rfl⟩ : Below w1.heap.size w1 (w1.drewN nd)) (Nat.le_refl _))
  have HS2 : Hid ((w1.drewN nd).heap.size = w.heap.size + 1) := Lib.hid HS1.out
  clear hm HM CC HK1 HS1
  generalize w1.drewN nd = w2 at *
  go_wp2_with fail
  refine (CA.out w2).mono ?_
  rintro e w3 ⟨v1, ok1, rfl, hs1, b3⟩
  have HK3 := Lib.hid (HK2.out.below b3 (Nat.le_refl _))
  have HS3 := Lib.hid (Nat.le_trans (Nat.le_of_eq HS2.out.symm) b3.size)
  clear b3 HK2 CA
  cases hgA : grs (bl A) with
  | none =>
    rw [hgA] at hs1
    obtain ⟨rfl, rfl⟩ := hs1
    have HBad : Hid (ok = false ∧ VR = VZ) := Lib.hid (by
      have h := HD.out
      rw [hgA] at h
      exact ⟨h.1, by rw [← HR.out, h.2, HVZ.out]⟩)
    have HKn := HK3
    clear HD HR HS2 HS3 hgA
    have HX1 : Hid (ok = false) := Lib.hid (HBad.out).1
    have HX2 : Hid (VR = VZ) := Lib.hid (HBad.out).2
    have ht0 := HKn.out.hd.there VZ.toArray.size (Nat.le_refl _)
    go_wp2_with (first | (refine Great.wpList_readTo rfl _ rfl (.agg VZ.toArray) (HBD.out _ _ _ _ _ _) ?_) | (refine wpList_store_mid rfl 24 _ _ rfl w.heap.size 0 VZ.toArray rfl rfl ht0 HIZ.out HOZ.out ?_))
    have hk7 := Bk.sets VZ 0 _ _ HKn.out.hd
    rw [puts_whole VZ.toArray VZ (by simp)] at hk7
    refine bodyPost_ret (v := .tuple #[.agg VZ.toArray, .bool false]) ?_ rfl ⟨by rw [HX1.out, HX2.out], below_sets _ (Nat.le_refl _) 0 _ HKn.out.2.1⟩
    exact results_cell2 rfl rfl rfl (run_loadVar_mid _ w.heap.size 0 24 VZ _ hk7.range Tryd.underlying24 rfl HIL.out)
  | some f =>
    rw [hgA] at hs1
    obtain ⟨rfl, hf8, hsl1⟩ := sl_of hs1
    rw [HS2.out] at hsl1
    have HSl1 := Lib.hid hsl1
    clear hs1 hsl1 HS2
    go_wp2_with fail
    refine (CB.out w3).mono ?_
    rintro e w4 ⟨v2, ok2, rfl, hs2, b4⟩
    have HK4 := Lib.hid (HK3.out.below b4 (Nat.le_refl _))
    have HSa := Lib.hid (HSl1.out.below b4)
    have HS4 := Lib.hid (Nat.le_trans HS3.out b4.size)
    clear b4 HK3 CB HSl1
    cases hgB : grs (bl B2) with
    | none =>
      rw [hgB] at hs2
      obtain ⟨rfl, rfl⟩ := hs2
      have HBad : Hid (ok = false ∧ VR = VZ) := Lib.hid (by
        have h := HD.out
        rw [hgA, hgB] at h
        exact ⟨h.1, by rw [← HR.out, h.2, HVZ.out]⟩)
      have HKn := HK4
      clear HD HR HS3 HS4 hgA hgB
      have HX1 : Hid (ok = false) := Lib.hid (HBad.out).1
      have HX2 : Hid (VR = VZ) := Lib.hid (HBad.out).2
      have ht0 := HKn.out.hd.there VZ.toArray.size (Nat.le_refl _)
      go_wp2_with (first | (refine Great.wpList_readTo rfl _ rfl (.agg VZ.toArray) (HBD.out _ _ _ _ _ _) ?_) | (refine wpList_store_mid rfl 24 _ _ rfl w.heap.size 0 VZ.toArray rfl rfl ht0 HIZ.out HOZ.out ?_))
      have hk7 := Bk.sets VZ 0 _ _ HKn.out.hd
      rw [puts_whole VZ.toArray VZ (by simp)] at hk7
      refine bodyPost_ret (v := .tuple #[.agg VZ.toArray, .bool false]) ?_ rfl ⟨by rw [HX1.out, HX2.out], below_sets _ (Nat.le_refl _) 0 _ HKn.out.2.1⟩
      exact results_cell2 rfl rfl rfl (run_loadVar_mid _ w.heap.size 0 24 VZ _ hk7.range Tryd.underlying24 rfl HIL.out)
    | some b =>
      rw [hgB] at hs2
      obtain ⟨rfl, hb8, hsl2⟩ := sl_of hs2
      have HSb := Lib.hid (hsl2.up HS3.out)
      have hlen1 := fun ty W => HSa.out.len ty W
      have hlen2 := fun ty W => HSb.out.len ty W
      obtain ⟨n9, hn9⟩ : ∃ n9, n9 = f.length + b.length := ⟨_, rfl⟩
      have en : ((f.length : Nat) : Int) + ((b.length : Nat) : Int) = (n9 : Int) := by omega
      have CF1 := Lib.hid (fun W => CF.out n9 W)
      have HN9 := Lib.hid hn9
      clear hn9
      clear hs2 hsl2 CF HS3
      have j1 : ((f.length : Nat) : Int) ≤ 8 := by omega
      have j2 : ((b.length : Nat) : Int) ≤ 8 := by omega
      by_cases hfit : (if sh = true then decide (n9 < 8) else decide (n9 = 8)) = true
      · have HFit : Hid (f.length + b.length ≤ 8) := Lib.hid (by have := HN9.out; cases sh <;> simp at hfit <;> omega)
        have HGood : Hid (ok = true ∧ VR = b8 (fill6 f b)) := Lib.hid (by
          have h := HD.out
          rw [hgA, hgB] at h
          dsimp only at h
          rw [← HN9.out, if_pos hfit] at h
          exact ⟨h.1, by rw [← HR.out, h.2]⟩)
        rw [hfit] at CF1
        clear HD HR hgA hgB hfit
        have HN1 := Lib.hid (HSa.out.not rfl)
        have HN2 := Lib.hid (HSb.out.not rfl)
        have hS5 := (HSa.out.below ((Below.refl w4.heap.size w4).alloc (Nat.le_refl _) (.cells VZ.toArray 24)))
        have hT5 := (HSb.out.below ((Below.refl w4.heap.size w4).alloc (Nat.le_refl _) (.cells VZ.toArray 24)))
        have hK5 := HK4.out.new 24 VZ
        have HBl : Hid (w.heap.size < w4.heap.size) := Lib.hid HS4.out
        have hz := HHz.out
        go_upto_region 9 with (go_at_call 44; refine (CF1.out _).mono ?_; rintro e w9 ⟨rfl, hw9⟩; have hw8 := hw9.symm; clear hw9; subst hw8)
        clear hz
        generalize w4.alloc (.cells VZ.toArray 24) = w5 at *
        generalize w4.heap.size = b9 at *
        have e0 : VZ = b8 (zs8 16) := HVZ.out
        have hne : ∀ x ∈ [(w.heap.size, 24, VZ)], x.1 ≠ b9 := by intro x hx; rw [List.mem_singleton] at hx; rw [hx]; show w.heap.size ≠ b9; have := HBl.out; omega
        have CP1 := Lib.hid (put_any b9 (zs8 16) 0 f v1 w w5 w.heap.size _ [(w.heap.size, 24, VZ)] (by rw [← e0]; exact hK5) rfl hne (by have := HBl.out; omega) (by have := HFit.out; omega) hS5 HN1.out)
        have HT5 := Lib.hid hT5
        have HNe := Lib.hid hne
        have ec0 : ((0 : Nat) : Int) = 0 := rfl
        rw [ec0] at CP1
        clear hS5 hT5 hK5 e0 hne ec0
        go_wp2_with fail
        refine CP1.out.mono ?_
        rintro e w6 ⟨rfl, hK6, hk6⟩
        have CP2 := Lib.hid (put_any b9 (gput (zs8 16) 0 (ints' f) f.length) (8 - b.length) b v2 w w6 w.heap.size _ [(w.heap.size, 24, VZ)] hK6 (gput_len _ _ _ _) HNe.out (by have := HBl.out; omega) (by have := HFit.out; omega) (HT5.out.keep HN2.out hk6) HN2.out)
        have e8 : (8 : Int) - ((b.length : Nat) : Int) = ((8 - b.length : Nat) : Int) := by have := HFit.out; omega
        rw [fill_put f b HFit.out] at CP2
        clear hK6 hk6 CP1 HT5
        go_wp2_with fail
        refine CP2.out.mono ?_
        rintro e w7 ⟨rfl, hK7, _⟩
        rw [← HGood.out.2] at hK7
        have HK7 := Lib.hid hK7
        have hlr : VR.length = 16 := by rw [HGood.out.2, b8_len]; unfold fill6; rw [by16_len]; simp [ints', zs8]; have := HFit.out; omega
        have HIR : Hid ((Tryd.prog.info? 24).map (·.size) = some VR.length) := Lib.hid (by rw [hlr]; have h := HIL.out; rw [HLZ.out] at h; exact h)
        have HOR : Hid (VR.toArray.all (·.oneCell') = true) := Lib.hid (by rw [HGood.out.2]; exact b8_one _)
        have hr := hK7.hd.range
        have ht : w7.there w.heap.size 0 VR.toArray.size := hK7.tl.hd.there _ (by have := HLZ.out; simp; omega)
        have hk7 := Bk.sets VR 0 _ _ hK7.tl.hd
        rw [puts_whole VZ.toArray VR (by have := HLZ.out; simp; omega)] at hk7
        have HK8 := Lib.hid hk7
        clear hk7 hlr hK7 CP2 e8
        go_wp2_with (first | (refine wpList_load_mid rfl 24 _ rfl b9 0 rfl VR _ hr Tryd.underlying24 rfl HIR.out ?_) | (refine wpList_store_mid rfl 24 _ _ rfl w.heap.size 0 VR.toArray rfl rfl ht (by simpa using HIR.out) HOR.out ?_))
        refine bodyPost_ret (v := .tuple #[.agg VR.toArray, .bool true]) ?_ rfl ⟨by rw [HGood.out.1], below_sets _ (Nat.le_refl _) 0 _ HK7.out.2.1⟩
        exact results_cell2 rfl rfl rfl (run_loadVar_mid _ w.heap.size 0 24 VR _ HK8.out.range Tryd.underlying24 rfl HIR.out)
      · have hff : (if sh = true then decide (n9 < 8) else decide (n9 = 8)) = false := (Bool.not_eq_true _).mp hfit
        have HBad : Hid (ok = false ∧ VR = VZ) := Lib.hid (by
          have h := HD.out
          rw [hgA, hgB] at h
          dsimp only at h
          rw [← HN9.out, if_neg hfit] at h
          exact ⟨h.1, by rw [← HR.out, h.2, HVZ.out]⟩)
        rw [hff] at CF1
        have HKn := HK4
        clear HD HR HS4 hgA hgB hfit hff
        have HX1 : Hid (ok = false) := Lib.hid (HBad.out).1
        have HX2 : Hid (VR = VZ) := Lib.hid (HBad.out).2
        have ht0 := HKn.out.hd.there VZ.toArray.size (Nat.le_refl _)
        go_wp2_with (first | (go_at_call 44; refine (CF1.out _).mono ?_; rintro e w9 ⟨rfl, hw9⟩; have hw8 := hw9.symm; clear hw9; subst hw8) | (refine Great.wpList_readTo rfl _ rfl (.agg VZ.toArray) (HBD.out _ _ _ _ _ _) ?_) | (refine wpList_store_mid rfl 24 _ _ rfl w.heap.size 0 VZ.toArray rfl rfl ht0 HIZ.out HOZ.out ?_))
        have hk7 := Bk.sets VZ 0 _ _ HKn.out.hd
        rw [puts_whole VZ.toArray VZ (by simp)] at hk7
        refine bodyPost_ret (v := .tuple #[.agg VZ.toArray, .bool false]) ?_ rfl ⟨by rw [HX1.out, HX2.out], below_sets _ (Nat.le_refl _) 0 _ HKn.out.2.1⟩
        exact results_cell2 rfl rfl rfl (run_loadVar_mid _ w.heap.size 0 24 VZ _ hk7.range Tryd.underlying24 rfl HIL.out)
end Go.Proofs.YtkdplnbabelkoaaDoor
