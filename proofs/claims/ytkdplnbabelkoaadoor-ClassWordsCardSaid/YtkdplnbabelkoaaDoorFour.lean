/-
  Proved here: what the program's Parse4 answers.
  Conditions: none.
-/
import Derived.Test.YtkdplnbabelkoaaDoorRead
import Derived.Test.YtkdplnbabelkoaaDoorPn
import Derived.Test.YtkdplnbabelkoaaDoorHeld
namespace Go.Proofs.YtkdplnbabelkoaaDoor
open Go.RowKit

theorem P4_vals : P4.vals = #[.int .i32 46, .int .i64 10, .int .i64 3, .int .i64 255, .bool false, .int .i64 4] := rfl
theorem u8_wrap (x : Int) (h0 : 0 ≤ x) (h1 : x < 256) : IntKind.u8.wrap x = x := by
  unfold IntKind.wrap IntKind.bits IntKind.signed
  simp
  omega
set_option maxRecDepth 100000 in
set_option maxHeartbeats 4000000 in
theorem parse4_any (s : ByteArray) (w : World) :
    Calls Tryd.prog 14 #[.string s] w fun e w' => e = .returned (.tuple #[.agg (b8 (val4 s)).toArray, .bool (ok4 s)]) ∧ Below w.heap.size w w' := by
  have CR := Lib.hid (fun W => read_any P4 s W (by decide) (by decide) (by decide) (by decide) (by decide))
  rw [P4_vals] at CR
  have hd := four_doc s
  generalize rd P4 (bl s) [] 0 0 = R at *
  have HZ4 : Hid ((Tryd.prog.info? 28).map (·.size) = some 4) := Lib.hid (Tryd.infoFour zero4 rfl)
  have HO4 : Hid (([.int .u8 0, .int .u8 0, .int .u8 0, .int .u8 0] : List Value).toArray.all (·.oneCell') = true) := Lib.hid (by simp [Value.oneCell'])
  have HBD : Hid (∀ (ρ : Operand → Value) (d : Option Tmp) (ty : TypeId) (ps : String) (af : Array Edge) (W : World), (execOp ρ { dst := d, op := .build 28 #[], type := ty, pos := ps, after := af, guard := none }).run Tryd.prog W = .ok (.value (.agg ([.int .u8 0, .int .u8 0, .int .u8 0, .int .u8 0] : List Value).toArray)) W) := Lib.hid (fun ρ d ty ps af W => Tryd.execZ4 ρ d ty ps af none W)
  have hvi := val4_in s
  generalize hok : ok4 s = ok at *
  generalize hR : b8 (val4 s) = VR at *
  have HR := Lib.hid hR
  have HD := Lib.hid hd
  have HVi := Lib.hid hvi
  clear hR hd hok hvi
  generalize val4 s = vv at *
  have HK1 := Lib.hid (kp2 w 28 28 ([.int .u8 0, .int .u8 0, .int .u8 0, .int .u8 0] : List Value) ([.int .u8 0, .int .u8 0, .int .u8 0, .int .u8 0] : List Value))
  have HS1 : Hid (((w.alloc (.cells ([.int .u8 0, .int .u8 0, .int .u8 0, .int .u8 0] : List Value).toArray 28)).alloc (.cells ([.int .u8 0, .int .u8 0, .int .u8 0, .int .u8 0] : List Value).toArray 28)).heap.size = w.heap.size + 1 + 1) := Lib.hid (by simp)
  generalize hw1 : (w.alloc (.cells ([.int .u8 0, .int .u8 0, .int .u8 0, .int .u8 0] : List Value).toArray 28)).alloc (.cells ([.int .u8 0, .int .u8 0, .int .u8 0, .int .u8 0] : List Value).toArray 28) = w1 at *
  go_enter Tryd.func14, Tryd.ntmps14
  go_upto_region 2 with (fail)
  clear hw1
  go_wp2_with fail
  refine (CR.out w1).mono ?_
  rintro e w2 ⟨v, ok1, rfl, hst, b2⟩
  have HK2 := Lib.hid (HK1.out.below b2 (Nat.le_refl _))
  clear b2 HK1 CR
  cases R with
  | none =>
    obtain ⟨rfl, rfl⟩ := hst
    have HBad : Hid (ok = false ∧ VR = ([.int .u8 0, .int .u8 0, .int .u8 0, .int .u8 0] : List Value)) := Lib.hid ⟨HD.out.1, by rw [← HR.out, HD.out.2]; rfl⟩
    clear HD HR HVi HS1
    have HX1 : Hid (ok = false) := Lib.hid (HBad.out).1
    have HX2 : Hid (VR = ([.int .u8 0, .int .u8 0, .int .u8 0, .int .u8 0] : List Value)) := Lib.hid (HBad.out).2
    have ht0 := HK2.out.tl.hd.there 4 (Nat.le_refl _)
    clear HBad
    go_wp2_with (first | (refine Great.wpList_readTo rfl _ rfl (.agg ([.int .u8 0, .int .u8 0, .int .u8 0, .int .u8 0] : List Value).toArray) (HBD.out _ _ _ _ _ _) ?_) | (refine wpList_store_mid rfl 28 _ _ rfl w.heap.size 0 ([.int .u8 0, .int .u8 0, .int .u8 0, .int .u8 0] : List Value).toArray rfl rfl ht0 HZ4.out HO4.out ?_))
    have hk7 := Bk.sets ([.int .u8 0, .int .u8 0, .int .u8 0, .int .u8 0] : List Value) 0 _ _ HK2.out.tl.hd
    rw [puts_whole ([.int .u8 0, .int .u8 0, .int .u8 0, .int .u8 0] : List Value).toArray ([.int .u8 0, .int .u8 0, .int .u8 0, .int .u8 0] : List Value) (by simp)] at hk7
    refine bodyPost_ret (v := .tuple #[.agg ([.int .u8 0, .int .u8 0, .int .u8 0, .int .u8 0] : List Value).toArray, .bool false]) ?_ rfl ⟨by rw [HX1.out, HX2.out], below_sets _ (Nat.le_refl _) 0 _ HK2.out.2.1⟩
    exact results_cell2 rfl rfl rfl (run_loadVar_mid _ w.heap.size 0 28 ([.int .u8 0, .int .u8 0, .int .u8 0, .int .u8 0] : List Value) _ hk7.range Tryd.underlying28 rfl HZ4.out)
  | some ns =>
    obtain ⟨rfl, hn8, hn0, g, cap, rfl, hg, hic, hns⟩ := hst
    have hD2 := HD.out
    dsimp only at hD2
    by_cases h4 : ns.length = 4
    · have e4 : ((ns.length : Int) != 4) = false := by rw [h4]; rfl
      rw [if_pos h4] at hD2
      have HOk : Hid (ok = true) := Lib.hid hD2.1
      have HNs : Hid (vv = ints' ns) := Lib.hid hD2.2
      have HN4 : Hid ((ints' ns).length = 4) := Lib.hid (by unfold ints'; rw [List.length_map]; exact h4)
      have HP4 := Lib.hid h4
      have HIC := Lib.hid hic
      have HGb : Hid (g ≠ w.heap.size + 1) := Lib.hid (by have := HS1.out; omega)
      have HVi2 : Hid (∀ i, i < 4 → 0 ≤ (ints' ns).getD i 0 ∧ (ints' ns).getD i 0 ≤ 255) := Lib.hid (fun i hi => by
        have hl : i < (ints' ns).length := by rw [HN4.out]; exact hi
        rw [List.getD_eq_getElem?_getD, List.getElem?_eq_getElem hl]
        exact HVi.out _ (by rw [HNs.out]; exact List.getElem_mem hl))
      clear HD hD2 h4 hic hg hn8 hn0 hns HVi HS1
      generalize ints' ns = N at *
      go_wp2_with fail
      go_loopw [25] (fun i wr => ∃ k : Nat, k ≤ 4 ∧ i = .int .i64 k ∧ Kp w w.heap.size [(w.heap.size + 1, 28, b8 (upto4 N k)), (w.heap.size, 28, ([.int .u8 0, .int .u8 0, .int .u8 0, .int .u8 0] : List Value))] wr ∧ IntC g N wr) (fun i _ => 4 - (intOf i).toNat)
      case atStart => exact ⟨0, by omega, rfl, HK2.out, HIC.out⟩
      case round =>
        obtain ⟨k, hk, rfl, hK, hC⟩ := hrel
        have HK := Lib.hid hK
        have HC := Lib.hid hC
        have hp4 := HP4.out
        clear hK hC HK2 HIC e4
        by_cases hlt : k < 4
        · have iP : ((k : Nat) : Int) < (ns.length : Int) := by omega
          have i4 : ((k : Nat) : Int) < 4 := by omega
          have cp := HC.out k (by rw [HN4.out]; exact hlt)
          obtain ⟨hv0, hv9⟩ := HVi2.out k hlt
          have HUp := Lib.hid (upto4_next N k HN4.out hlt)
          clear hp4
          generalize hv : N.getD k 0 = v at *
          clear hv
          have ku := u8_wrap v hv0 (by omega)
          have cc := HK.out.hd.at (i := k) (b8_at _ k (by rw [upto4_len N k HN4.out hk]; exact hlt))
          have cz := HK.out.hd.z k
          have hk2 := HK.out.set8 (by intro y hy; rw [List.mem_singleton] at hy; rw [hy]; show w.heap.size ≠ w.heap.size + 1; omega) (by omega) k v
          rw [HUp.out] at hk2
          have HK9 := Lib.hid hk2
          have HC9 := Lib.hid (HC.out.set HGb.out k (.int .u8 v))
          clear hk2 HUp hv0 hv9
          generalize (upto4 N k).getD k 0 = dx at *
          go_wp2_with fail
          go_roundw
          case rel => exact ⟨k + 1, by omega, by go_num, HK9.out, HC9.out⟩
          case measure => simp [intOf]; omega
        · obtain rfl : k = 4 := by omega
          have iP : ¬ (4 : Int) < (ns.length : Int) := by omega
          have HX2 : Hid (VR = b8 N) := Lib.hid (by rw [← HR.out, HNs.out])
          have hK9 := HK.out
          rw [upto4_end N HN4.out, ← HX2.out] at hK9
          have HK9 := Lib.hid hK9
          have hlr : VR.length = 4 := by rw [HX2.out, b8_len]; exact HN4.out
          have HIR : Hid ((Tryd.prog.info? 28).map (·.size) = some VR.length) := Lib.hid (by rw [hlr]; exact HZ4.out)
          have HOR : Hid (VR.toArray.all (·.oneCell') = true) := Lib.hid (by rw [HX2.out]; exact b8_one _)
          have hr := hK9.hd.range
          have ht : wr.there w.heap.size 0 VR.toArray.size := hK9.tl.hd.there _ (by simp; omega)
          have hk7 := Bk.sets VR 0 _ _ hK9.tl.hd
          rw [puts_whole ([.int .u8 0, .int .u8 0, .int .u8 0, .int .u8 0] : List Value).toArray VR (by simp; omega)] at hk7
          have HK7 := Lib.hid hk7
          have e44 : ((4 : Nat) : Int) = 4 := rfl
          simp only [e44] at *
          clear hk7 hlr hK9 HK HX2 HR HC hp4
          go_wp2_with (first | (refine wpList_load_mid rfl 28 _ rfl (w.heap.size + 1) 0 rfl VR _ hr Tryd.underlying28 rfl HIR.out ?_) | (refine wpList_store_mid rfl 28 _ _ rfl w.heap.size 0 VR.toArray rfl rfl ht (by simpa using HIR.out) HOR.out ?_))
          refine bodyPost_ret (v := .tuple #[.agg VR.toArray, .bool true]) ?_ rfl ⟨by rw [HOk.out], below_sets _ (Nat.le_refl _) 0 _ HK9.out.2.1⟩
          exact results_cell2 rfl rfl rfl (run_loadVar_mid _ w.heap.size 0 28 VR _ HK7.out.range Tryd.underlying28 rfl HIR.out)
    · have e4 : ((ns.length : Int) != 4) = true := by rw [bne_iff_ne]; omega
      rw [if_neg h4] at hD2
      have HBad : Hid (ok = false ∧ VR = ([.int .u8 0, .int .u8 0, .int .u8 0, .int .u8 0] : List Value)) := Lib.hid ⟨hD2.1, by rw [← HR.out, hD2.2]; rfl⟩
      clear HD hD2 h4 hic hg hn8 hn0 hns HVi HS1 HR
      have HX1 : Hid (ok = false) := Lib.hid (HBad.out).1
      have HX2 : Hid (VR = ([.int .u8 0, .int .u8 0, .int .u8 0, .int .u8 0] : List Value)) := Lib.hid (HBad.out).2
      have ht0 := HK2.out.tl.hd.there 4 (Nat.le_refl _)
      clear HBad
      go_wp2_with (first | (refine Great.wpList_readTo rfl _ rfl (.agg ([.int .u8 0, .int .u8 0, .int .u8 0, .int .u8 0] : List Value).toArray) (HBD.out _ _ _ _ _ _) ?_) | (refine wpList_store_mid rfl 28 _ _ rfl w.heap.size 0 ([.int .u8 0, .int .u8 0, .int .u8 0, .int .u8 0] : List Value).toArray rfl rfl ht0 HZ4.out HO4.out ?_))
      have hk7 := Bk.sets ([.int .u8 0, .int .u8 0, .int .u8 0, .int .u8 0] : List Value) 0 _ _ HK2.out.tl.hd
      rw [puts_whole ([.int .u8 0, .int .u8 0, .int .u8 0, .int .u8 0] : List Value).toArray ([.int .u8 0, .int .u8 0, .int .u8 0, .int .u8 0] : List Value) (by simp)] at hk7
      refine bodyPost_ret (v := .tuple #[.agg ([.int .u8 0, .int .u8 0, .int .u8 0, .int .u8 0] : List Value).toArray, .bool false]) ?_ rfl ⟨by rw [HX1.out, HX2.out], below_sets _ (Nat.le_refl _) 0 _ HK2.out.2.1⟩
      exact results_cell2 rfl rfl rfl (run_loadVar_mid _ w.heap.size 0 28 ([.int .u8 0, .int .u8 0, .int .u8 0, .int .u8 0] : List Value) _ hk7.range Tryd.underlying28 rfl HZ4.out)
end Go.Proofs.YtkdplnbabelkoaaDoor
