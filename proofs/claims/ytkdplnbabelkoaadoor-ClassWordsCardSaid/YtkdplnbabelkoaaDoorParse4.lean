/-
  Proved here: what the document's Parse4 answers.
  Conditions: a text of at most 70000 bytes.
-/
import Derived.Test.YtkdplnbabelkoaaDoorNumb
import Derived.Test.YtkdplnbabelkoaaDoorSplit
namespace Go.Proofs.YtkdplnbabelkoaaDoor
open Go.RowKit

def zero4 : List Int := [0, 0, 0, 0]
theorem Tryd.infoFour (l : List Int) (h : l.length = 4) : (Tryd.prog.info? 28).map (·.size) = some (b8 l).length := by
  rw [b8_len, h]
  kernel_rfl
theorem Tryd.execZ4 (ρ : Operand → Value) (d : Option Tmp) (ty : TypeId) (ps : String) (af : Array Edge) (gd : Option (Nat × Bool)) (w : World) : (execOp ρ { dst := d, op := .build 28 #[], type := ty, pos := ps, after := af, guard := gd }).run Tryd.prog w = .ok (.value (.agg (b8 [0, 0, 0, 0]).toArray)) w := by kernel_rfl
theorem Strs.set {B b : Nat} {l : List ByteArray} {v : Value} {w : World} (h : Strs B l v w) (hb : b < B) (i : Nat) (x : Value) : Strs B l v (w.setCell ⟨b, i, none⟩ x) := by
  obtain ⟨g, cap, e, hg, hc⟩ := h
  refine ⟨g, cap, e, hg, fun j hj => ?_⟩
  have h2 := hc j hj
  have h3 := Below.heap_setCell w ⟨b, i, none⟩ x g (by show g ≠ b; omega)
  unfold World.cell? at h2 ⊢
  rw [h3]
  exact h2
theorem Strs.drew {B : Nat} {l : List ByteArray} {v : Value} {w : World} (h : Strs B l v w) : Strs B l v w.drew := h
/-- A row of texts in a block. -/
def StrC (g : Nat) (l : List ByteArray) (w : World) : Prop := ∀ i (h : i < l.length), w.cell? ⟨g, i, none⟩ = some (.string l[i])
theorem StrC.set {g b : Nat} {l : List ByteArray} {w : World} (h : StrC g l w) (hb : g ≠ b) (i : Nat) (x : Value) : StrC g l (w.setCell ⟨b, i, none⟩ x) := fun j hj => by
  have h2 := h j hj
  have h3 := Below.heap_setCell w ⟨b, i, none⟩ x g hb
  unfold World.cell? at h2 ⊢
  rw [h3]
  exact h2
def nums4' (l : List ByteArray) : List Int := l.map fun t => numb (bl t) 255
theorem nums4_at (l : List ByteArray) (k : Nat) (h : k < l.length) : (nums4' l).getD k 0 = numb (bl l[k]) 255 := by
  unfold nums4'
  rw [List.getD_eq_getElem?_getD, List.getElem?_map, List.getElem?_eq_getElem h]
  rfl
/-- The numbers of a text's parts. -/
def nums4 (l : List ByteArray) : List Int := nums4' l
/-- Whether a text is an address's word, and which one's. -/
def ok4 (s : ByteArray) : Bool := decide ((parts s 46).length = 4) && (nums4 (parts s 46)).all (fun n => decide (0 ≤ n))
def val4 (s : ByteArray) : List Int := if ok4 s = true then nums4 (parts s 46) else zero4
theorem numb_le (l : List UInt8) (m : Int) (h : 0 ≤ numb l m) : numb l m ≤ m := by
  unfold numb at h ⊢
  split at h
  · omega
  · rename_i h1
    split at h
    · split at h
      · omega
      · rename_i h2 h3
        rw [if_neg h1, if_pos h2, if_neg h3]
        omega
    · omega
theorem val4_len (s : ByteArray) : (val4 s).length = 4 := by
  unfold val4
  split
  · rename_i h
    unfold ok4 at h
    simp only [Bool.and_eq_true, decide_eq_true_eq] at h
    unfold nums4 nums4'
    rw [List.length_map]
    exact h.1
  · rfl
/-- The numbers read so far, noughts behind. -/
def upto4 (L : List Int) (k : Nat) : List Int := L.take k ++ List.replicate (4 - k) 0
theorem upto4_len (L : List Int) (k : Nat) (hL : L.length = 4) (hk : k ≤ 4) : (upto4 L k).length = 4 := by unfold upto4; simp; omega
theorem upto4_next (L : List Int) (k : Nat) (hL : L.length = 4) (hk : k < 4) : (upto4 L k).set k (L.getD k 0) = upto4 L (k + 1) := by
  obtain ⟨a, b, c, d, rfl⟩ : ∃ a b c d, L = [a, b, c, d] := by
    match L, hL with
    | [a, b, c, d], _ => exact ⟨a, b, c, d, rfl⟩
  have : k = 0 ∨ k = 1 ∨ k = 2 ∨ k = 3 := by omega
  rcases this with rfl | rfl | rfl | rfl <;> rfl
theorem upto4_end (L : List Int) (hL : L.length = 4) : upto4 L 4 = L := by unfold upto4; simp [List.take_of_length_le (Nat.le_of_eq hL)]
theorem b8_set' (l : List Int) (i : Nat) (v : Int) : b8 (l.set i v) = (b8 l).set i (.int .u8 v) := b8_set l i v
theorem Kp.set8 {w0 w : World} {B b : Nat} {T : TypeId} {x : List Int} {l : List (Nat × TypeId × List Value)} (h : Kp w0 B ((b, T, b8 x) :: l) w) (hne : ∀ y ∈ l, y.1 ≠ b) (hB : B ≤ b) (i : Nat) (v : Int) : Kp w0 B ((b, T, b8 (x.set i v)) :: l) (w.setCell ⟨b, i, none⟩ (.int .u8 v)) := by
  rw [b8_set]
  exact h.set1 hne hB i _
theorem kp2 (w : World) (T1 T2 : TypeId) (V1 V2 : List Value) : Kp w w.heap.size [(w.heap.size + 1, T2, V2), (w.heap.size, T1, V1)] ((w.alloc (.cells V1.toArray T1)).alloc (.cells V2.toArray T2)) := by
  have h := ((Kp.start w).new T1 V1).new T2 V2
  have h1 : (w.alloc (.cells V1.toArray T1)).heap.size = w.heap.size + 1 := by simp
  rwa [h1] at h
set_option maxRecDepth 100000 in
set_option maxHeartbeats 2000000 in
theorem rparse4_any (s : ByteArray) (w : World) (hs : s.size ≤ 70000) :
    Calls Tryd.prog 19 #[.string s] w fun e w' => e = .returned (.tuple #[.agg (b8 (val4 s)).toArray, .bool (ok4 s)]) ∧ Below w.heap.size w w' := by
  have CS := Lib.hid (fun W => rsplit_any s 46 W hs)
  obtain ⟨P, hP⟩ : ∃ P, P = parts s 46 := ⟨_, rfl⟩
  have HOk : Hid (ok4 s = (decide (P.length = 4) && (nums4 P).all (fun n => decide (0 ≤ n)))) := Lib.hid (by rw [hP]; rfl)
  have HV : Hid (val4 s = if ok4 s = true then nums4 P else zero4) := Lib.hid (by rw [hP]; rfl)
  rw [← hP] at CS
  clear hP hs
  generalize ok4 s = ok at *
  generalize hR : b8 (val4 s) = VR at *
  have HR := Lib.hid hR
  clear hR
  generalize val4 s = vv at *
  have HZ4 : Hid ((Tryd.prog.info? 28).map (·.size) = some 4) := Lib.hid (Tryd.infoFour zero4 rfl)
  have HO4 : Hid (([.int .u8 0, .int .u8 0, .int .u8 0, .int .u8 0] : List Value).toArray.all (·.oneCell') = true) := Lib.hid (by simp [Value.oneCell'])
  have HBD : Hid (∀ (ρ : Operand → Value) (d : Option Tmp) (ty : TypeId) (ps : String) (af : Array Edge) (W : World), (execOp ρ { dst := d, op := .build 28 #[], type := ty, pos := ps, after := af, guard := none }).run Tryd.prog W = .ok (.value (.agg ([.int .u8 0, .int .u8 0, .int .u8 0, .int .u8 0] : List Value).toArray)) W) := Lib.hid (fun ρ d ty ps af W => Tryd.execZ4 ρ d ty ps af none W)
  have hK1 := kp2 w 28 28 ([.int .u8 0, .int .u8 0, .int .u8 0, .int .u8 0] : List Value) ([.int .u8 0, .int .u8 0, .int .u8 0, .int .u8 0] : List Value)
  have HK1 := Lib.hid hK1
  have HS1 : Hid (((w.alloc (.cells ([.int .u8 0, .int .u8 0, .int .u8 0, .int .u8 0] : List Value).toArray 28)).alloc (.cells ([.int .u8 0, .int .u8 0, .int .u8 0, .int .u8 0] : List Value).toArray 28)).heap.size = w.heap.size + 1 + 1) := Lib.hid (by simp)
  clear hK1
  generalize hw1 : (w.alloc (.cells ([.int .u8 0, .int .u8 0, .int .u8 0, .int .u8 0] : List Value).toArray 28)).alloc (.cells ([.int .u8 0, .int .u8 0, .int .u8 0, .int .u8 0] : List Value).toArray 28) = w1 at *
  go_enter Tryd.func19, Tryd.ntmps19
  go_upto_region 2 with (fail)
  clear hw1
  go_wp2_with fail
  refine (CS.out w1).mono ?_
  rintro e w2 ⟨v, rfl, hst, b2⟩
  have HK2 := Lib.hid (HK1.out.below b2 (Nat.le_refl _))
  have HST := Lib.hid hst
  obtain ⟨g, cap, hv, hg, hcs⟩ := hst
  subst hv
  have HG : Hid (w.heap.size + 1 < w1.heap.size) := Lib.hid (by rw [HS1.out]; omega)
  clear b2 HK1 CS hg hcs HS1
  have ht0 := HK2.out.tl.hd.there 4 (Nat.le_refl _)
  by_cases h4 : P.length = 4
  · have e4 : ((P.length : Int) != 4) = false := by rw [h4]; rfl
    have HN4 : Hid ((nums4 P).length = 4) := Lib.hid (by unfold nums4 nums4'; rw [List.length_map]; exact h4)
    have HAt := Lib.hid (fun k (h : k < P.length) => nums4_at P k h)
    have HOk2 : Hid (ok = (nums4 P).all (fun n => decide (0 ≤ n))) := Lib.hid (by rw [HOk.out, decide_eq_true h4]; rfl)
    have HP4 := Lib.hid h4
    have hcs : StrC g P w2 := by
      obtain ⟨g', cap', e, _, hc⟩ := HST.out
      injection e with e1 e2 e3
      injection e1 with e1
      injection e1 with e1
      subst e1
      exact hc
    have HCS := Lib.hid hcs
    have HGb : Hid (g ≠ w.heap.size + 1) := Lib.hid (by
      obtain ⟨g', cap', e, hg, _⟩ := HST.out
      injection e with e1 e2 e3
      injection e1 with e1
      injection e1 with e1
      subst e1
      have := HG.out
      omega)
    clear HOk h4 hcs HST HG
    have hN : nums4 P = nums4' P := rfl
    rw [← hN] at HAt
    clear hN
    generalize nums4 P = N at *
    go_wp2_with fail
    go_loopw [6] (fun i wr => ∃ k : Nat, k ≤ 4 ∧ i = .int .i64 k ∧ Kp w w.heap.size [(w.heap.size + 1, 28, b8 (upto4 N k)), (w.heap.size, 28, ([.int .u8 0, .int .u8 0, .int .u8 0, .int .u8 0] : List Value))] wr ∧ StrC g P wr ∧ Hid (∀ j, j < k → 0 ≤ N.getD j 0)) (fun i _ => 4 - (intOf i).toNat)
    case atStart => exact ⟨0, by omega, rfl, HK2.out, HCS.out, Lib.hid (fun j hj => absurd hj (Nat.not_lt_zero _))⟩
    case round =>
      obtain ⟨k, hk, rfl, hK, hC, hJ⟩ := hrel
      have HK := Lib.hid hK
      have HC := Lib.hid hC
      clear hK hC HK2 HCS ht0 e4
      by_cases hlt : k < 4
      · have i4 : ((k : Nat) : Int) < 4 := by omega
        have hPk : k < P.length := by have := HP4.out; omega
        have iP : ((k : Nat) : Int) < (P.length : Int) := by omega
        have cp := HC.out k hPk
        have ha := HAt.out k hPk
        have CN := Lib.hid (fun W => rnumb_any P[k] 255 W)
        have HLe := Lib.hid (numb_le (bl P[k]) 255)
        rw [← ha] at CN HLe
        have HUp := Lib.hid (upto4_next N k HN4.out hlt)
        have HM : Hid (∀ v, N.getD k 0 = v → v < 0 → ok = false) := Lib.hid (fun v hv h0 => by
          rw [HOk2.out, List.all_eq_false]
          refine ⟨v, ?_, by rw [decide_eq_true_eq]; omega⟩
          rw [← hv, List.getD_eq_getElem?_getD, List.getElem?_eq_getElem (by rw [HN4.out]; exact hlt)]
          exact List.getElem_mem _)
        clear ha
        generalize P[k] = pk at *
        clear hPk
        generalize hv : N.getD k 0 = v at *
        have Hv := Lib.hid hv
        clear hv
        go_wp2_with fail
        refine (CN.out wr).mono ?_
        rintro e w4 ⟨rfl, rfl⟩
        clear cp CN
        by_cases h0 : v < 0
        · have d0 := decide_eq_true h0
          have HX1 : Hid (ok = false) := Lib.hid (HM.out v rfl h0)
          have HX2 : Hid (VR = ([.int .u8 0, .int .u8 0, .int .u8 0, .int .u8 0] : List Value)) := Lib.hid (by rw [← HR.out, HV.out, HX1.out]; rfl)
          have ht := HK.out.tl.hd.there 4 (Nat.le_refl _)
          clear h0 HM HUp HLe HOk2 HV HR
          go_wp2_with (first | (refine Great.wpList_readTo rfl _ rfl (.agg ([.int .u8 0, .int .u8 0, .int .u8 0, .int .u8 0] : List Value).toArray) (HBD.out _ _ _ _ _ _) ?_) | (refine wpList_store_mid rfl 28 _ _ rfl w.heap.size 0 ([.int .u8 0, .int .u8 0, .int .u8 0, .int .u8 0] : List Value).toArray rfl rfl ht HZ4.out HO4.out ?_))
          have hk7 := Bk.sets ([.int .u8 0, .int .u8 0, .int .u8 0, .int .u8 0] : List Value) 0 _ _ HK.out.tl.hd
          rw [puts_whole ([.int .u8 0, .int .u8 0, .int .u8 0, .int .u8 0] : List Value).toArray ([.int .u8 0, .int .u8 0, .int .u8 0, .int .u8 0] : List Value) (by simp)] at hk7
          refine bodyPost_ret (v := .tuple #[.agg ([.int .u8 0, .int .u8 0, .int .u8 0, .int .u8 0] : List Value).toArray, .bool false]) ?_ rfl ⟨by rw [HX1.out, HX2.out], below_sets _ (Nat.le_refl _) 0 _ HK.out.2.1⟩
          exact results_cell2 rfl rfl rfl (run_loadVar_mid _ w.heap.size 0 28 ([.int .u8 0, .int .u8 0, .int .u8 0, .int .u8 0] : List Value) _ hk7.range Tryd.underlying28 rfl HZ4.out)
        · have d0 := decide_eq_false h0
          have hle := HLe.out (by omega)
          have ku : IntKind.u8.wrap v = v := by unfold IntKind.wrap IntKind.bits IntKind.signed; simp; omega
          have cc := HK.out.hd.at (i := k) (b8_at _ k (by rw [upto4_len N k HN4.out hk]; exact hlt))
          have cz := HK.out.hd.z k
          have hk2 := HK.out.set8 (by intro y hy; rw [List.mem_singleton] at hy; rw [hy]; show w.heap.size ≠ w.heap.size + 1; omega) (by omega) k v
          rw [HUp.out] at hk2
          have HK9 := Lib.hid hk2
          have HC9 := Lib.hid (HC.out.set HGb.out k (.int .u8 v))
          have HJ9 : Hid (∀ j, j < k + 1 → 0 ≤ N.getD j 0) := Lib.hid (fun j hj => by
            rcases Nat.lt_or_ge j k with h | h
            · exact hJ.out j h
            · obtain rfl : j = k := by omega
              rw [Hv.out]; omega)
          clear hk2 h0 HM HUp HLe hle
          generalize (upto4 N k).getD k 0 = dx at *
          go_wp2_with fail
          go_roundw
          case rel => exact ⟨k + 1, by omega, by go_num, HK9.out, HC9.out, HJ9⟩
          case measure => simp [intOf]; omega
      · obtain rfl : k = 4 := by omega
        have HX1 : Hid (ok = true) := Lib.hid (by
          rw [HOk2.out, List.all_eq_true]
          intro x hx
          obtain ⟨j, hj, rfl⟩ := List.getElem_of_mem hx
          have := hJ.out j (by have := HN4.out; omega)
          rw [List.getD_eq_getElem?_getD, List.getElem?_eq_getElem hj] at this
          exact decide_eq_true this)
        have HX2 : Hid (VR = b8 N) := Lib.hid (by rw [← HR.out, HV.out, HX1.out]; rfl)
        have hK9 := HK.out
        rw [upto4_end N HN4.out, ← HX2.out] at hK9
        have HK9 := Lib.hid hK9
        have hlr : VR.length = 4 := by rw [HX2.out, b8_len]; exact HN4.out
        have HIR : Hid ((Tryd.prog.info? 28).map (·.size) = some VR.length) := Lib.hid (by rw [hlr]; exact HZ4.out)
        have HOR : Hid (VR.toArray.all (·.oneCell') = true) := Lib.hid (by rw [HX2.out]; exact b8_one _)
        have hr := hK9.hd.range
        have ht : wr.there w.heap.size 0 VR.toArray.size := hK9.tl.hd.there _ (by simp; omega)
        have hk7 := Bk.sets VR 0 _ _ hK9.tl.hd
        rw [puts_whole ([.int .u8 0, .int .u8 0, .int .u8 0, .int .u8 0] : List Value).toArray VR (by simp; omega)] at hk7
        have HK7 := Lib.hid hk7
        clear hk7 hlr hK9 HK HX2 HR HV HOk2 hJ HC
        go_wp2_with (first | (refine wpList_load_mid rfl 28 _ rfl (w.heap.size + 1) 0 rfl VR _ hr Tryd.underlying28 rfl HIR.out ?_) | (refine wpList_store_mid rfl 28 _ _ rfl w.heap.size 0 VR.toArray rfl rfl ht (by simpa using HIR.out) HOR.out ?_))
        refine bodyPost_ret (v := .tuple #[.agg VR.toArray, .bool true]) ?_ rfl ⟨by rw [HX1.out], below_sets _ (Nat.le_refl _) 0 _ HK9.out.2.1⟩
        exact results_cell2 rfl rfl rfl (run_loadVar_mid _ w.heap.size 0 28 VR _ HK7.out.range Tryd.underlying28 rfl HIR.out)
  · have e4 : ((P.length : Int) != 4) = true := by rw [bne_iff_ne]; omega
    have HX1 : Hid (ok = false) := Lib.hid (by rw [HOk.out, decide_eq_false h4]; rfl)
    have HX2 : Hid (VR = ([.int .u8 0, .int .u8 0, .int .u8 0, .int .u8 0] : List Value)) := Lib.hid (by rw [← HR.out, HV.out, HX1.out]; rfl)
    have hr1 := HK2.out.hd.range
    clear HOk HV HR h4
    go_wp2_with (first | (refine wpList_load_mid rfl 28 _ rfl (w.heap.size + 1) 0 rfl ([.int .u8 0, .int .u8 0, .int .u8 0, .int .u8 0] : List Value) _ hr1 Tryd.underlying28 rfl HZ4.out ?_) | (refine wpList_store_mid rfl 28 _ _ rfl w.heap.size 0 ([.int .u8 0, .int .u8 0, .int .u8 0, .int .u8 0] : List Value).toArray rfl rfl ht0 HZ4.out HO4.out ?_))
    have hk7 := Bk.sets ([.int .u8 0, .int .u8 0, .int .u8 0, .int .u8 0] : List Value) 0 _ _ HK2.out.tl.hd
    rw [puts_whole ([.int .u8 0, .int .u8 0, .int .u8 0, .int .u8 0] : List Value).toArray ([.int .u8 0, .int .u8 0, .int .u8 0, .int .u8 0] : List Value) (by simp)] at hk7
    refine bodyPost_ret (v := .tuple #[.agg ([.int .u8 0, .int .u8 0, .int .u8 0, .int .u8 0] : List Value).toArray, .bool false]) ?_ rfl ⟨by rw [HX1.out, HX2.out], below_sets _ (Nat.le_refl _) 0 _ HK2.out.2.1⟩
    exact results_cell2 rfl rfl rfl (run_loadVar_mid _ w.heap.size 0 28 ([.int .u8 0, .int .u8 0, .int .u8 0, .int .u8 0] : List Value) _ hk7.range Tryd.underlying28 rfl HZ4.out)
end Go.Proofs.YtkdplnbabelkoaaDoor
