/-
  Proved here: what udp.fault, udp.read and udp.Parse answer.
  Conditions: texts of at most 70000 bytes.
-/
import Derived.Test.YtiemapkajpfikaaDoorErr
namespace Go.Proofs.YtiemapkajpfikaaDoor
open Go.RowKit

theorem fault_any (c : Int) (w : World) :
    Calls Tryd.prog 9 #[.int .i64 c] w fun e w' => e = .returned (.iface 38 (.pointer (some ⟨w.heap.size, 0, none⟩))) ∧ w' = w.alloc (.cells #[.int .i64 c, .int .i64 0] 42) := by
  go_enter Tryd.func9, Tryd.ntmps9
  go_wp2_with fail
  go_ret
  exact ⟨rfl, rfl⟩
theorem err_new {w : World} {B : Nat} (c : Int) (hc : c ≠ 0) (hB : B ≤ w.heap.size) : ErrV B c (.iface 38 (.pointer (some ⟨w.heap.size, 0, none⟩))) (w.alloc (.cells #[.int .i64 c, .int .i64 0] 42)) := .inr ⟨hc, _, rfl, Flt.new w c 0, hB⟩
theorem err_none {w : World} {B : Nat} : ErrV B 0 .nilIface w := .inl ⟨rfl, rfl⟩
theorem ext_two (s : ByteArray) (i : Nat) (h : i + 1 < s.size) : (s.extract i (i + 2)).data.toList = [s.data.toList.getD i 0, s.data.toList.getD (i + 1) 0] := by
  have hl : i + 1 < s.data.toList.length := by simpa using h
  rw [ext_list, List.drop_take, show i + 2 - i = 2 by omega, List.drop_eq_getElem_cons (by omega), List.take_succ_cons, List.drop_eq_getElem_cons hl, List.take_succ_cons, List.take_zero, List.getD_eq_getElem?_getD, List.getElem?_eq_getElem (by omega), List.getD_eq_getElem?_getD, List.getElem?_eq_getElem hl]
  rfl
theorem num_wd (s : ByteArray) (i j : Nat) (hj : i = 2 * j) (h : i + 1 < s.size) : numOf (s.extract i (i + 2)).data.toList = wd s.data.toList j := by
  subst hj
  rw [ext_two s _ h]
  unfold wd numOf
  simp only [List.foldl_cons, List.foldl_nil]
  omega
theorem err_sets {w : World} {B b : Nat} {c : Int} {v : Value} (h : ErrV B c v w) (hb : b < B) (vs : List Value) : ErrV B c v (w.setCells b 0 vs) := by
  rcases h with h | ⟨h1, f, h2, h3, h4⟩
  · exact .inl h
  · exact .inr ⟨h1, f, h2, Bk.sets_other h3 (by omega) 0 vs, h4⟩
theorem ErrV.le {B C : Nat} {c : Int} {v : Value} {w : World} (h : ErrV B c v w) (hC : C ≤ B) : ErrV C c v w := by
  rcases h with h | ⟨h1, f, h2, h3, h4⟩
  · exact .inl h
  · exact .inr ⟨h1, f, h2, h3, Nat.le_trans hC h4⟩
/-- What lies in memory while a datagram is read. -/
def RS (w0 : World) (B b r : Nat) (d : Dg) (s : ByteArray) (k : Nat) (w : World) : Prop := Bk w b 24 d.vals.toArray ∧ Rd w r s k 0 ∧ Below B w0 w ∧ B ≤ b ∧ B ≤ r ∧ b ≠ r ∧ B ≤ w.heap.size
section
variable {w0 w w' : World} {B b r : Nat} {p : Dg} {s : ByteArray} {k : Nat}
theorem RS.next (h : RS w0 B b r p s k w) {k' : Nat} (hR : Rd w' r s k' 0) (hG : w.grownBy w' (some r)) : RS w0 B b r p s k' w' := by
  obtain ⟨h1, h2, h3, h4, h5, h6, h7⟩ := h
  refine ⟨h1.grown hG (by simp; omega), hR, h3.grown hG h7 (fun j hj => ?_), h4, h5, h6, Nat.le_trans h7 hG.size⟩
  cases hj
  exact h5
theorem RS.set (h : RS w0 B b r p s k w) (i : Nat) (v : Value) (q : Dg) (hq : p.vals.toArray.setIfInBounds i v = q.vals.toArray) : RS w0 B b r q s k (w.setCell ⟨b, i, none⟩ v) := by
  obtain ⟨h1, h2, h3, h4, h5, h6, h7⟩ := h
  refine ⟨hq ▸ h1.set i v, Bk.set_other h2 (Ne.symm h6) i v, h3.setCell (by exact h4) v, h4, h5, h6, by simpa [World.setCell] using h7⟩
theorem RS.sets (h : RS w0 B b r p s k w) (vs : List Value) (q : Dg) (hq : vs = q.vals) : RS w0 B b r q s k (w.setCells b 0 vs) := by
  obtain ⟨h1, h2, h3, h4, h5, h6, h7⟩ := h
  subst hq
  refine ⟨?_, Bk.sets_other h2 (Ne.symm h6) 0 _, below_sets _ h4 0 _ h3, h4, h5, h6, by rw [size_sets]; exact h7⟩
  have := Bk.sets q.vals 0 _ _ h1
  rw [puts_whole p.vals.toArray q.vals rfl] at this
  exact this
end
set_option maxRecDepth 100000 in
set_option maxHeartbeats 400000 in
theorem read_any (t : ByteArray) (w : World) (ht : t.size ≤ 70000) (h8 : 8 ≤ t.size) :
    Calls Tryd.prog 10 #[.string t] w fun e w' => e = .returned (.tuple #[.agg (dpkt t).vals.toArray, .int .i64 (wd t.data.toList 2 : Nat)]) ∧ Below w.heap.size w w' := by
  have hm : t.size ≤ maxLen := by unfold maxLen; omega
  have HM := Lib.hid hm
  clear hm
  have F0 : Hid (numOf (t.extract 0 (0 + 2)).data.toList = wd t.data.toList 0) := Lib.hid (num_wd t 0 0 rfl (by omega))
  have F2 : Hid (numOf (t.extract 2 (2 + 2)).data.toList = wd t.data.toList 1) := Lib.hid (num_wd t 2 1 rfl (by omega))
  have F4 : Hid (numOf (t.extract 4 (4 + 2)).data.toList = wd t.data.toList 2) := Lib.hid (num_wd t 4 2 rfl (by omega))
  have F6 : Hid (numOf (t.extract 6 (6 + 2)).data.toList = wd t.data.toList 3) := Lib.hid (num_wd t 6 3 rfl (by omega))
  have HD : Hid (dpkt t = ⟨(wd t.data.toList 0 : Nat), (wd t.data.toList 1 : Nat), (wd t.data.toList 3 : Nat), t.extract 8 t.size⟩) := Lib.hid rfl
  generalize dpkt t = Q at *
  generalize wd t.data.toList 0 = x0 at *
  generalize wd t.data.toList 1 = x1 at *
  generalize wd t.data.toList 2 = x2 at *
  generalize wd t.data.toList 3 = x3 at *
  have HZ0 := Lib.hid (bk_new w 24 dg0.vals.toArray)
  go_enter Tryd.func10, Tryd.ntmps10
  go_wp2_with fail
  refine (new_any t _).mono ?_
  rintro e w1 ⟨rfl, hw1⟩
  have hR1 := hw1 ▸ Rd.new _ t
  have hK1 : Bk w1 w.heap.size 24 dg0.vals.toArray := hw1 ▸ HZ0.out.alloc _
  have hB1 : Below w.heap.size w w1 := hw1 ▸ ((Below.refl _ _).alloc (Nat.le_refl _) _).alloc (by simp) _
  have hS1 : RS w w.heap.size w.heap.size (w.heap.size + 1) dg0 t 0 w1 := ⟨hK1, by simpa using hR1, hB1, Nat.le_refl _, by omega, by omega, hB1.size⟩
  clear hw1 hR1 hK1 hB1 HZ0
  have HS1 := Lib.hid hS1
  clear hS1
  have hS := HS1.out
  go_wp2_with fail
  refine (u16_of _ _ (number_ok (show Rd _ (w.heap.size + 1) t 0 0 from hS.2.1) HM.out 2 (by decide) (by omega)) two_read).mono ?_
  rintro e w2 ⟨rfl, hR, hG⟩
  rw [F0.out]
  have hS2 : RS w w.heap.size w.heap.size (w.heap.size + 1) _ t 2 w2 := hS.next hR hG
  have c := hS2.1.c 0 _ rfl
  have z := hS2.1.z 0
  have HSx := Lib.hid hS2
  clear hS hS2 hR hG
  go_wp2_with fail
  have HS2 : Hid (RS w w.heap.size w.heap.size (w.heap.size + 1) ⟨(x0 : Nat), 0, 0, ⟨#[]⟩⟩ t 2 _) := Lib.hid (HSx.out.set 0 (.int .i64 (x0 : Nat)) ⟨(x0 : Nat), 0, 0, ⟨#[]⟩⟩ rfl)
  clear c z HSx
  clear HS1
  have hS := HS2.out
  go_wp2_with fail
  refine (u16_of _ _ (number_ok (show Rd _ (w.heap.size + 1) t 2 0 from hS.2.1) HM.out 2 (by decide) (by omega)) two_read).mono ?_
  rintro e w3 ⟨rfl, hR, hG⟩
  rw [F2.out]
  have hS2 : RS w w.heap.size w.heap.size (w.heap.size + 1) _ t 4 w3 := hS.next hR hG
  have c := hS2.1.c 1 _ rfl
  have z := hS2.1.z 1
  have HSx := Lib.hid hS2
  clear hS hS2 hR hG
  go_wp2_with fail
  have HS3 : Hid (RS w w.heap.size w.heap.size (w.heap.size + 1) ⟨(x0 : Nat), (x1 : Nat), 0, ⟨#[]⟩⟩ t 4 _) := Lib.hid (HSx.out.set 1 (.int .i64 (x1 : Nat)) ⟨(x0 : Nat), (x1 : Nat), 0, ⟨#[]⟩⟩ rfl)
  clear c z HSx
  clear HS2
  have hS := HS3.out
  go_wp2_with fail
  refine (u16_of _ _ (number_ok (show Rd _ (w.heap.size + 1) t 4 0 from hS.2.1) HM.out 2 (by decide) (by omega)) two_read).mono ?_
  rintro e w4 ⟨rfl, hR, hG⟩
  rw [F4.out]
  have hS2 : RS w w.heap.size w.heap.size (w.heap.size + 1) _ t 6 w4 := hS.next hR hG
  have HS4 := Lib.hid hS2
  clear hS hS2 hR hG
  clear HS3
  have hS := HS4.out
  go_wp2_with fail
  refine (u16_of _ _ (number_ok (show Rd _ (w.heap.size + 1) t 6 0 from hS.2.1) HM.out 2 (by decide) (by omega)) two_read).mono ?_
  rintro e w5 ⟨rfl, hR, hG⟩
  rw [F6.out]
  have hS2 : RS w w.heap.size w.heap.size (w.heap.size + 1) _ t 8 w5 := hS.next hR hG
  have c := hS2.1.c 2 _ rfl
  have z := hS2.1.z 2
  have HSx := Lib.hid hS2
  clear hS hS2 hR hG
  go_wp2_with fail
  have HS5 : Hid (RS w w.heap.size w.heap.size (w.heap.size + 1) ⟨(x0 : Nat), (x1 : Nat), (x3 : Nat), ⟨#[]⟩⟩ t 8 _) := Lib.hid (HSx.out.set 2 (.int .i64 (x3 : Nat)) ⟨(x0 : Nat), (x1 : Nat), (x3 : Nat), ⟨#[]⟩⟩ rfl)
  clear c z HSx
  clear HS4
  have hS := HS5.out
  go_wp2_with fail
  refine (rest_ok (show Rd _ (w.heap.size + 1) t 8 0 from hS.2.1) h8).mono ?_
  rintro e w6 ⟨rfl, hR, hG⟩
  have hS2 : RS w w.heap.size w.heap.size (w.heap.size + 1) _ t t.size w6 := hS.next hR hG
  have c := hS2.1.c 3 _ rfl
  have z := hS2.1.z 3
  have hSf : RS w w.heap.size w.heap.size (w.heap.size + 1) Q t t.size (w6.setCell ⟨w.heap.size, 3, none⟩ (.string (t.extract 8 t.size))) := by rw [HD.out]; exact hS2.set 3 (.string (t.extract 8 t.size)) _ rfl
  obtain ⟨VL, hVL⟩ : ∃ VL, VL = Q.vals := ⟨_, rfl⟩
  have hrf' : (w6.setCell ⟨w.heap.size, 3, none⟩ (.string (t.extract 8 t.size))).rangeAt w.heap.size 0 VL := by rw [hVL]; exact hSf.1.range
  have htf' : (w6.setCell ⟨w.heap.size, 3, none⟩ (.string (t.extract 8 t.size))).there w.heap.size 0 VL.toArray.size := by rw [hVL]; exact hSf.1.there' 0 4 (Nat.le_refl _)
  have HIv := Lib.hid (show (Tryd.prog.info? 24).map (·.size) = some VL.length by rw [hVL]; exact Tryd.infoDg Q)
  have HOv := Lib.hid (show VL.toArray.all (·.oneCell') = true by rw [hVL]; exact dvals_one Q)
  have HVL := Lib.hid hVL
  have HSf := Lib.hid hSf
  clear hS hS2 hR hG hSf HS5 hVL
  go_wp2_with (first | (refine wpList_load_mid rfl 24 _ rfl w.heap.size 0 rfl VL _ hrf' Tryd.underlying24 rfl HIv.out ?_) | (refine wpList_store_mid rfl 24 _ _ rfl w.heap.size 0 VL.toArray rfl rfl htf' HIv.out HOv.out ?_))
  clear c z hrf' htf'
  have hS := HSf.out.sets VL Q HVL.out
  have hrg : ((w6.setCell ⟨w.heap.size, 3, none⟩ (.string (t.extract 8 t.size))).setCells w.heap.size 0 VL).rangeAt w.heap.size 0 VL := by
    have := hS.1.range
    rw [show Q.vals.toArray.toList = VL from HVL.out.symm] at this
    exact this
  refine bodyPost_ret (v := .tuple #[.agg VL.toArray, .int .i64 (x2 : Nat)]) ?_ rfl ⟨by rw [HVL.out], hS.2.2.1⟩
  exact results_cell2 rfl rfl rfl (run_loadVar_mid _ w.heap.size 0 24 VL _ hrg Tryd.underlying24 rfl HIv.out)

set_option maxRecDepth 100000 in
theorem parse_short (s : ByteArray) (w : World) (h : s.size < 8) :
    Calls Tryd.prog 5 #[.string s] w fun e w' => ∃ x, e = .returned (.tuple #[.agg dg0.vals.toArray, x]) ∧ ErrV w.heap.size 7 x w' ∧ Below w.heap.size w w' := by
  have hI : (s.size : Int) < 8 := by omega
  have d1 := decide_eq_true hI
  clear h
  have HZ0 := Lib.hid (bk_new w 24 dg0.vals.toArray)
  have HBz := Lib.hid (show Below w.heap.size w (w.alloc (.cells dg0.vals.toArray 24)) from (Below.refl _ _).alloc (Nat.le_refl _) _)
  have HI : Hid ((Tryd.prog.info? 24).map (·.size) = some 4) := Lib.hid (Tryd.infoDg dg0)
  have HO : Hid (dg0.vals.toArray.all (·.oneCell') = true) := Lib.hid (dvals_one dg0)
  go_enter Tryd.func5, Tryd.ntmps5
  go_wp2_with fail
  refine (fault_any 7 _).mono ?_
  rintro e w1 ⟨rfl, hw1⟩
  have hk1 : Bk w1 w.heap.size 24 dg0.vals.toArray := hw1 ▸ HZ0.out.alloc _
  have hb1 : Below w.heap.size w w1 := hw1 ▸ HBz.out.alloc (by simp) _
  have he1 : ErrV (w.heap.size + 1) 7 (.iface 38 (.pointer (some ⟨w.heap.size + 1, 0, none⟩))) w1 := .inr ⟨by decide, _, rfl, hw1 ▸ Flt.newAt _ 7 0 _ (by simp), Nat.le_refl _⟩
  clear hw1
  have ht := hk1.there 4 (Nat.le_refl _)
  have HK := Lib.hid hk1
  have HB := Lib.hid hb1
  have HE := Lib.hid he1
  clear hk1 hb1 he1
  go_wp2_with (refine wpList_store_mid rfl 24 _ _ rfl w.heap.size 0 dg0.vals.toArray rfl rfl ht HI.out HO.out ?_)
  have hk5 := Bk.sets dg0.vals 0 _ _ HK.out
  rw [puts_whole dg0.vals.toArray dg0.vals rfl] at hk5
  refine bodyPost_ret (v := .tuple #[.agg dg0.vals.toArray, .iface 38 (.pointer (some ⟨w.heap.size + 1, 0, none⟩))]) ?_ rfl ⟨_, rfl, (err_sets HE.out (Nat.lt_succ_self _) _).le (Nat.le_succ _), below_sets _ (Nat.le_refl _) 0 _ HB.out⟩
  exact results_cell2 rfl rfl rfl (run_loadVar_mid _ w.heap.size 0 24 dg0.vals _ hk5.range Tryd.underlying24 rfl HI.out)
set_option maxRecDepth 100000 in
set_option maxHeartbeats 400000 in
theorem parse_form (s : ByteArray) (w : World) (h8 : ¬ s.size < 8) (hs : s.size ≤ 70000) (hc : wd s.data.toList 2 ≠ s.size) :
    Calls Tryd.prog 5 #[.string s] w fun e w' => ∃ x, e = .returned (.tuple #[.agg dg0.vals.toArray, x]) ∧ ErrV w.heap.size 8 x w' ∧ Below w.heap.size w w' := by
  have hI : ¬ (s.size : Int) < 8 := by omega
  have d1 := decide_eq_false hI
  have m : (((wd s.data.toList 2 : Nat) : Int) != ((s.size : Nat) : Int)) = true := by rw [bne_iff_ne]; omega
  have HR : Hid (∀ W, Calls Tryd.prog 10 #[.string s] W fun e w' => e = .returned (.tuple #[.agg #[.int .i64 (dpkt s).fr, .int .i64 (dpkt s).dst, .int .i64 (dpkt s).sm, .string (dpkt s).data], .int .i64 (wd s.data.toList 2 : Nat)]) ∧ Below W.heap.size W w') := Lib.hid (fun W => read_any s W hs (by omega))
  have HD : Hid ((dpkt s).vals = [.int .i64 (dpkt s).fr, .int .i64 (dpkt s).dst, .int .i64 (dpkt s).sm, .string (dpkt s).data]) := Lib.hid rfl
  generalize (dpkt s).vals = QV at *
  generalize (dpkt s).fr = x0 at *
  generalize (dpkt s).dst = x1 at *
  generalize (dpkt s).sm = x3 at *
  generalize (dpkt s).data = xd at *
  generalize wd s.data.toList 2 = x2 at *
  have HZ0 := Lib.hid (bk_new w 24 dg0.vals.toArray)
  have HBz := Lib.hid (show Below w.heap.size w (w.alloc (.cells dg0.vals.toArray 24)) from (Below.refl _ _).alloc (Nat.le_refl _) _)
  have HI : Hid ((Tryd.prog.info? 24).map (·.size) = some 4) := Lib.hid (Tryd.infoDg dg0)
  have HO : Hid (dg0.vals.toArray.all (·.oneCell') = true) := Lib.hid (dvals_one dg0)
  clear h8 hs hc
  go_enter Tryd.func5, Tryd.ntmps5
  go_wp2_with fail
  refine (HR.out _).mono ?_
  rintro e w1 ⟨rfl, b1⟩
  have hK : Bk (w1.alloc (.cells #[.int .i64 x0, .int .i64 x1, .int .i64 x3, .string xd] 24)) w.heap.size 24 dg0.vals.toArray := (HZ0.out.below b1 HZ0.out.lt).alloc _
  have hbk : Bk (w1.alloc (.cells #[.int .i64 x0, .int .i64 x1, .int .i64 x3, .string xd] 24)) w1.heap.size 24 ([.int .i64 x0, .int .i64 x1, .int .i64 x3, .string xd] : List Value).toArray := bk_new _ _ _
  have hB : Below w.heap.size w (w1.alloc (.cells #[.int .i64 x0, .int .i64 x1, .int .i64 x3, .string xd] 24)) := (HBz.out.trans (b1.mono (by simp))).alloc (by have := b1.size; simp at this; omega) _
  have hL : w.heap.size < w1.heap.size := by have := b1.size; simp at this; omega
  have c0 := hbk.at (i := 0) rfl
  have c1 := hbk.at (i := 1) rfl
  have c2 := hbk.at (i := 2) rfl
  have c3 := hbk.at (i := 3) rfl
  have hL2 : w.heap.size < (w1.alloc (.cells #[.int .i64 x0, .int .i64 x1, .int .i64 x3, .string xd] 24)).heap.size := by simp; omega
  generalize hw2 : w1.alloc (.cells #[.int .i64 x0, .int .i64 x1, .int .i64 x3, .string xd] 24) = w2 at *
  have HK2 := Lib.hid hK
  have HB2 := Lib.hid hB
  have HL := Lib.hid hL
  have HL2 := Lib.hid hL2
  clear hK hB hL hL2 hbk b1 HZ0 HBz HR
  go_upto_region 4 with (fail)
  clear hw2
  go_wp2_with fail
  refine (fault_any 8 _).mono ?_
  rintro e w3 ⟨rfl, hw3⟩
  have hk1 : Bk w3 w.heap.size 24 dg0.vals.toArray := hw3 ▸ HK2.out.alloc _
  have hb1 : Below w.heap.size w w3 := hw3 ▸ HB2.out.alloc (Nat.le_of_lt HL2.out) _
  have he1 : ErrV (w.heap.size + 1) 8 (.iface 38 (.pointer (some ⟨w2.heap.size, 0, none⟩))) w3 := .inr ⟨by decide, _, rfl, hw3 ▸ Flt.new w2 8 0, HL2.out⟩
  clear hw3
  have ht := hk1.there 4 (Nat.le_refl _)
  have HK := Lib.hid hk1
  have HB := Lib.hid hb1
  have HE := Lib.hid he1
  clear hk1 hb1 he1 c0 c1 c2 c3 HK2 HB2
  go_wp2_with (refine wpList_store_mid rfl 24 _ _ rfl w.heap.size 0 dg0.vals.toArray rfl rfl ht HI.out HO.out ?_)
  have hk5 := Bk.sets dg0.vals 0 _ _ HK.out
  rw [puts_whole dg0.vals.toArray dg0.vals rfl] at hk5
  refine bodyPost_ret (v := .tuple #[.agg dg0.vals.toArray, .iface 38 (.pointer (some ⟨w2.heap.size, 0, none⟩))]) ?_ rfl ⟨_, rfl, (err_sets HE.out (Nat.lt_succ_self _) _).le (Nat.le_succ _), below_sets _ (Nat.le_refl _) 0 _ HB.out⟩
  exact results_cell2 rfl rfl rfl (run_loadVar_mid _ w.heap.size 0 24 dg0.vals _ hk5.range Tryd.underlying24 rfl HI.out)
set_option maxRecDepth 100000 in
set_option maxHeartbeats 400000 in
theorem parse_ok (s : ByteArray) (w : World) (h8 : ¬ s.size < 8) (hs : s.size ≤ 70000) (hc : wd s.data.toList 2 = s.size) :
    Calls Tryd.prog 5 #[.string s] w fun e w' => e = .returned (.tuple #[.agg (dpkt s).vals.toArray, .nilIface]) ∧ Below w.heap.size w w' := by
  have hI : ¬ (s.size : Int) < 8 := by omega
  have d1 := decide_eq_false hI
  have m : (((wd s.data.toList 2 : Nat) : Int) != ((s.size : Nat) : Int)) = false := by rw [hc]; simp
  have HR : Hid (∀ W, Calls Tryd.prog 10 #[.string s] W fun e w' => e = .returned (.tuple #[.agg #[.int .i64 (dpkt s).fr, .int .i64 (dpkt s).dst, .int .i64 (dpkt s).sm, .string (dpkt s).data], .int .i64 (wd s.data.toList 2 : Nat)]) ∧ Below W.heap.size W w') := Lib.hid (fun W => read_any s W hs (by omega))
  have HD : Hid ((dpkt s).vals = [.int .i64 (dpkt s).fr, .int .i64 (dpkt s).dst, .int .i64 (dpkt s).sm, .string (dpkt s).data]) := Lib.hid rfl
  generalize (dpkt s).vals = QV at *
  generalize (dpkt s).fr = x0 at *
  generalize (dpkt s).dst = x1 at *
  generalize (dpkt s).sm = x3 at *
  generalize (dpkt s).data = xd at *
  generalize wd s.data.toList 2 = x2 at *
  have HZ0 := Lib.hid (bk_new w 24 dg0.vals.toArray)
  have HBz := Lib.hid (show Below w.heap.size w (w.alloc (.cells dg0.vals.toArray 24)) from (Below.refl _ _).alloc (Nat.le_refl _) _)
  have HI : Hid ((Tryd.prog.info? 24).map (·.size) = some 4) := Lib.hid (Tryd.infoDg dg0)
  have HO : Hid (dg0.vals.toArray.all (·.oneCell') = true) := Lib.hid (dvals_one dg0)
  clear h8 hs hc
  go_enter Tryd.func5, Tryd.ntmps5
  go_wp2_with fail
  refine (HR.out _).mono ?_
  rintro e w1 ⟨rfl, b1⟩
  have hK : Bk (w1.alloc (.cells #[.int .i64 x0, .int .i64 x1, .int .i64 x3, .string xd] 24)) w.heap.size 24 dg0.vals.toArray := (HZ0.out.below b1 HZ0.out.lt).alloc _
  have hbk : Bk (w1.alloc (.cells #[.int .i64 x0, .int .i64 x1, .int .i64 x3, .string xd] 24)) w1.heap.size 24 ([.int .i64 x0, .int .i64 x1, .int .i64 x3, .string xd] : List Value).toArray := bk_new _ _ _
  have hB : Below w.heap.size w (w1.alloc (.cells #[.int .i64 x0, .int .i64 x1, .int .i64 x3, .string xd] 24)) := (HBz.out.trans (b1.mono (by simp))).alloc (by have := b1.size; simp at this; omega) _
  have hL : w.heap.size < w1.heap.size := by have := b1.size; simp at this; omega
  have c0 := hbk.at (i := 0) rfl
  have c1 := hbk.at (i := 1) rfl
  have c2 := hbk.at (i := 2) rfl
  have c3 := hbk.at (i := 3) rfl
  have hL2 : w.heap.size < (w1.alloc (.cells #[.int .i64 x0, .int .i64 x1, .int .i64 x3, .string xd] 24)).heap.size := by simp; omega
  generalize hw2 : w1.alloc (.cells #[.int .i64 x0, .int .i64 x1, .int .i64 x3, .string xd] 24) = w2 at *
  have HK2 := Lib.hid hK
  have HB2 := Lib.hid hB
  have HL := Lib.hid hL
  have HL2 := Lib.hid hL2
  clear hK hB hL hL2 hbk b1 HZ0 HBz HR
  go_upto_region 4 with (fail)
  clear hw2
  have ht := HK2.out.there 4 (Nat.le_refl _)
  have HO2 : Hid (([.int .i64 x0, .int .i64 x1, .int .i64 x3, .string xd] : List Value).toArray.all (·.oneCell') = true) := Lib.hid (by simp [Value.oneCell'])
  go_wp2_with (refine wpList_store_mid rfl 24 _ _ rfl w.heap.size 0 ([.int .i64 x0, .int .i64 x1, .int .i64 x3, .string xd] : List Value).toArray rfl rfl ht HI.out HO2.out ?_)
  have hk5 := Bk.sets ([.int .i64 x0, .int .i64 x1, .int .i64 x3, .string xd] : List Value) 0 _ _ HK2.out
  rw [puts_whole dg0.vals.toArray ([.int .i64 x0, .int .i64 x1, .int .i64 x3, .string xd] : List Value) rfl] at hk5
  refine bodyPost_ret (v := .tuple #[.agg ([.int .i64 x0, .int .i64 x1, .int .i64 x3, .string xd] : List Value).toArray, .nilIface]) ?_ rfl ⟨by rw [HD.out], below_sets _ (Nat.le_refl _) 0 _ HB2.out⟩
  exact results_cell2 rfl rfl rfl (run_loadVar_mid _ w.heap.size 0 24 ([.int .i64 x0, .int .i64 x1, .int .i64 x3, .string xd] : List Value) _ hk5.range Tryd.underlying24 rfl HI.out)
theorem parse_any (s : ByteArray) (w : World) (hs : s.size ≤ 70000) :
    Calls Tryd.prog 5 #[.string s] w fun e w' => ∃ x, e = .returned (.tuple #[.agg #[.int .i64 (dans s).fr, .int .i64 (dans s).dst, .int .i64 (dans s).sm, .string (dans s).data], x]) ∧ ErrV w.heap.size (dcode s) x w' ∧ Below w.heap.size w w' := by
  unfold dans
  by_cases h8 : s.size < 8
  · have e : dcode s = 7 := by unfold dcode; rw [if_pos h8]
    rw [e, if_neg (by decide)]
    exact parse_short s w h8
  · by_cases hc : wd s.data.toList 2 = s.size
    · have e : dcode s = 0 := by unfold dcode; rw [if_neg h8, if_neg (fun h => h hc)]
      rw [e, if_pos rfl]
      refine (parse_ok s w h8 hs hc).mono ?_
      rintro e w' ⟨rfl, b⟩
      exact ⟨_, rfl, err_none, b⟩
    · have e : dcode s = 8 := by unfold dcode; rw [if_neg h8, if_pos hc]
      rw [e, if_neg (by decide)]
      exact parse_form s w h8 hs hc
end Go.Proofs.YtiemapkajpfikaaDoor
