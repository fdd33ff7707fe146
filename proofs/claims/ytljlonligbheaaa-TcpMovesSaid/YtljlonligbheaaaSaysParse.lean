/-
  Proved here: what tcp.Parse answers.
  Conditions: texts of at most 70000 bytes.
-/
import Derived.Test.YtljlonligbheaaaSaysRef
namespace Go.Proofs.Ytljlonligbheaaa
open Go.RowKit

/-- What lies in memory while a segment is read. -/
def RS (w0 : World) (B b r : Nat) (d : Sg) (s : ByteArray) (k : Nat) (w : World) : Prop := Bk w b 23 d.vals.toArray ∧ Rd w r s k 0 ∧ Below B w0 w ∧ (Bk w B 23 sg0.vals.toArray ∧ B < b) ∧ B < r ∧ b ≠ r ∧ B < w.heap.size
section
variable {w0 w w' : World} {B b r : Nat} {p : Sg} {s : ByteArray} {k : Nat}
theorem RS.next (h : RS w0 B b r p s k w) {k' : Nat} (hR : Rd w' r s k' 0) (hG : w.grownBy w' (some r)) : RS w0 B b r p s k' w' := by
  obtain ⟨h1, h2, h3, ⟨h4, h4b⟩, h5, h6, h7⟩ := h
  refine ⟨h1.grown hG (by simp; omega), hR, h3.grown hG (Nat.le_of_lt h7) (fun j hj => ?_), ⟨h4.grown hG (by simp; omega), h4b⟩, h5, h6, Nat.lt_of_lt_of_le h7 hG.size⟩
  cases hj
  exact Nat.le_of_lt h5
theorem RS.set (h : RS w0 B b r p s k w) (i : Nat) (v : Value) (q : Sg) (hq : p.vals.toArray.setIfInBounds i v = q.vals.toArray) : RS w0 B b r q s k (w.setCell ⟨b, i, none⟩ v) := by
  obtain ⟨h1, h2, h3, ⟨h4, h4b⟩, h5, h6, h7⟩ := h
  refine ⟨hq ▸ h1.set i v, Bk.set_other h2 (Ne.symm h6) i v, h3.setCell (by exact Nat.le_of_lt h4b) v, ⟨Bk.set_other h4 (by omega) i v, h4b⟩, h5, h6, by simpa [World.setCell] using h7⟩
end
set_option maxRecDepth 100000 in
set_option maxHeartbeats 400000 in
theorem parse_ok (t : ByteArray) (w : World) (ht : t.size ≤ 70000) (hc : tcode t = 0) :
    Calls Try.prog 9 #[.string t] w fun e w' => e = .returned (.tuple #[.agg (tpkt t).vals.toArray, .nilIface]) ∧ Below w.heap.size w w' := by
  have hz := (tcode_ok hc).1
  have hm : t.size ≤ maxLen := by unfold maxLen; omega
  have HM := Lib.hid hm
  have HT := Lib.hid hz
  have F0 : Hid (numOf (t.extract 0 (0 + 2)).data.toList = wd t.data.toList 0) := Lib.hid (num_wd t 0 0 rfl (by omega))
  have F2 : Hid (numOf (t.extract 2 (2 + 2)).data.toList = wd t.data.toList 1) := Lib.hid (num_wd t 2 1 rfl (by omega))
  have HR : Hid (∀ W, Calls Try.prog 20 #[.string t] W fun e w' => e = .returned (.int .i64 0) ∧ W = w') := Lib.hid (fun W => hc ▸ reft_any t W ht)
  have i13 : (13 : Int) < (t.size : Int) := by omega
  have h13 : 13 < t.size := by omega
  have hb3 := byN_at t 13 h13
  have ub3 := byN_lt t 13
  have j1 : IntKind.i64.wrap (((t[13]'h13).toNat : Nat) : Int) = ((byN t 13 : Nat) : Int) := by rw [← hb3]; exact IntWalk.i64_in _ (by omega)
  have j2 : bits .and .i64 ((byN t 13 : Nat) : Int) 63 = ((byN t 13 : Nat) : Int) % 64 := and_low _ 6 (by decide) _ (by decide)
  have HD : Hid (tpkt t = ⟨(wd t.data.toList 0 : Nat), (wd t.data.toList 1 : Nat), ((byN t 13 : Nat) : Int) % 64, t⟩) := Lib.hid rfl
  clear hm hz hb3 ub3 hc ht
  generalize tpkt t = Q at *
  generalize wd t.data.toList 0 = x0 at *
  generalize wd t.data.toList 1 = x1 at *
  generalize ((byN t 13 : Nat) : Int) % 64 = f at *
  have hk0 : Bk (w.alloc (.cells #[.int .i64 0, .int .i64 0, .int .i64 0, .string ⟨#[]⟩] 23)) w.heap.size 23 sg0.vals.toArray := bk_new _ _ _
  have hb0 : Below w.heap.size w (w.alloc (.cells #[.int .i64 0, .int .i64 0, .int .i64 0, .string ⟨#[]⟩] 23)) := (Below.refl _ _).alloc (Nat.le_refl _) _
  have hs0 : (w.alloc (.cells #[.int .i64 0, .int .i64 0, .int .i64 0, .string ⟨#[]⟩] 23)).heap.size = w.heap.size + 1 := by simp
  generalize hw1 : w.alloc (.cells #[.int .i64 0, .int .i64 0, .int .i64 0, .string ⟨#[]⟩] 23) = w1 at *
  have HK0 := Lib.hid hk0
  have HB0 := Lib.hid hb0
  have HS0 := Lib.hid hs0
  clear hk0 hb0 hs0
  have HI : Hid ((Try.prog.info? 23).map (·.size) = some 4) := Lib.hid (Try.infoSg sg0)
  have HO : Hid (([.int .i64 0, .int .i64 0, .int .i64 f, .string t] : List Value).toArray.all (·.oneCell') = true) := Lib.hid (by simp [Value.oneCell'])
  go_enter Try.func9, Try.ntmps9
  go_upto_region 1 with (fail)
  clear hw1
  go_wp2_with fail
  refine (HR.out _).mono ?_
  rintro e w2 ⟨rfl, rfl⟩
  have hth := (bk_new w1 23 sg0.vals.toArray).there 4 (Nat.le_refl _)
  have HN := Lib.hid (Bk.sets ([.int .i64 0, .int .i64 0, .int .i64 f, .string t] : List Value) 0 _ _ (bk_new w1 23 sg0.vals.toArray))
  go_upto_region 5 with (refine wpList_store_mid rfl 23 _ _ rfl w1.heap.size 0 ([.int .i64 0, .int .i64 0, .int .i64 f, .string t] : List Value).toArray rfl rfl hth HI.out HO.out ?_)
  clear j1 j2 hth HI HO
  have hk2 : Bk ((w1.alloc (.cells #[.int .i64 0, .int .i64 0, .int .i64 0, .string ⟨#[]⟩] 23)).setCells w1.heap.size 0 [.int .i64 0, .int .i64 0, .int .i64 f, .string t]) w1.heap.size 23 (Sg.mk 0 0 f t).vals.toArray := by
    have h := HN.out
    rw [puts_whole sg0.vals.toArray [.int .i64 0, .int .i64 0, .int .i64 f, .string t] rfl] at h
    exact h
  have hk3 : Bk ((w1.alloc (.cells #[.int .i64 0, .int .i64 0, .int .i64 0, .string ⟨#[]⟩] 23)).setCells w1.heap.size 0 [.int .i64 0, .int .i64 0, .int .i64 f, .string t]) w.heap.size 23 sg0.vals.toArray := (HK0.out.alloc _).sets_other (Nat.ne_of_lt HK0.out.lt) 0 _
  have hb2 : Below w.heap.size w ((w1.alloc (.cells #[.int .i64 0, .int .i64 0, .int .i64 0, .string ⟨#[]⟩] 23)).setCells w1.heap.size 0 [.int .i64 0, .int .i64 0, .int .i64 f, .string t]) := below_sets _ (Nat.le_of_lt HK0.out.lt) 0 _ (HB0.out.alloc (Nat.le_of_lt HK0.out.lt) _)
  have hs2 : w1.heap.size < ((w1.alloc (.cells #[.int .i64 0, .int .i64 0, .int .i64 0, .string ⟨#[]⟩] 23)).setCells w1.heap.size 0 [.int .i64 0, .int .i64 0, .int .i64 f, .string t]).heap.size := by rw [size_sets]; simp
  have hl := HK0.out.lt
  clear HN HS0 HK0 HB0
  generalize hw2 : (w1.alloc (.cells #[.int .i64 0, .int .i64 0, .int .i64 0, .string ⟨#[]⟩] 23)).setCells w1.heap.size 0 [.int .i64 0, .int .i64 0, .int .i64 f, .string t] = w2 at *
  generalize w1.heap.size = b at *
  have HF2 := Lib.hid (And.intro hk2 (And.intro hk3 (And.intro hb2 (And.intro hs2 hl))))
  clear hk2 hk3 hb2 hs2 hl hw2
  go_wp2_with fail
  refine (new_any t _).mono ?_
  rintro e w3 ⟨rfl, hw3⟩
  have HS1 : Hid (RS w w.heap.size b w2.heap.size (Sg.mk 0 0 f t) t 0 w3) := Lib.hid (by
    obtain ⟨h1, h2, h3, h4, h5⟩ := HF2.out
    subst hw3
    exact ⟨h1.alloc _, Rd.new _ t, h3.alloc (by omega) _, ⟨h2.alloc _, h5⟩, by omega, by omega, by simp; omega⟩)
  clear hw3 HF2
  generalize w2.heap.size = r at *
  have hS := HS1.out
  go_wp2_with fail
  refine (u16_of _ _ (number_ok (show Rd _ r t 0 0 from hS.2.1) HM.out 2 (by decide) (by have := HT.out; omega)) two_read).mono ?_
  rintro e w4 ⟨rfl, hR, hG⟩
  rw [F0.out]
  have hS2 : RS w w.heap.size b r _ t 2 w4 := hS.next hR hG
  have c := hS2.1.c 0 _ rfl
  have z := hS2.1.z 0
  have HSx := Lib.hid hS2
  clear hS hS2 hR hG
  go_wp2_with fail
  have HS2 : Hid (RS w w.heap.size b r ⟨(x0 : Nat), 0, f, t⟩ t 2 _) := Lib.hid (HSx.out.set 0 (.int .i64 (x0 : Nat)) ⟨(x0 : Nat), 0, f, t⟩ rfl)
  clear c z HSx
  clear HS1
  have hS := HS2.out
  go_wp2_with fail
  refine (u16_of _ _ (number_ok (show Rd _ r t 2 0 from hS.2.1) HM.out 2 (by decide) (by have := HT.out; omega)) two_read).mono ?_
  rintro e w5 ⟨rfl, hR, hG⟩
  rw [F2.out]
  have hS2 : RS w w.heap.size b r _ t 4 w5 := hS.next hR hG
  have c := hS2.1.c 1 _ rfl
  have z := hS2.1.z 1
  have hSf : RS w w.heap.size b r Q t 4 (w5.setCell ⟨b, 1, none⟩ (.int .i64 (x1 : Nat))) := by rw [HD.out]; exact hS2.set 1 (.int .i64 (x1 : Nat)) _ rfl
  obtain ⟨VL, hVL⟩ : ∃ VL, VL = Q.vals := ⟨_, rfl⟩
  have hrf : (w5.setCell ⟨b, 1, none⟩ (.int .i64 (x1 : Nat))).rangeAt b 0 VL := by rw [hVL]; exact hSf.1.range
  have htf : (w5.setCell ⟨b, 1, none⟩ (.int .i64 (x1 : Nat))).there w.heap.size 0 VL.toArray.size := by rw [hVL]; exact hSf.2.2.2.1.1.there 4 (Nat.le_refl _)
  have HIv := Lib.hid (show (Try.prog.info? 23).map (·.size) = some VL.length by rw [hVL]; exact Try.infoSg Q)
  have HOv := Lib.hid (show VL.toArray.all (·.oneCell') = true by rw [hVL]; exact svals_one Q)
  have HVL := Lib.hid hVL
  have HSf := Lib.hid hSf
  clear hS hS2 hR hG hSf HS2 hVL
  go_wp2_with (first | (refine wpList_load_mid rfl 23 _ rfl b 0 rfl VL _ hrf Try.underlying23 rfl HIv.out ?_) | (refine wpList_store_mid rfl 23 _ _ rfl w.heap.size 0 VL.toArray rfl rfl htf HIv.out HOv.out ?_))
  clear c z hrf htf
  have hk5 := Bk.sets VL 0 _ _ HSf.out.2.2.2.1.1
  rw [puts_whole sg0.vals.toArray VL (by rw [HVL.out]; rfl)] at hk5
  refine bodyPost_ret (v := .tuple #[.agg VL.toArray, .nilIface]) ?_ rfl ⟨by rw [HVL.out], below_sets _ (Nat.le_refl _) 0 _ HSf.out.2.2.1⟩
  exact results_cell2 rfl rfl rfl (run_loadVar_mid _ w.heap.size 0 23 VL _ hk5.range Try.underlying23 rfl HIv.out)
set_option maxRecDepth 100000 in
theorem parse_bad (s : ByteArray) (w : World) (hs : s.size ≤ 70000) (hc : tcode s ≠ 0) :
    Calls Try.prog 9 #[.string s] w fun e w' => ∃ x, e = .returned (.tuple #[.agg sg0.vals.toArray, x]) ∧ ErrV w.heap.size (tcode s) x w' ∧ Below w.heap.size w w' := by
  have HR := Lib.hid (fun W => reft_any s W hs)
  have HC := Lib.hid hc
  have m : (tcode s != 0) = true := by rw [bne_iff_ne]; exact hc
  clear hc hs
  generalize tcode s = c at *
  have HZ0 := Lib.hid (bk_new w 23 sg0.vals.toArray)
  have HBz := Lib.hid (show Below w.heap.size w (w.alloc (.cells sg0.vals.toArray 23)) from (Below.refl _ _).alloc (Nat.le_refl _) _)
  have HI : Hid ((Try.prog.info? 23).map (·.size) = some 4) := Lib.hid (Try.infoSg sg0)
  have HO : Hid (sg0.vals.toArray.all (·.oneCell') = true) := Lib.hid (svals_one sg0)
  go_enter Try.func9, Try.ntmps9
  go_wp2_with fail
  refine (HR.out _).mono ?_
  rintro e w0 ⟨rfl, rfl⟩
  go_wp2_with fail
  refine (fault_any c _).mono ?_
  rintro e w1 ⟨rfl, hw1⟩
  have hk1 : Bk w1 w.heap.size 23 sg0.vals.toArray := hw1 ▸ HZ0.out.alloc _
  have hb1 : Below w.heap.size w w1 := hw1 ▸ HBz.out.alloc (by simp) _
  have he1 : ErrV (w.heap.size + 1) c (.iface 67 (.pointer (some ⟨w.heap.size + 1, 0, none⟩))) w1 := .inr ⟨HC.out, _, rfl, hw1 ▸ Flt.newAt _ c 0 _ (by simp), Nat.le_refl _⟩
  clear hw1
  have ht := hk1.there 4 (Nat.le_refl _)
  have HK := Lib.hid hk1
  have HB := Lib.hid hb1
  have HE := Lib.hid he1
  clear hk1 hb1 he1
  go_wp2_with (refine wpList_store_mid rfl 23 _ _ rfl w.heap.size 0 sg0.vals.toArray rfl rfl ht HI.out HO.out ?_)
  have hk5 := Bk.sets sg0.vals 0 _ _ HK.out
  rw [puts_whole sg0.vals.toArray sg0.vals rfl] at hk5
  refine bodyPost_ret (v := .tuple #[.agg sg0.vals.toArray, .iface 67 (.pointer (some ⟨w.heap.size + 1, 0, none⟩))]) ?_ rfl ⟨_, rfl, (err_sets HE.out (Nat.lt_succ_self _) _).lo (Nat.le_succ _), below_sets _ (Nat.le_refl _) 0 _ HB.out⟩
  exact results_cell2 rfl rfl rfl (run_loadVar_mid _ w.heap.size 0 23 sg0.vals _ hk5.range Try.underlying23 rfl HI.out)
theorem parse_any (s : ByteArray) (w : World) (hs : s.size ≤ 70000) :
    Calls Try.prog 9 #[.string s] w fun e w' => ∃ x, e = .returned (.tuple #[.agg #[.int .i64 (tans s).fr, .int .i64 (tans s).dst, .int .i64 (tans s).fl, .string (tans s).raw], x]) ∧ ErrV w.heap.size (tcode s) x w' ∧ Below w.heap.size w w' := by
  unfold tans
  by_cases h : tcode s = 0
  · rw [if_pos h, h]
    refine (parse_ok s w hs h).mono ?_
    rintro e w' ⟨rfl, b⟩
    exact ⟨_, rfl, err_none, b⟩
  · rw [if_neg h]
    exact parse_bad s w hs h
end Go.Proofs.Ytljlonligbheaaa
