/-
  Proved here: the law Ip6Reads answers true, and leaves old memory as it was.
  Conditions: none.
-/
import Derived.Test.YtphemimpkbjfoaaAgain
import Derived.Test.YtphemimpkbjfoaaRefParse
namespace Go.Proofs.Ytphemimpkbjfoaa
open Go.RowKit

theorem rpkt_len (s : ByteArray) : (rpkt s).exts.length ≤ 8 := by
  unfold rpkt
  split
  · exact (parsed s (by assumption)).ok.len
  · exact Nat.zero_le _
/-- What Parse of the package answers: the packet that the document's Parse answers, and its code as an error. -/
theorem parse_gen (s : ByteArray) (w : World) (hs : s.size ≤ 70000) :
    Calls Try.prog 12 #[.string s] w fun e w' => ∃ v x, e = .returned (.tuple #[.agg ((rpkt s).vals v).toArray, x]) ∧ Exs w' v (rpkt s).exts ∧ v.oneCell' = true ∧ ErrV w.heap.size (pcode s) x w' ∧ Below w.heap.size w w' := by
  unfold rpkt
  by_cases h : pcode s = 0
  · rw [if_pos h]
    refine (parse_ok s w hs h).mono ?_
    rintro e w' ⟨v, rfl, hown, b⟩
    exact ⟨v, _, rfl, exs_own hown, own_one hown, .inl ⟨h, rfl⟩, b⟩
  · rw [if_neg h]
    refine (parse_bad s w hs h).mono ?_
    rintro e w' ⟨f, rfl, hf, hle, b⟩
    exact ⟨_, _, rfl, exs_nil w', rfl, .inr ⟨h, f, rfl, hf, hle⟩, b⟩
set_option maxRecDepth 100000 in
set_option maxHeartbeats 400000 in
theorem ip6Reads_long (s : ByteArray) (w : World) (h : 70000 < s.size) :
    Calls Try.prog 5 #[.string s] w fun e w' => e = .returned (.bool true) ∧ Below w.heap.size w w' := by
  have hI : (70000 : Int) < (s.size : Int) := by omega
  clear h
  go_enter Try.func5, Try.ntmps5
  go_wp2_with fail
  refine (awake_true w).mono ?_
  rintro e w1 ⟨rfl, b1⟩
  have HB := Lib.hid b1
  clear b1
  go_wp2_with fail
  go_ret
  exact ⟨rfl, HB.out⟩
set_option maxRecDepth 100000 in
set_option maxHeartbeats 1000000 in
theorem ip6Reads_main (s : ByteArray) (w : World) (h : ¬ 70000 < s.size) :
    Calls Try.prog 5 #[.string s] w fun e w' => e = .returned (.bool true) ∧ Below w.heap.size w w' := by
  have hI : ¬ (70000 : Int) < (s.size : Int) := by omega
  have C1 := Lib.hid (fun W => parse_gen s W (by omega))
  have C2 := Lib.hid (fun W => rparse_any s W (by omega))
  have hl := rpkt_len s
  generalize rpkt s = p at *
  generalize pcode s = c at *
  have C4 := Lib.hid (fun (W : World) (v v' : Value) (hx : Exs W v p.exts) (hx' : Exs W v' p.exts) => rsame_true p v v' W hx hx' (by omega))
  clear h hl
  obtain ⟨Z, hZ⟩ : ∃ Z, Z = pk0.vals (.slice none 0 0) := ⟨_, rfl⟩
  have hz0 : Z.toArray = #[.int .i64 0, .int .i64 0, .int .i64 0, .int .u8 0, .int .u8 0, .int .u8 0, .int .u8 0, .int .u8 0, .int .u8 0, .int .u8 0, .int .u8 0, .int .u8 0, .int .u8 0, .int .u8 0, .int .u8 0, .int .u8 0, .int .u8 0, .int .u8 0, .int .u8 0, .int .u8 0, .int .u8 0, .int .u8 0, .int .u8 0, .int .u8 0, .int .u8 0, .int .u8 0, .int .u8 0, .int .u8 0, .int .u8 0, .int .u8 0, .int .u8 0, .int .u8 0, .int .u8 0, .int .u8 0, .int .u8 0, .slice none 0 0, .bool false, .int .u32 0, .int .i64 0, .bool false, .int .i64 0, .string ⟨#[]⟩] := by rw [hZ]; exact pk0_vals
  have HZ := Lib.hid hZ
  have HZ0 := Lib.hid hz0
  have HZl : Hid (∀ (p : Pk6) (v : Value), (p.vals v).length = Z.toArray.size) := Lib.hid (fun p v => by rw [List.size_toArray, hZ, vals_len, vals_len])
  clear hZ hz0
  go_enter Try.func5, Try.ntmps5
  go_wp2_with fail
  refine (awake_true w).mono ?_
  rintro e w1 ⟨rfl, b1⟩
  have HK1 := Lib.hid ((Kp.start w).below b1 (Nat.le_refl _))
  clear b1
  go_wp2_with fail
  refine (C1.out w1).mono ?_
  rintro e w2 ⟨v, x, rfl, hxs, hone, herr, b2⟩
  have HK2 := Lib.hid (HK1.out.below b2 (Nat.le_refl _))
  obtain ⟨VE, hVE⟩ : ∃ VE, VE = p.vals v := ⟨_, rfl⟩
  rw [← hVE]
  have HIe : Hid ((Try.prog.info? 31).map (·.size) = some VE.length) := Lib.hid (by rw [hVE]; exact Try.info6 _ _)
  have HOe : Hid (VE.toArray.all (·.oneCell') = true) := Lib.hid (by rw [hVE]; exact vals_one _ _ hone)
  have HX2 := Lib.hid hxs
  have HE2 := Lib.hid herr
  have HVE := Lib.hid hVE
  clear hxs hone herr b2 hVE HK1
  have HLf : Hid (VE.length = Z.toArray.size) := Lib.hid (by rw [HVE.out]; exact HZl.out _ _)
  have HK3 := Lib.hid (HK2.out.put 31 Z.toArray VE HLf.out)
  have ht : (w2.alloc (.cells Z.toArray 31)).there w2.heap.size 0 VE.toArray.size := (bk_new w2 31 Z.toArray).there _ (by rw [List.size_toArray, HLf.out]; exact Nat.le_refl _)
  have hbn : Below w2.heap.size w2 ((w2.alloc (.cells Z.toArray 31)).setCells w2.heap.size 0 VE) := below_sets _ (Nat.le_refl _) 0 _ ((Below.refl _ _).alloc (Nat.le_refl _) _)
  generalize hwn : (w2.alloc (.cells Z.toArray 31)).setCells w2.heap.size 0 VE = w3 at *
  rw [HZ0.out] at hwn ht
  clear HLf
  have HX3 := Lib.hid (HX2.out.below hbn (Nat.le_refl _))
  have HE3 := Lib.hid (HE2.out.below hbn (Nat.le_refl _))
  go_upto_region 6 with (refine wpList_store_mid rfl 31 _ _ rfl w2.heap.size 0 VE.toArray rfl rfl ht HIe.out HOe.out ?_)
  try rw [hwn]
  clear hwn ht hbn HX2 HE2 HK2
  go_wp2_with fail
  refine (C2.out w3).mono ?_
  rintro e w4 ⟨v', rfl, hown, b4⟩
  have HK4 := Lib.hid (HK3.out.below b4 (Nat.le_refl _))
  have HX4 := Lib.hid (HX3.out.below b4 (Nat.le_refl _))
  have HE4 := Lib.hid (HE3.out.below b4 (Nat.le_refl _))
  obtain ⟨VF, hVF⟩ : ∃ VF, VF = p.vals v' := ⟨_, rfl⟩
  rw [← hVF]
  have HIf : Hid ((Try.prog.info? 31).map (·.size) = some VF.length) := Lib.hid (by rw [hVF]; exact Try.info6 _ _)
  have HOf : Hid (VF.toArray.all (·.oneCell') = true) := Lib.hid (by rw [hVF]; exact vals_one _ _ (own_one hown))
  have HY4 := Lib.hid (exs_own hown)
  have HVF := Lib.hid hVF
  clear hown b4 hVF HK3 HX3 HE3
  have HLf : Hid (VF.length = Z.toArray.size) := Lib.hid (by rw [HVF.out]; exact HZl.out _ _)
  have HK5 := Lib.hid (HK4.out.put 31 Z.toArray VF HLf.out)
  have ht : (w4.alloc (.cells Z.toArray 31)).there w4.heap.size 0 VF.toArray.size := (bk_new w4 31 Z.toArray).there _ (by rw [List.size_toArray, HLf.out]; exact Nat.le_refl _)
  have hbn : Below w4.heap.size w4 ((w4.alloc (.cells Z.toArray 31)).setCells w4.heap.size 0 VF) := below_sets _ (Nat.le_refl _) 0 _ ((Below.refl _ _).alloc (Nat.le_refl _) _)
  generalize hwn : (w4.alloc (.cells Z.toArray 31)).setCells w4.heap.size 0 VF = w5 at *
  rw [HZ0.out] at hwn ht
  clear HLf
  have HX5 := Lib.hid (HX4.out.below hbn (Nat.le_refl _))
  have HY5 := Lib.hid (HY4.out.below hbn (Nat.le_refl _))
  have HE5 := Lib.hid (HE4.out.below hbn (Nat.le_refl _))
  go_upto_region 7 with (refine wpList_store_mid rfl 31 _ _ rfl w4.heap.size 0 VF.toArray rfl rfl ht HIf.out HOf.out ?_)
  try rw [hwn]
  clear hwn ht hbn HX4 HY4 HE4 HK4
  have HSm : Hid (Calls Try.prog 23 #[.agg VE.toArray, .agg VF.toArray] w5 fun e w' => e = .returned (.bool true) ∧ Below w5.heap.size w5 w') := Lib.hid (by rw [HVE.out, HVF.out]; exact C4.out w5 v v' HX5.out HY5.out)
  generalize w4.heap.size = b2 at *
  generalize w2.heap.size = b1 at *
  have hrg1 := (HK5.out.1 (b1, 31, VE) (by simp)).range
  have hrg2 := HK5.out.hd.range
  clear HVE HVF HX5 HY5 C1 C2 C4
  go_wp2_with (first | (refine wpList_load_mid rfl 31 _ rfl b1 0 rfl VE _ hrg1 Try.underlying31 rfl HIe.out ?_) | (refine wpList_load_mid rfl 31 _ rfl b2 0 rfl VF _ hrg2 Try.underlying31 rfl HIf.out ?_))
  refine HSm.out.mono ?_
  rintro e w6 ⟨rfl, b6⟩
  have HE6 := Lib.hid (HE5.out.below b6 (Nat.le_refl _))
  have HB6 := Lib.hid (HK5.out.below b6 (Nat.le_refl _)).2.1
  clear b6 HE5 HK5 hrg1 hrg2 HSm
  go_wp2_with fail
  refine (same_any HE6.out).mono ?_
  rintro e w7 ⟨rfl, rfl⟩
  go_wp2_with fail
  go_ret
  exact ⟨rfl, HB6.out⟩
theorem ip6Reads_any (s : ByteArray) (w : World) :
    Calls Try.prog 5 #[.string s] w fun e w' => e = .returned (.bool true) ∧ Below w.heap.size w w' := by
  by_cases h : 70000 < s.size
  · exact ip6Reads_long s w h
  · exact ip6Reads_main s w h
end Go.Proofs.Ytphemimpkbjfoaa
