/-
  Proved here: the law Ip6Back answers true, and leaves old memory as it was.
  Conditions: the packet's sizes are within the form's own reach.
-/
import Derived.Test.YtphemimpkbjfoaaAgain
import Derived.Test.YtphemimpkbjfoaaOpenPk6
import Derived.Test.YtphemimpkbjfoaaGreat
namespace Go.Proofs.Ytphemimpkbjfoaa
open Go.RowKit

theorem gsum_mem (l : List (Int × ByteArray)) : ∀ e ∈ l, min e.2.size 70001 ≤ gsum l := by
  induction l with
  | nil => intro e he; cases he
  | cons x r ih =>
    intro e he
    have h1 : gsum (x :: r) = min x.2.size 70001 + gsum r := by unfold gsum; rw [List.map_cons, List.sum_cons]
    rcases List.mem_cons.1 he with rfl | h
    · omega
    · have := ih e h
      omega
theorem sm_great {p : Pk6} (h : p.great = false) : Sm p := by
  obtain ⟨h1, h2⟩ := great_no h
  refine ⟨h1, by omega, fun e he => ?_⟩
  have := gsum_mem p.exts e he
  omega
/-- A text that is cut by its last byte is no packet. -/
theorem cut_fault (s : ByteArray) (hs : s.size = 40 + hdL s) : pcode (s.extract 0 (s.size - 1)) ≠ 0 := by
  have hz : (s.extract 0 (s.size - 1)).size = s.size - 1 := by simp
  unfold pcode
  by_cases h40 : 40 ≤ (s.extract 0 (s.size - 1)).size
  · rw [dif_pos h40]
    have hL : hdL (s.extract 0 (s.size - 1)) = hdL s := by
      unfold hdL
      rw [ext_list, ext_list, ext_list, List.drop_zero, List.take_take, Nat.min_eq_left (by omega)]
    split
    · decide
    · rw [if_pos (by rw [hL]; omega)]
      decide
  · rw [dif_neg h40]
    decide
set_option maxRecDepth 100000 in
set_option maxHeartbeats 1000000 in
theorem ip6Back_great (p : Pk6) (v : Value) (Y : ByteArray) (w : World) (hx : Exs w v p.exts) (hr : Reach6 p) (hg : p.great = true) :
    Calls Try.prog 7 #[.agg (p.vals v).toArray, .string Y] w fun e w' => e = .returned (.bool true) ∧ Below w.heap.size w w' := by
  obtain ⟨V, hV, hVl, hD, hK⟩ := boxed6 p v w
  have HIv : Hid ((Try.prog.info? 31).map (·.size) = some V.length) := Lib.hid (by rw [hV]; exact Try.info6 p _)
  have HVV := Lib.hid hV
  have CG : Hid (∀ W, Exs W v p.exts → Calls Try.prog 19 #[.agg V.toArray] W fun e w' => e = .returned (.bool true) ∧ Below W.heap.size W w') := Lib.hid (fun W hW => by rw [hV, ← hg]; exact great_any p v W hW hr.len hr.data hr.body)
  have HX1 := Lib.hid (hx.below hK.2.1 (Nat.le_refl _))
  rw [← hV]
  clear hV
  have HK1 := Lib.hid hK
  clear hK hD hx hVl
  generalize hw1 : w.alloc (.cells V.toArray 31) = w1 at *
  go_enter Try.func7, Try.ntmps7
  go_upto_region 1 with (fail)
  clear hw1
  go_wp2_with fail
  refine (awake_true w1).mono ?_
  rintro e w2 ⟨rfl, b2⟩
  have HK2 := Lib.hid (HK1.out.below b2 (Nat.le_refl _))
  have HX2 := Lib.hid (HX1.out.below b2 (Nat.le_refl _))
  have hrg2 := HK2.out.hd.range
  clear b2 HK1 HX1
  go_wp2_with (refine wpList_load_mid rfl 31 _ rfl w.heap.size 0 rfl V _ hrg2 Try.underlying31 rfl HIv.out ?_)
  refine (CG.out w2 HX2.out).mono ?_
  rintro e w3 ⟨rfl, b3⟩
  have HK3 := Lib.hid (HK2.out.below b3 (Nat.le_refl _))
  have HX3 := Lib.hid (HX2.out.below b3 (Nat.le_refl _))
  have hrg3 := HK3.out.hd.range
  clear b3 HK2 HX2 hrg2 CG
  go_wp2_with fail
  go_ret
  exact ⟨rfl, HK3.out.2.1⟩
set_option maxRecDepth 100000 in
set_option maxHeartbeats 1000000 in
theorem ip6Back_long (p : Pk6) (v : Value) (Y : ByteArray) (w : World) (hx : Exs w v p.exts) (hr : Reach6 p) (hg : p.great = false) (hY : 1000 < Y.size) :
    Calls Try.prog 7 #[.agg (p.vals v).toArray, .string Y] w fun e w' => e = .returned (.bool true) ∧ Below w.heap.size w w' := by
  have hYi : (1000 : Int) < (Y.size : Int) := by omega
  clear hY
  obtain ⟨V, hV, hVl, hD, hK⟩ := boxed6 p v w
  have HIv : Hid ((Try.prog.info? 31).map (·.size) = some V.length) := Lib.hid (by rw [hV]; exact Try.info6 p _)
  have HVV := Lib.hid hV
  have CG : Hid (∀ W, Exs W v p.exts → Calls Try.prog 19 #[.agg V.toArray] W fun e w' => e = .returned (.bool false) ∧ Below W.heap.size W w') := Lib.hid (fun W hW => by rw [hV, ← hg]; exact great_any p v W hW hr.len hr.data hr.body)
  have HX1 := Lib.hid (hx.below hK.2.1 (Nat.le_refl _))
  rw [← hV]
  clear hV
  have HK1 := Lib.hid hK
  clear hK hD hx hVl
  generalize hw1 : w.alloc (.cells V.toArray 31) = w1 at *
  go_enter Try.func7, Try.ntmps7
  go_upto_region 1 with (fail)
  clear hw1
  go_wp2_with fail
  refine (awake_true w1).mono ?_
  rintro e w2 ⟨rfl, b2⟩
  have HK2 := Lib.hid (HK1.out.below b2 (Nat.le_refl _))
  have HX2 := Lib.hid (HX1.out.below b2 (Nat.le_refl _))
  have hrg2 := HK2.out.hd.range
  clear b2 HK1 HX1
  go_wp2_with (refine wpList_load_mid rfl 31 _ rfl w.heap.size 0 rfl V _ hrg2 Try.underlying31 rfl HIv.out ?_)
  refine (CG.out w2 HX2.out).mono ?_
  rintro e w3 ⟨rfl, b3⟩
  have HK3 := Lib.hid (HK2.out.below b3 (Nat.le_refl _))
  have HX3 := Lib.hid (HX2.out.below b3 (Nat.le_refl _))
  have hrg3 := HK3.out.hd.range
  clear b3 HK2 HX2 hrg2 CG
  go_wp2_with fail
  go_ret
  exact ⟨rfl, HK3.out.2.1⟩
set_option maxRecDepth 100000 in
set_option maxHeartbeats 1000000 in
theorem ip6Back_bad (p : Pk6) (v : Value) (Y : ByteArray) (w : World) (hx : Exs w v p.exts) (hr : Reach6 p) (hg : p.great = false) (hY : ¬ 1000 < Y.size) (hy : p.why ≠ 0) :
    Calls Try.prog 7 #[.agg (p.vals v).toArray, .string Y] w fun e w' => e = .returned (.bool true) ∧ Below w.heap.size w w' := by
  have hYi : ¬ (1000 : Int) < (Y.size : Int) := by omega
  have hs := sm_great hg
  have C2 := Lib.hid (fun (W : World) (hW : Exs W v p.exts) => bytes_bad p v W hW hs (by rw [bne_iff_ne]; exact hy))
  clear hY hy hs
  generalize p.why = c at *
  obtain ⟨V, hV, hVl, hD, hK⟩ := boxed6 p v w
  have HIv : Hid ((Try.prog.info? 31).map (·.size) = some V.length) := Lib.hid (by rw [hV]; exact Try.info6 p _)
  have HVV := Lib.hid hV
  have CG : Hid (∀ W, Exs W v p.exts → Calls Try.prog 19 #[.agg V.toArray] W fun e w' => e = .returned (.bool false) ∧ Below W.heap.size W w') := Lib.hid (fun W hW => by rw [hV, ← hg]; exact great_any p v W hW hr.len hr.data hr.body)
  have HX1 := Lib.hid (hx.below hK.2.1 (Nat.le_refl _))
  rw [← hV]
  clear hV
  have HK1 := Lib.hid hK
  clear hK hD hx hVl
  generalize hw1 : w.alloc (.cells V.toArray 31) = w1 at *
  go_enter Try.func7, Try.ntmps7
  go_upto_region 1 with (fail)
  clear hw1
  go_wp2_with fail
  refine (awake_true w1).mono ?_
  rintro e w2 ⟨rfl, b2⟩
  have HK2 := Lib.hid (HK1.out.below b2 (Nat.le_refl _))
  have HX2 := Lib.hid (HX1.out.below b2 (Nat.le_refl _))
  have hrg2 := HK2.out.hd.range
  clear b2 HK1 HX1
  go_wp2_with (refine wpList_load_mid rfl 31 _ rfl w.heap.size 0 rfl V _ hrg2 Try.underlying31 rfl HIv.out ?_)
  refine (CG.out w2 HX2.out).mono ?_
  rintro e w3 ⟨rfl, b3⟩
  have HK3 := Lib.hid (HK2.out.below b3 (Nat.le_refl _))
  have HX3 := Lib.hid (HX2.out.below b3 (Nat.le_refl _))
  have hrg3 := HK3.out.hd.range
  clear b3 HK2 HX2 hrg2 CG
  go_wp2_with (refine wpList_load_mid rfl 31 _ rfl w.heap.size 0 rfl V _ hrg3 Try.underlying31 rfl HIv.out ?_)
  rw [HVV.out]
  refine (C2.out w3 HX3.out).mono ?_
  rintro e w4 ⟨f, rfl, _, _, b4⟩
  rw [← HVV.out]
  have HK4 := Lib.hid (HK3.out.below b4 (Nat.le_refl _))
  clear b4 HK3 HX3 C2 hrg3
  go_wp2_with fail
  go_ret
  exact ⟨rfl, HK4.out.2.1⟩
set_option maxRecDepth 100000 in
set_option maxHeartbeats 1000000 in
theorem ip6Back_main (p : Pk6) (v : Value) (Y : ByteArray) (w : World) (hx : Exs w v p.exts) (hr : Reach6 p) (hg : p.great = false) (hY : ¬ 1000 < Y.size) (hw : p.why = 0) :
    Calls Try.prog 7 #[.agg (p.vals v).toArray, .string Y] w fun e w' => e = .returned (.bool true) ∧ Below w.heap.size w w' := by
  have hYi : ¬ (1000 : Int) < (Y.size : Int) := by omega
  have hYs : Y.size ≤ 1000 := by omega
  have hs := sm_great hg
  have ho := why_ok hw
  have hbz := bytes_size p
  have hbh := ho.behind
  have hds : p.data.size ≤ p.behind := by unfold Pk6.behind; omega
  have hpb := parse_back p hw hr.id Y
  have hpe := parse_back p hw hr.id ⟨#[]⟩
  have hE : p.bytes ++ (⟨#[]⟩ : ByteArray) = p.bytes := by apply ba_ext; simp
  rw [hE] at hpe
  have hall := (parsed p.bytes hpe.1).all
  rw [hpe.2] at hall
  have hcut := cut_fault p.bytes (by omega)
  have hED := last_data p
  have hPl := ho.len
  obtain ⟨k, hk⟩ : ∃ k, k = p.bytes.size - p.data.size := ⟨_, rfl⟩
  obtain ⟨m, hm⟩ : ∃ m, m = p.bytes.size - 1 := ⟨_, rfl⟩
  rw [← hk] at hED
  rw [← hm] at hcut
  have hcz : (p.bytes.extract 0 m).size ≤ 70000 := by simp; omega
  have hYz : (p.bytes ++ Y).size ≤ 70000 := by rw [ByteArray.size_append]; omega
  have C2 := Lib.hid (fun (W : World) (hW : Exs W v p.exts) => bytes_ok p v W hW hs hw hr.id)
  have C3 := Lib.hid (fun W => parse_ok (p.bytes ++ Y) W hYz hpb.1)
  rw [hpb.2] at C3
  have C5 := Lib.hid (fun W => parse_bad (p.bytes.extract 0 m) W hcz hcut)
  generalize pcode (p.bytes.extract 0 m) = cc at *
  have C4 := Lib.hid (fun (W : World) (v v' : Value) (hx : Exs W v p.exts) (hx' : Exs W v' p.exts) => rsame_true p v v' W hx hx' (by omega))
  have hkk : (p.bytes.size : Int) - (p.data.size : Int) = (k : Int) := by omega
  have hk1 : (k : Int) ≤ (p.bytes.size : Int) := by omega
  have hmm : (p.bytes.size : Int) - 1 = (m : Int) := by omega
  have hm1 : (m : Int) ≤ (p.bytes.size : Int) := by omega
  have h62 : (40 : Int) + (p.data.size : Int) ≤ (p.bytes.size : Int) := by omega
  have hbs : p.bytes.size ≤ 70000 := by omega
  have hdz : p.data.size ≤ 70000 := by omega
  have kw : IntKind.i64.wrap (k : Int) = (k : Int) := IntWalk.i64_in _ (by omega)
  have km : IntKind.i64.wrap (m : Int) = (m : Int) := IntWalk.i64_in _ (by omega)
  have kd : IntKind.i64.wrap (40 + (p.data.size : Int)) = 40 + (p.data.size : Int) := IntWalk.i64_in _ (by omega)
  clear hY hw hs ho hbz hbh hds hpb hpe hE hall hcut hPl hk hm hcz hYz
  generalize hB : p.bytes = Bs at *
  clear hB
  obtain ⟨Z, hZ⟩ : ∃ Z, Z = pk0.vals (.slice none 0 0) := ⟨_, rfl⟩
  have hz0 : Z.toArray = #[.int .i64 0, .int .i64 0, .int .i64 0, .int .u8 0, .int .u8 0, .int .u8 0, .int .u8 0, .int .u8 0, .int .u8 0, .int .u8 0, .int .u8 0, .int .u8 0, .int .u8 0, .int .u8 0, .int .u8 0, .int .u8 0, .int .u8 0, .int .u8 0, .int .u8 0, .int .u8 0, .int .u8 0, .int .u8 0, .int .u8 0, .int .u8 0, .int .u8 0, .int .u8 0, .int .u8 0, .int .u8 0, .int .u8 0, .int .u8 0, .int .u8 0, .int .u8 0, .int .u8 0, .int .u8 0, .int .u8 0, .slice none 0 0, .bool false, .int .u32 0, .int .i64 0, .bool false, .int .i64 0, .string ⟨#[]⟩] := by rw [hZ]; exact pk0_vals
  have HZ := Lib.hid hZ
  have HZ0 := Lib.hid hz0
  have HZl : Hid (∀ (p : Pk6) (v : Value), (p.vals v).length = Z.toArray.size) := Lib.hid (fun p v => by rw [List.size_toArray, hZ, vals_len, vals_len])
  have HIz : Hid ((Try.prog.info? 31).map (·.size) = some Z.length) := Lib.hid (by rw [hZ]; exact Try.info6 _ _)
  have HOz : Hid (Z.toArray.all (·.oneCell') = true) := Lib.hid (by rw [hZ]; exact vals_one _ _ rfl)
  rw [← hZ] at C5
  clear hZ hz0
  obtain ⟨V, hV, hVl, hD, hK⟩ := boxed6 p v w
  have HIv : Hid ((Try.prog.info? 31).map (·.size) = some V.length) := Lib.hid (by rw [hV]; exact Try.info6 p _)
  have HVV := Lib.hid hV
  have CG : Hid (∀ W, Exs W v p.exts → Calls Try.prog 19 #[.agg V.toArray] W fun e w' => e = .returned (.bool false) ∧ Below W.heap.size W w') := Lib.hid (fun W hW => by rw [hV, ← hg]; exact great_any p v W hW hr.len hr.data hr.body)
  have HX1 := Lib.hid (hx.below hK.2.1 (Nat.le_refl _))
  rw [← hV]
  clear hV
  have HK1 := Lib.hid hK
  clear hK hD hx hVl
  generalize hw1 : w.alloc (.cells V.toArray 31) = w1 at *
  go_enter Try.func7, Try.ntmps7
  go_upto_region 1 with (fail)
  clear hw1
  go_wp2_with fail
  refine (awake_true w1).mono ?_
  rintro e w2 ⟨rfl, b2⟩
  have HK2 := Lib.hid (HK1.out.below b2 (Nat.le_refl _))
  have HX2 := Lib.hid (HX1.out.below b2 (Nat.le_refl _))
  have hrg2 := HK2.out.hd.range
  clear b2 HK1 HX1
  go_wp2_with (refine wpList_load_mid rfl 31 _ rfl w.heap.size 0 rfl V _ hrg2 Try.underlying31 rfl HIv.out ?_)
  refine (CG.out w2 HX2.out).mono ?_
  rintro e w3 ⟨rfl, b3⟩
  have HK3 := Lib.hid (HK2.out.below b3 (Nat.le_refl _))
  have HX3 := Lib.hid (HX2.out.below b3 (Nat.le_refl _))
  have hrg3 := HK3.out.hd.range
  clear b3 HK2 HX2 hrg2 CG
  go_wp2_with (refine wpList_load_mid rfl 31 _ rfl w.heap.size 0 rfl V _ hrg3 Try.underlying31 rfl HIv.out ?_)
  rw [HVV.out]
  refine (C2.out w3 HX3.out).mono ?_
  rintro e w4 ⟨rfl, b4⟩
  rw [← HVV.out]
  have HK4 := Lib.hid (HK3.out.below b4 (Nat.le_refl _))
  have HX4 := Lib.hid (HX3.out.below b4 (Nat.le_refl _))
  clear b4 HK3 HX3 C2 hrg3
  go_wp2_with fail
  refine (C3.out w4).mono ?_
  rintro e w5 ⟨v', rfl, hown, b5⟩
  have HK5 := Lib.hid (HK4.out.below b5 (Nat.le_refl _))
  have HX5 := Lib.hid (HX4.out.below b5 (Nat.le_refl _))
  obtain ⟨VF, hVF⟩ : ∃ VF, VF = p.vals v' := ⟨_, rfl⟩
  rw [← hVF]
  have HIf : Hid ((Try.prog.info? 31).map (·.size) = some VF.length) := Lib.hid (by rw [hVF]; exact Try.info6 _ _)
  have HOf : Hid (VF.toArray.all (·.oneCell') = true) := Lib.hid (by rw [hVF]; exact vals_one _ _ (own_one hown))
  have HY5 := Lib.hid (exs_own hown)
  have HVF := Lib.hid hVF
  clear hown b5 hVF HK4 HX4 C3
  have HLf : Hid (VF.length = Z.toArray.size) := Lib.hid (by rw [HVF.out]; exact HZl.out _ _)
  have HK6 := Lib.hid (HK5.out.put 31 Z.toArray VF HLf.out)
  have ht : (w5.alloc (.cells Z.toArray 31)).there w5.heap.size 0 VF.toArray.size := (bk_new w5 31 Z.toArray).there _ (by rw [List.size_toArray, HLf.out]; exact Nat.le_refl _)
  have hbn : Below w5.heap.size w5 ((w5.alloc (.cells Z.toArray 31)).setCells w5.heap.size 0 VF) := below_sets _ (Nat.le_refl _) 0 _ ((Below.refl _ _).alloc (Nat.le_refl _) _)
  generalize hwn : (w5.alloc (.cells Z.toArray 31)).setCells w5.heap.size 0 VF = w6 at *
  rw [HZ0.out] at hwn ht
  clear HLf
  have HX6 := Lib.hid (HX5.out.below hbn (Nat.le_refl _))
  have HY6 := Lib.hid (HY5.out.below hbn (Nat.le_refl _))
  go_upto_region 9 with (refine wpList_store_mid rfl 31 _ _ rfl w5.heap.size 0 VF.toArray rfl rfl ht HIf.out HOf.out ?_)
  try rw [hwn]
  clear hwn ht hbn HX5 HY5 HK5
  go_wp2_with fail
  refine (C5.out w6).mono ?_
  rintro e w7 ⟨f, rfl, _, _, b7⟩
  have HK7 := Lib.hid (HK6.out.below b7 (Nat.le_refl _))
  have HX7 := Lib.hid (HX6.out.below b7 (Nat.le_refl _))
  have HY7 := Lib.hid (HY6.out.below b7 (Nat.le_refl _))
  clear b7 HK6 HX6 HY6 C5
  obtain ⟨VZ, hVZ⟩ : ∃ VZ, VZ = Z := ⟨_, rfl⟩
  rw [← hVZ]
  rw [← hVZ] at HIz HOz
  have HVZ := Lib.hid hVZ
  clear hVZ
  have HLf : Hid (VZ.length = Z.toArray.size) := Lib.hid (by rw [HVZ.out]; simp)
  have HK8 := Lib.hid (HK7.out.put 31 Z.toArray VZ HLf.out)
  have ht : (w7.alloc (.cells Z.toArray 31)).there w7.heap.size 0 VZ.toArray.size := (bk_new w7 31 Z.toArray).there _ (by rw [List.size_toArray, HLf.out]; exact Nat.le_refl _)
  have hbn : Below w7.heap.size w7 ((w7.alloc (.cells Z.toArray 31)).setCells w7.heap.size 0 VZ) := below_sets _ (Nat.le_refl _) 0 _ ((Below.refl _ _).alloc (Nat.le_refl _) _)
  generalize hwn : (w7.alloc (.cells Z.toArray 31)).setCells w7.heap.size 0 VZ = w8 at *
  rw [HZ0.out] at hwn ht
  clear HLf
  have HX8 := Lib.hid (HX7.out.below hbn (Nat.le_refl _))
  have HY8 := Lib.hid (HY7.out.below hbn (Nat.le_refl _))
  go_upto_region 10 with (refine wpList_store_mid rfl 31 _ _ rfl w7.heap.size 0 VZ.toArray rfl rfl ht HIz.out HOz.out ?_)
  try rw [hwn]
  clear hwn ht hbn HX7 HY7 HK7
  have HK9 := Lib.hid HK8.out.tl
  clear HK8
  have h41 : V[41]? = some (.string p.data) := by rw [HVV.out]; exact vals_tail p v 6
  have HSm : Hid (∀ W, Below w8.heap.size w8 W → Calls Try.prog 23 #[.agg V.toArray, .agg VF.toArray] W fun e w' => e = .returned (.bool true) ∧ Below W.heap.size W w') := Lib.hid (fun W hW => by rw [HVV.out, HVF.out]; exact C4.out W v v' (HX8.out.below hW (Nat.le_refl _)) (HY8.out.below hW (Nat.le_refl _)))
  generalize w5.heap.size = b2 at *
  generalize hb1 : w.heap.size = b1 at *
  generalize p.data = dt at *
  clear HVV HVF HX8 HY8 C4 HVZ HIz HOz HZ HZ0 HZl
  refine wp_region_noPanic ?_
  refine wp_region_held_drew (S := fun w' => Kp w b1 [(b2, 31, VF), (b1, 31, V)] w' ∧ w'.rangeAt b1 0 V ∧ w'.rangeAt b2 0 VF ∧ w'.cell? ⟨b1, 41, none⟩ = some (.string dt)) (by kernel_rfl) (two_loads h41 HK9.out.drew) (fun hHeld => ?_)
  refine wpAnyH_take (i := 0) (oi := { dst := some 45, op := Op.move (Operand.tmp 8), type := 24, pos := "outright.go:23", after := #[], guard := none }) (v := ?_) rfl (by kernel_rfl) (by kernel_rfl) (by kernel_rfl) (fun _ _ _ h => h) (Or.inl ⟨by rfl, ?_⟩) (by assumption) ?_
  rotate_left
  · (intro ww hSw; (try dsimp only at hSw); go_simp; try with_reducible rfl)
  (try simp only [Act.put, List.setIfInBounds_toArray, List.set_cons_zero, List.set_cons_succ])
  refine wpAnyH_take (i := 1) (oi := { dst := some 46, op := Op.binOp BinOp.eql 24 (Operand.tmp 45) (Operand.const Value.nilIface) 24, type := 4, pos := "outright.go:23", after := #[{ on := 0, ground := Ground.data }], guard := none }) (v := ?_) rfl (by kernel_rfl) (by kernel_rfl) (by kernel_rfl) (fun _ _ _ h => h) (Or.inl ⟨by rfl, ?_⟩) (by assumption) ?_
  rotate_left
  · (intro ww hSw; (try dsimp only at hSw); go_simp; try with_reducible rfl)
  (try simp only [Act.put, List.setIfInBounds_toArray, List.set_cons_zero, List.set_cons_succ])
  refine wpAnyH_take (i := 2) (oi := { dst := some 47, op := Op.move (Operand.tmp 46), type := 4, pos := "outright.go:23", after := #[{ on := 1, ground := Ground.data }], guard := none }) (v := ?_) rfl (by kernel_rfl) (by kernel_rfl) (by kernel_rfl) (fun _ _ _ h => h) (Or.inl ⟨by rfl, ?_⟩) (by assumption) ?_
  rotate_left
  · (intro ww hSw; (try dsimp only at hSw); go_simp; try with_reducible rfl)
  (try simp only [Act.put, List.setIfInBounds_toArray, List.set_cons_zero, List.set_cons_succ])
  refine wpAnyH_take (i := 3) (oi := { dst := some 48, op := Op.load 31 (Operand.tmp 2), type := 31, pos := "outright.go:23", after := #[{ on := 2, ground := Ground.guard }], guard := some (2, true) }) (v := .agg (V).toArray) rfl (by kernel_rfl) (by kernel_rfl) (by kernel_rfl) (fun _ _ _ h => h) (yieldsIf_load_mid (by rfl) _ _ rfl (b1) 0 rfl (V) _ (fun ww hSw => hSw.2.1) Try.underlying31 rfl HIv.out) (by assumption) ?_
  (try simp only [Act.put, List.setIfInBounds_toArray, List.set_cons_zero, List.set_cons_succ])
  refine wpAnyH_take (i := 4) (oi := { dst := some 49, op := Op.load 31 (Operand.tmp 7), type := 31, pos := "outright.go:23", after := #[{ on := 2, ground := Ground.guard }], guard := some (2, true) }) (v := .agg (VF).toArray) rfl (by kernel_rfl) (by kernel_rfl) (by kernel_rfl) (fun _ _ _ h => h) (yieldsIf_load_mid (by rfl) _ _ rfl (b2) 0 rfl (VF) _ (fun ww hSw => hSw.2.2.1) Try.underlying31 rfl HIf.out) (by assumption) ?_
  (try simp only [Act.put, List.setIfInBounds_toArray, List.set_cons_zero, List.set_cons_succ])
  refine wpAnyH_ready (rs := [5]) (by kernel_rfl) (by simp) ?_
  refine AllReadyH.cons (o := { dst := some 50, op := Op.call { callee := Callee.value (Operand.func 23), args := #[Operand.tmp 48, Operand.tmp 49], argTypes := #[31, 31] }, type := 4, pos := "outright.go:23", after := #[{ on := 3, ground := Ground.data }, { on := 4, ground := Ground.data }, { on := 2, ground := Ground.chain }, { on := 2, ground := Ground.guard }], guard := some (2, true) }) rfl (fun K hK => ?_) AllReadyH.nil
  go_simp
  ((with_reducible refine (HSm.out _ (Below.refl _ w8).drew).mono ?_); rintro e w9 ⟨rfl, hb9⟩)
  refine hK.out _ _ (two_loads h41 ((And.left hHeld).below hb9 (Nat.le_refl _))) (fun hHeld => ?_)
  clear hK K
  (try simp only [Act.put, List.setIfInBounds_toArray, List.set_cons_zero, List.set_cons_succ])
  refine wpAnyH_take (i := 6) (oi := { dst := some 51, op := Op.pick (Operand.tmp 47) (Operand.tmp 50) (Operand.const (Value.bool false)), type := 4, pos := "outright.go:23", after := #[{ on := 2, ground := Ground.data }, { on := 5, ground := Ground.data }], guard := none }) (v := ?_) rfl (by kernel_rfl) (by kernel_rfl) (by kernel_rfl) (fun _ _ _ h => h) (Or.inl ⟨by rfl, ?_⟩) (by assumption) ?_
  rotate_left
  · (intro ww hSw; (try dsimp only at hSw); go_simp; try with_reducible rfl)
  (try simp only [Act.put, List.setIfInBounds_toArray, List.set_cons_zero, List.set_cons_succ])
  refine wpAnyH_take (i := 7) (oi := { dst := some 52, op := Op.move (Operand.tmp 51), type := 4, pos := "outright.go:23", after := #[{ on := 6, ground := Ground.data }, { on := 5, ground := Ground.chain }], guard := none }) (v := ?_) rfl (by kernel_rfl) (by kernel_rfl) (by kernel_rfl) (fun _ _ _ h => h) (Or.inl ⟨by rfl, ?_⟩) (by assumption) ?_
  rotate_left
  · (intro ww hSw; (try dsimp only at hSw); go_simp; try with_reducible rfl)
  (try simp only [Act.put, List.setIfInBounds_toArray, List.set_cons_zero, List.set_cons_succ])
  refine wpAnyH_take (i := 8) (oi := { dst := some 53, op := Op.move (Operand.tmp 10), type := 24, pos := "outright.go:23", after := #[{ on := 7, ground := Ground.guard }], guard := some (7, true) }) (v := ?_) rfl (by kernel_rfl) (by kernel_rfl) (by kernel_rfl) (fun _ _ _ h => h) (Or.inl ⟨by rfl, ?_⟩) (by assumption) ?_
  rotate_left
  · (intro ww hSw; (try dsimp only at hSw); go_simp; try with_reducible rfl)
  (try simp only [Act.put, List.setIfInBounds_toArray, List.set_cons_zero, List.set_cons_succ])
  refine wpAnyH_take (i := 9) (oi := { dst := some 54, op := Op.binOp BinOp.neq 24 (Operand.tmp 53) (Operand.const Value.nilIface) 24, type := 4, pos := "outright.go:23", after := #[{ on := 8, ground := Ground.data }, { on := 7, ground := Ground.guard }], guard := some (7, true) }) (v := ?_) rfl (by kernel_rfl) (by kernel_rfl) (by kernel_rfl) (fun _ _ _ h => h) (Or.inl ⟨by rfl, ?_⟩) (by assumption) ?_
  rotate_left
  · (intro ww hSw; (try dsimp only at hSw); go_simp; try with_reducible rfl)
  (try simp only [Act.put, List.setIfInBounds_toArray, List.set_cons_zero, List.set_cons_succ])
  refine wpAnyH_take (i := 10) (oi := { dst := some 55, op := Op.pick (Operand.tmp 52) (Operand.tmp 54) (Operand.const (Value.bool false)), type := 4, pos := "outright.go:23", after := #[{ on := 7, ground := Ground.data }, { on := 9, ground := Ground.data }], guard := none }) (v := ?_) rfl (by kernel_rfl) (by kernel_rfl) (by kernel_rfl) (fun _ _ _ h => h) (Or.inl ⟨by rfl, ?_⟩) (by assumption) ?_
  rotate_left
  · (intro ww hSw; (try dsimp only at hSw); go_simp; try with_reducible rfl)
  (try simp only [Act.put, List.setIfInBounds_toArray, List.set_cons_zero, List.set_cons_succ])
  refine wpAnyH_take (i := 11) (oi := { dst := some 56, op := Op.move (Operand.tmp 55), type := 4, pos := "outright.go:23", after := #[{ on := 10, ground := Ground.data }, { on := 7, ground := Ground.chain }], guard := none }) (v := ?_) rfl (by kernel_rfl) (by kernel_rfl) (by kernel_rfl) (fun _ _ _ h => h) (Or.inl ⟨by rfl, ?_⟩) (by assumption) ?_
  rotate_left
  · (intro ww hSw; (try dsimp only at hSw); go_simp; try with_reducible rfl)
  (try simp only [Act.put, List.setIfInBounds_toArray, List.set_cons_zero, List.set_cons_succ])
  refine wpAnyH_take (i := 12) (oi := { dst := some 57, op := Op.move (Operand.tmp 5), type := 9, pos := "outright.go:23", after := #[{ on := 11, ground := Ground.guard }], guard := some (11, true) }) (v := ?_) rfl (by kernel_rfl) (by kernel_rfl) (by kernel_rfl) (fun _ _ _ h => h) (Or.inl ⟨by rfl, ?_⟩) (by assumption) ?_
  rotate_left
  · (intro ww hSw; (try dsimp only at hSw); go_simp; try with_reducible rfl)
  (try simp only [Act.put, List.setIfInBounds_toArray, List.set_cons_zero, List.set_cons_succ])
  refine wpAnyH_take (i := 13) (oi := { dst := some 58, op := Op.call { callee := Callee.builtin Builtin.len, args := #[Operand.tmp 57], argTypes := #[9] }, type := 3, pos := "outright.go:23", after := #[{ on := 12, ground := Ground.data }, { on := 11, ground := Ground.guard }], guard := some (11, true) }) (v := ?_) rfl (by kernel_rfl) (by kernel_rfl) (by kernel_rfl) (fun _ _ _ h => h) (Or.inl ⟨by rfl, ?_⟩) (by assumption) ?_
  rotate_left
  · (intro ww hSw; (try dsimp only at hSw); go_simp; try with_reducible rfl)
  (try simp only [Act.put, List.setIfInBounds_toArray, List.set_cons_zero, List.set_cons_succ])
  refine wpAnyH_take (i := 14) (oi := { dst := some 59, op := Op.fieldAddr 31 (Operand.tmp 2) 11, type := 0, pos := "outright.go:23", after := #[{ on := 11, ground := Ground.guard }], guard := some (11, true) }) (v := ?_) rfl (by kernel_rfl) (by kernel_rfl) (by kernel_rfl) (fun _ _ _ h => h) (Or.inl ⟨by rfl, ?_⟩) (by assumption) ?_
  rotate_left
  · (intro ww hSw; (try dsimp only at hSw); go_simp; try with_reducible rfl)
  (try simp only [Act.put, List.setIfInBounds_toArray, List.set_cons_zero, List.set_cons_succ])
  refine wpAnyH_take (i := 15) (oi := { dst := some 60, op := Op.load 9 (Operand.tmp 59), type := 9, pos := "outright.go:23", after := #[{ on := 14, ground := Ground.data }, { on := 11, ground := Ground.guard }], guard := some (11, true) }) (v := ?_) rfl (by kernel_rfl) (by kernel_rfl) (by kernel_rfl) (fun _ _ _ h => h) (Or.inl ⟨by rfl, ?_⟩) (by assumption) ?_
  rotate_left
  · (intro ww hSw; (try dsimp only at hSw); go_simp; try with_reducible rfl)
  (try simp only [Act.put, List.setIfInBounds_toArray, List.set_cons_zero, List.set_cons_succ])
  refine wpAnyH_take (i := 16) (oi := { dst := some 61, op := Op.call { callee := Callee.builtin Builtin.len, args := #[Operand.tmp 60], argTypes := #[9] }, type := 3, pos := "outright.go:23", after := #[{ on := 15, ground := Ground.data }, { on := 11, ground := Ground.guard }], guard := some (11, true) }) (v := ?_) rfl (by kernel_rfl) (by kernel_rfl) (by kernel_rfl) (fun _ _ _ h => h) (Or.inl ⟨by rfl, ?_⟩) (by assumption) ?_
  rotate_left
  · (intro ww hSw; (try dsimp only at hSw); go_simp; try with_reducible rfl)
  (try simp only [Act.put, List.setIfInBounds_toArray, List.set_cons_zero, List.set_cons_succ])
  refine wpAnyH_take (i := 17) (oi := { dst := some 62, op := Op.binOp BinOp.add 3 (Operand.const (Value.int IntKind.i64 40)) (Operand.tmp 61) 3, type := 3, pos := "outright.go:23", after := #[{ on := 16, ground := Ground.data }, { on := 11, ground := Ground.guard }], guard := some (11, true) }) (v := ?_) rfl (by kernel_rfl) (by kernel_rfl) (by kernel_rfl) (fun _ _ _ h => h) (Or.inl ⟨by rfl, ?_⟩) (by assumption) ?_
  rotate_left
  · (intro ww hSw; (try dsimp only at hSw); go_simp; try with_reducible rfl)
  (try simp only [Act.put, List.setIfInBounds_toArray, List.set_cons_zero, List.set_cons_succ])
  refine wpAnyH_take (i := 18) (oi := { dst := some 63, op := Op.binOp BinOp.geq 3 (Operand.tmp 58) (Operand.tmp 62) 3, type := 4, pos := "outright.go:23", after := #[{ on := 13, ground := Ground.data }, { on := 17, ground := Ground.data }, { on := 11, ground := Ground.guard }], guard := some (11, true) }) (v := ?_) rfl (by kernel_rfl) (by kernel_rfl) (by kernel_rfl) (fun _ _ _ h => h) (Or.inl ⟨by rfl, ?_⟩) (by assumption) ?_
  rotate_left
  · (intro ww hSw; (try dsimp only at hSw); go_simp; try with_reducible rfl)
  (try simp only [Act.put, List.setIfInBounds_toArray, List.set_cons_zero, List.set_cons_succ])
  refine wpAnyH_take (i := 19) (oi := { dst := some 64, op := Op.pick (Operand.tmp 56) (Operand.tmp 63) (Operand.const (Value.bool false)), type := 4, pos := "outright.go:23", after := #[{ on := 11, ground := Ground.data }, { on := 18, ground := Ground.data }], guard := none }) (v := ?_) rfl (by kernel_rfl) (by kernel_rfl) (by kernel_rfl) (fun _ _ _ h => h) (Or.inl ⟨by rfl, ?_⟩) (by assumption) ?_
  rotate_left
  · (intro ww hSw; (try dsimp only at hSw); go_simp; try with_reducible rfl)
  (try simp only [Act.put, List.setIfInBounds_toArray, List.set_cons_zero, List.set_cons_succ])
  refine wpAnyH_take (i := 20) (oi := { dst := some 65, op := Op.move (Operand.tmp 64), type := 4, pos := "outright.go:23", after := #[{ on := 19, ground := Ground.data }, { on := 11, ground := Ground.chain }], guard := none }) (v := ?_) rfl (by kernel_rfl) (by kernel_rfl) (by kernel_rfl) (fun _ _ _ h => h) (Or.inl ⟨by rfl, ?_⟩) (by assumption) ?_
  rotate_left
  · (intro ww hSw; (try dsimp only at hSw); go_simp; try with_reducible rfl)
  (try simp only [Act.put, List.setIfInBounds_toArray, List.set_cons_zero, List.set_cons_succ])
  refine wpAnyH_take (i := 21) (oi := { dst := some 66, op := Op.move (Operand.tmp 5), type := 9, pos := "outright.go:23", after := #[{ on := 20, ground := Ground.guard }], guard := some (20, true) }) (v := ?_) rfl (by kernel_rfl) (by kernel_rfl) (by kernel_rfl) (fun _ _ _ h => h) (Or.inl ⟨by rfl, ?_⟩) (by assumption) ?_
  rotate_left
  · (intro ww hSw; (try dsimp only at hSw); go_simp; try with_reducible rfl)
  (try simp only [Act.put, List.setIfInBounds_toArray, List.set_cons_zero, List.set_cons_succ])
  refine wpAnyH_take (i := 22) (oi := { dst := some 67, op := Op.move (Operand.tmp 5), type := 9, pos := "outright.go:23", after := #[{ on := 20, ground := Ground.guard }], guard := some (20, true) }) (v := ?_) rfl (by kernel_rfl) (by kernel_rfl) (by kernel_rfl) (fun _ _ _ h => h) (Or.inl ⟨by rfl, ?_⟩) (by assumption) ?_
  rotate_left
  · (intro ww hSw; (try dsimp only at hSw); go_simp; try with_reducible rfl)
  (try simp only [Act.put, List.setIfInBounds_toArray, List.set_cons_zero, List.set_cons_succ])
  refine wpAnyH_take (i := 23) (oi := { dst := some 68, op := Op.call { callee := Callee.builtin Builtin.len, args := #[Operand.tmp 67], argTypes := #[9] }, type := 3, pos := "outright.go:23", after := #[{ on := 22, ground := Ground.data }, { on := 20, ground := Ground.guard }], guard := some (20, true) }) (v := ?_) rfl (by kernel_rfl) (by kernel_rfl) (by kernel_rfl) (fun _ _ _ h => h) (Or.inl ⟨by rfl, ?_⟩) (by assumption) ?_
  rotate_left
  · (intro ww hSw; (try dsimp only at hSw); go_simp; try with_reducible rfl)
  (try simp only [Act.put, List.setIfInBounds_toArray, List.set_cons_zero, List.set_cons_succ])
  refine wpAnyH_take (i := 24) (oi := { dst := some 69, op := Op.fieldAddr 31 (Operand.tmp 2) 11, type := 0, pos := "outright.go:23", after := #[{ on := 20, ground := Ground.guard }], guard := some (20, true) }) (v := ?_) rfl (by kernel_rfl) (by kernel_rfl) (by kernel_rfl) (fun _ _ _ h => h) (Or.inl ⟨by rfl, ?_⟩) (by assumption) ?_
  rotate_left
  · (intro ww hSw; (try dsimp only at hSw); go_simp; try with_reducible rfl)
  (try simp only [Act.put, List.setIfInBounds_toArray, List.set_cons_zero, List.set_cons_succ])
  refine wpAnyH_take (i := 25) (oi := { dst := some 70, op := Op.load 9 (Operand.tmp 69), type := 9, pos := "outright.go:23", after := #[{ on := 24, ground := Ground.data }, { on := 20, ground := Ground.guard }], guard := some (20, true) }) (v := ?_) rfl (by kernel_rfl) (by kernel_rfl) (by kernel_rfl) (fun _ _ _ h => h) (Or.inl ⟨by rfl, ?_⟩) (by assumption) ?_
  rotate_left
  · (intro ww hSw; (try dsimp only at hSw); go_simp; try with_reducible rfl)
  (try simp only [Act.put, List.setIfInBounds_toArray, List.set_cons_zero, List.set_cons_succ])
  refine wpAnyH_take (i := 26) (oi := { dst := some 71, op := Op.call { callee := Callee.builtin Builtin.len, args := #[Operand.tmp 70], argTypes := #[9] }, type := 3, pos := "outright.go:23", after := #[{ on := 25, ground := Ground.data }, { on := 20, ground := Ground.guard }], guard := some (20, true) }) (v := ?_) rfl (by kernel_rfl) (by kernel_rfl) (by kernel_rfl) (fun _ _ _ h => h) (Or.inl ⟨by rfl, ?_⟩) (by assumption) ?_
  rotate_left
  · (intro ww hSw; (try dsimp only at hSw); go_simp; try with_reducible rfl)
  (try simp only [Act.put, List.setIfInBounds_toArray, List.set_cons_zero, List.set_cons_succ])
  refine wpAnyH_take (i := 27) (oi := { dst := some 72, op := Op.binOp BinOp.sub 3 (Operand.tmp 68) (Operand.tmp 71) 3, type := 3, pos := "outright.go:23", after := #[{ on := 23, ground := Ground.data }, { on := 26, ground := Ground.data }, { on := 20, ground := Ground.guard }], guard := some (20, true) }) (v := ?_) rfl (by kernel_rfl) (by kernel_rfl) (by kernel_rfl) (fun _ _ _ h => h) (Or.inl ⟨by rfl, ?_⟩) (by assumption) ?_
  rotate_left
  · (intro ww hSw; (try dsimp only at hSw); go_simp; try with_reducible rfl)
  (try simp only [Act.put, List.setIfInBounds_toArray, List.set_cons_zero, List.set_cons_succ])
  refine wpAnyH_take (i := 28) (oi := { dst := some 73, op := Op.slice 9 (Operand.tmp 66) (some (Operand.tmp 72)) none none, type := 9, pos := "outright.go:23", after := #[{ on := 21, ground := Ground.data }, { on := 27, ground := Ground.data }, { on := 20, ground := Ground.guard }], guard := some (20, true) }) (v := ?_) rfl (by kernel_rfl) (by kernel_rfl) (by kernel_rfl) (fun _ _ _ h => h) (Or.inl ⟨by rfl, ?_⟩) (by assumption) ?_
  rotate_left
  · (intro ww hSw; (try dsimp only at hSw); go_simp; try with_reducible rfl)
  (try simp only [Act.put, List.setIfInBounds_toArray, List.set_cons_zero, List.set_cons_succ])
  refine wpAnyH_take (i := 29) (oi := { dst := some 74, op := Op.fieldAddr 31 (Operand.tmp 2) 11, type := 0, pos := "outright.go:23", after := #[{ on := 20, ground := Ground.guard }], guard := some (20, true) }) (v := ?_) rfl (by kernel_rfl) (by kernel_rfl) (by kernel_rfl) (fun _ _ _ h => h) (Or.inl ⟨by rfl, ?_⟩) (by assumption) ?_
  rotate_left
  · (intro ww hSw; (try dsimp only at hSw); go_simp; try with_reducible rfl)
  (try simp only [Act.put, List.setIfInBounds_toArray, List.set_cons_zero, List.set_cons_succ])
  refine wpAnyH_take (i := 30) (oi := { dst := some 75, op := Op.load 9 (Operand.tmp 74), type := 9, pos := "outright.go:23", after := #[{ on := 29, ground := Ground.data }, { on := 20, ground := Ground.guard }], guard := some (20, true) }) (v := ?_) rfl (by kernel_rfl) (by kernel_rfl) (by kernel_rfl) (fun _ _ _ h => h) (Or.inl ⟨by rfl, ?_⟩) (by assumption) ?_
  rotate_left
  · (intro ww hSw; (try dsimp only at hSw); go_simp; try with_reducible rfl)
  (try simp only [Act.put, List.setIfInBounds_toArray, List.set_cons_zero, List.set_cons_succ])
  refine wpAnyH_take (i := 31) (oi := { dst := some 76, op := Op.binOp BinOp.eql 9 (Operand.tmp 73) (Operand.tmp 75) 9, type := 4, pos := "outright.go:23", after := #[{ on := 28, ground := Ground.data }, { on := 30, ground := Ground.data }, { on := 20, ground := Ground.guard }], guard := some (20, true) }) (v := ?_) rfl (by kernel_rfl) (by kernel_rfl) (by kernel_rfl) (fun _ _ _ h => h) (Or.inl ⟨by rfl, ?_⟩) (by assumption) ?_
  rotate_left
  · (intro ww hSw; (try dsimp only at hSw); go_simp; try with_reducible rfl)
  (try simp only [Act.put, List.setIfInBounds_toArray, List.set_cons_zero, List.set_cons_succ])
  refine wpAnyH_take (i := 32) (oi := { dst := some 77, op := Op.pick (Operand.tmp 65) (Operand.tmp 76) (Operand.const (Value.bool false)), type := 4, pos := "outright.go:23", after := #[{ on := 20, ground := Ground.data }, { on := 31, ground := Ground.data }], guard := none }) (v := ?_) rfl (by kernel_rfl) (by kernel_rfl) (by kernel_rfl) (fun _ _ _ h => h) (Or.inl ⟨by rfl, ?_⟩) (by assumption) ?_
  rotate_left
  · (intro ww hSw; (try dsimp only at hSw); go_simp; try with_reducible rfl)
  (try simp only [Act.put, List.setIfInBounds_toArray, List.set_cons_zero, List.set_cons_succ])
  refine wpAnyH_take (i := 33) (oi := { dst := some 4, op := Op.assign (Operand.tmp 77), type := 4, pos := "outright.go:23", after := #[{ on := 32, ground := Ground.data }, { on := 20, ground := Ground.chain }, { on := 0, ground := Ground.phase }, { on := 1, ground := Ground.phase }, { on := 2, ground := Ground.phase }, { on := 3, ground := Ground.phase }, { on := 4, ground := Ground.phase }, { on := 5, ground := Ground.phase }, { on := 6, ground := Ground.phase }, { on := 7, ground := Ground.phase }, { on := 8, ground := Ground.phase }, { on := 9, ground := Ground.phase }, { on := 10, ground := Ground.phase }, { on := 11, ground := Ground.phase }, { on := 12, ground := Ground.phase }, { on := 13, ground := Ground.phase }, { on := 14, ground := Ground.phase }, { on := 15, ground := Ground.phase }, { on := 16, ground := Ground.phase }, { on := 17, ground := Ground.phase }, { on := 18, ground := Ground.phase }, { on := 19, ground := Ground.phase }, { on := 20, ground := Ground.phase }, { on := 21, ground := Ground.phase }, { on := 22, ground := Ground.phase }, { on := 23, ground := Ground.phase }, { on := 24, ground := Ground.phase }, { on := 25, ground := Ground.phase }, { on := 26, ground := Ground.phase }, { on := 27, ground := Ground.phase }, { on := 28, ground := Ground.phase }, { on := 29, ground := Ground.phase }, { on := 30, ground := Ground.phase }, { on := 31, ground := Ground.phase }, { on := 32, ground := Ground.phase }], guard := none }) (v := ?_) rfl (by kernel_rfl) (by kernel_rfl) (by kernel_rfl) (fun _ _ _ h => h) (Or.inl ⟨by rfl, ?_⟩) (by assumption) ?_
  rotate_left
  · (intro ww hSw; (try dsimp only at hSw); go_simp; try with_reducible rfl)
  (try simp only [Act.put, List.setIfInBounds_toArray, List.set_cons_zero, List.set_cons_succ])
  refine wpAnyH_done (by kernel_rfl) ?_ _
  refine NoPanic.normal ?_
  have hf2 := (And.left hHeld).2.1
  have HE := Lib.hid hf2
  clear hf2 hHeld
  go_wp2_with fail
  go_ret
  exact ⟨rfl, by rw [hb1]; exact HE.out⟩
theorem ip6Back_any (p : Pk6) (v : Value) (Y : ByteArray) (w : World) (hx : Exs w v p.exts) (hr : Reach6 p) :
    Calls Try.prog 7 #[.agg (p.vals v).toArray, .string Y] w fun e w' => e = .returned (.bool true) ∧ Below w.heap.size w w' := by
  cases hg : p.great
  · by_cases hY : 1000 < Y.size
    · exact ip6Back_long p v Y w hx hr hg hY
    · by_cases hy : p.why = 0
      · exact ip6Back_main p v Y w hx hr hg hY hy
      · exact ip6Back_bad p v Y w hx hr hg hY hy
  · exact ip6Back_great p v Y w hx hr hg
end Go.Proofs.Ytphemimpkbjfoaa
