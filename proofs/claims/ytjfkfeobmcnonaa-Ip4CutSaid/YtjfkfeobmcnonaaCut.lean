/-
  Proved here: the law Ip4Cut answers true, and leaves old memory as it was.
  Conditions: none.
-/
import Derived.Test.YtjfkfeobmcnonaaCutPlain
import Derived.Test.YtjfkfeobmcnonaaLawKit
namespace Go.Proofs.Ytjfkfeobmcnonaa
open Go.RowKit

set_option maxRecDepth 100000 in
set_option maxHeartbeats 400000 in
theorem ip4Cut_long (p : Pkt) (c : Nat) (m : Int) (w : World) (h : 70000 < p.data.size) :
    Calls Try.prog 12 #[.agg p.vals.toArray, .int .u16 (c : Nat), .int .u8 m] w fun e w' => e = .returned (.bool true) ∧ Below w.heap.size w w' := by
  obtain ⟨V, hV⟩ : ∃ V, V = (p).vals := ⟨_, rfl⟩
  have HIV : Hid ((Try.prog.info? 29).map (·.size) = some V.length) := Lib.hid (by rw [hV]; exact Try.infoIp (p))
  have HOV : Hid (V.toArray.all (·.oneCell') = true) := Lib.hid (by rw [hV]; exact vals_one (p))
  have HPV : Hid (∀ q : Pkt, puts q.vals.toArray 0 V = V.toArray) := Lib.hid (fun q => by rw [hV]; exact puts_all q (p))
  have HSV : Hid (V.toArray.size = 17) := Lib.hid (by rw [hV]; rfl)
  have HC : Hid (V[16]? = some (.string p.data) ∧ V[15]? = some (.string p.opts)) := Lib.hid (by rw [hV]; exact ⟨rfl, rfl⟩)
  rw [← hV]
  have HV := Lib.hid hV
  clear hV
  have HQ0 := Lib.hid (QB.new w V)
  go_enter Try.func12, Try.ntmps12
  go_wp2_with fail
  refine (awake_true _).mono ?_
  rintro e w1 ⟨rfl, b1⟩
  have HQw1 := Lib.hid (HQ0.out.below b1 (Nat.le_refl _))
  clear b1 HQ0
  have c16 := HQw1.out.at HC.out.1
  have c15 := HQw1.out.at HC.out.2
  go_wp2_with fail
  go_ret
  exact ⟨rfl, HQw1.out.2.1⟩
set_option maxRecDepth 100000 in
set_option maxHeartbeats 400000 in
theorem ip4Cut_wide (p : Pkt) (c : Nat) (m : Int) (w : World) (h : p.data.size ≤ 70000) (h2 : 1000 < p.opts.size) :
    Calls Try.prog 12 #[.agg p.vals.toArray, .int .u16 (c : Nat), .int .u8 m] w fun e w' => e = .returned (.bool true) ∧ Below w.heap.size w w' := by
  obtain ⟨V, hV⟩ : ∃ V, V = (p).vals := ⟨_, rfl⟩
  have HIV : Hid ((Try.prog.info? 29).map (·.size) = some V.length) := Lib.hid (by rw [hV]; exact Try.infoIp (p))
  have HOV : Hid (V.toArray.all (·.oneCell') = true) := Lib.hid (by rw [hV]; exact vals_one (p))
  have HPV : Hid (∀ q : Pkt, puts q.vals.toArray 0 V = V.toArray) := Lib.hid (fun q => by rw [hV]; exact puts_all q (p))
  have HSV : Hid (V.toArray.size = 17) := Lib.hid (by rw [hV]; rfl)
  have HC : Hid (V[16]? = some (.string p.data) ∧ V[15]? = some (.string p.opts)) := Lib.hid (by rw [hV]; exact ⟨rfl, rfl⟩)
  rw [← hV]
  have HV := Lib.hid hV
  clear hV
  have HQ0 := Lib.hid (QB.new w V)
  go_enter Try.func12, Try.ntmps12
  go_wp2_with fail
  refine (awake_true _).mono ?_
  rintro e w1 ⟨rfl, b1⟩
  have HQw1 := Lib.hid (HQ0.out.below b1 (Nat.le_refl _))
  clear b1 HQ0
  have c16 := HQw1.out.at HC.out.1
  have c15 := HQw1.out.at HC.out.2
  go_wp2_with fail
  go_ret
  exact ⟨rfl, HQw1.out.2.1⟩
set_option maxRecDepth 100000 in
set_option maxHeartbeats 400000 in
theorem ip4Cut_none (p : Pkt) (c : Nat) (m : Int) (w : World) (hd : p.data.size ≤ 70000) (ho : p.opts.size ≤ 1000) (hw : p.why ≠ 0) :
    Calls Try.prog 12 #[.agg p.vals.toArray, .int .u16 (c : Nat), .int .u8 m] w fun e w' => e = .returned (.bool true) ∧ Below w.heap.size w w' := by
  obtain ⟨V, hV⟩ : ∃ V, V = (p).vals := ⟨_, rfl⟩
  have HIV : Hid ((Try.prog.info? 29).map (·.size) = some V.length) := Lib.hid (by rw [hV]; exact Try.infoIp (p))
  have HOV : Hid (V.toArray.all (·.oneCell') = true) := Lib.hid (by rw [hV]; exact vals_one (p))
  have HPV : Hid (∀ q : Pkt, puts q.vals.toArray 0 V = V.toArray) := Lib.hid (fun q => by rw [hV]; exact puts_all q (p))
  have HSV : Hid (V.toArray.size = 17) := Lib.hid (by rw [hV]; rfl)
  have HC : Hid (V[16]? = some (.string p.data) ∧ V[15]? = some (.string p.opts)) := Lib.hid (by rw [hV]; exact ⟨rfl, rfl⟩)
  have HBy : Hid (∀ W, Calls Try.prog 13 #[.agg V.toArray] W (Bad (.string ⟨#[]⟩) p.why W)) := Lib.hid (fun W => by rw [hV]; exact bytes_bad p W hd (bne_iff_ne.2 hw))
  clear hw
  generalize p.why = cc at *
  rw [← hV]
  have HV := Lib.hid hV
  clear hV
  have HQ0 := Lib.hid (QB.new w V)
  go_enter Try.func12, Try.ntmps12
  go_wp2_with fail
  refine (awake_true _).mono ?_
  rintro e w1 ⟨rfl, b1⟩
  have HQw1 := Lib.hid (HQ0.out.below b1 (Nat.le_refl _))
  clear b1 HQ0
  have c16 := HQw1.out.at HC.out.1
  have c15 := HQw1.out.at HC.out.2
  have hr : w1.rangeAt w.heap.size 0 V := HQw1.out.1.range
  go_wp2_with (refine wpList_load_mid rfl 29 _ rfl w.heap.size 0 rfl V _ hr Try.underlying29 rfl HIV.out ?_)
  clear hr c15 c16
  refine (HBy.out _).mono ?_
  rintro e w2 ⟨fb, rfl, hfl, hfb, bb⟩
  have HQw2 := Lib.hid (HQw1.out.below bb (Nat.le_refl _))
  clear bb hfl hfb HQw1
  go_wp2_with fail
  go_ret
  exact ⟨rfl, HQw2.out.2.1⟩
set_option maxRecDepth 100000 in
set_option maxHeartbeats 1000000 in
theorem ip4Cut_some (p : Pkt) (c : Nat) (m : Int) (w : World) (hd : p.data.size ≤ 70000) (ho : p.opts.size ≤ 1000) (hw : p.why = 0) (hc : c < 65536) (m0 : 0 ≤ m) (m1 : m ≤ 255) (hl : 20 + p.opts.size + p.pl + p.data.size + 1 ≤ 65535) :
    Calls Try.prog 12 #[.agg p.vals.toArray, .int .u16 (c : Nat), .int .u8 m] w fun e w' => e = .returned (.bool true) ∧ Below w.heap.size w w' := by
  obtain ⟨V, hV⟩ : ∃ V, V = (p).vals := ⟨_, rfl⟩
  have HIV : Hid ((Try.prog.info? 29).map (·.size) = some V.length) := Lib.hid (by rw [hV]; exact Try.infoIp (p))
  have HOV : Hid (V.toArray.all (·.oneCell') = true) := Lib.hid (by rw [hV]; exact vals_one (p))
  have HPV : Hid (∀ q : Pkt, puts q.vals.toArray 0 V = V.toArray) := Lib.hid (fun q => by rw [hV]; exact puts_all q (p))
  have HSV : Hid (V.toArray.size = 17) := Lib.hid (by rw [hV]; rfl)
  have HC : Hid (V[16]? = some (.string p.data) ∧ V[15]? = some (.string p.opts)) := Lib.hid (by rw [hV]; exact ⟨rfl, rfl⟩)
  obtain ⟨D, hD⟩ : ∃ D, D = p.data ++ strOfNums [m] := ⟨_, rfl⟩
  have HC4 : Hid (V[4]? = some (.int .i64 p.pl)) := Lib.hid (by rw [hV]; rfl)
  have HC6 : Hid (V[6]? = some (.bool p.more)) := Lib.hid (by rw [hV]; rfl)
  have HVM : Hid ((V.toArray.setIfInBounds 6 (.bool false)).setIfInBounds 16 (.string D) = (p.wData D).vals.toArray) := Lib.hid (by rw [hV]; rfl)
  have HCM : Hid ((V.toArray.setIfInBounds 6 (.bool false))[16]? = some (.string p.data)) := Lib.hid (by rw [hV]; rfl)
  have HCN : Hid ((V.toArray.setIfInBounds 6 (.bool false))[6]? = some (.bool false)) := Lib.hid (by rw [hV]; rfl)
  obtain ⟨VQ, hVQ⟩ : ∃ V, V = (p.wData D).vals := ⟨_, rfl⟩
  have HIVQ : Hid ((Try.prog.info? 29).map (·.size) = some VQ.length) := Lib.hid (by rw [hVQ]; exact Try.infoIp (p.wData D))
  have HOVQ : Hid (VQ.toArray.all (·.oneCell') = true) := Lib.hid (by rw [hVQ]; exact vals_one (p.wData D))
  have HPVQ : Hid (∀ q : Pkt, puts q.vals.toArray 0 VQ = VQ.toArray) := Lib.hid (fun q => by rw [hVQ]; exact puts_all q (p.wData D))
  have HSVQ : Hid (VQ.toArray.size = 17) := Lib.hid (by rw [hVQ]; rfl)
  obtain ⟨VZ, hVZ⟩ : ∃ V, V = (pkt0).vals := ⟨_, rfl⟩
  have HIVZ : Hid ((Try.prog.info? 29).map (·.size) = some VZ.length) := Lib.hid (by rw [hVZ]; exact Try.infoIp (pkt0))
  have HOVZ : Hid (VZ.toArray.all (·.oneCell') = true) := Lib.hid (by rw [hVZ]; exact vals_one (pkt0))
  have HPVZ : Hid (∀ q : Pkt, puts q.vals.toArray 0 VZ = VZ.toArray) := Lib.hid (fun q => by rw [hVZ]; exact puts_all q (pkt0))
  have HSVZ : Hid (VZ.toArray.size = 17) := Lib.hid (by rw [hVZ]; rfl)
  have hz := bytes_size p
  obtain ⟨hdz, hlast⟩ := wData_more p m m0 m1 D hD
  have hpl : 0 ≤ p.pl ∧ p.pl ≤ 65528 := by
    obtain ⟨_, _, _, _, _, _, _, _, p0, p1, _⟩ := bnd_pl (why_bnd hw)
    exact ⟨p0, p1⟩
  have hwl := (why_ok hw).2.2.2.2
  have HBy : Hid (∀ W, Calls Try.prog 13 #[.agg V.toArray] W fun e w' => e = .returned (.tuple #[.string p.bytes, .nilIface]) ∧ Below W.heap.size W w') := Lib.hid (fun W => by rw [hV]; exact bytes_ok p W hw)
  have HCC := Lib.hid (fun k (hk : k < p.bytes.size) => cut_code hw k hk)
  have hzl : p.bytes.size ≤ 70000 := by omega
  have HPa : Hid (∀ k W, k < p.bytes.size → Calls Try.prog 15 #[.string (p.bytes.extract 0 k)] W (Bad (.agg VZ.toArray) (pcode (p.bytes.extract 0 k)) W)) := Lib.hid (fun k W hk => by rw [hVZ]; exact parse_bad _ W (by simp; omega) (HCC.out k hk))
  have hq : (p.wData D).why = 0 := by rw [wData_why hw, if_neg (by omega)]
  have HBq : Hid (∀ W, Calls Try.prog 13 #[.agg VQ.toArray] W fun e w' => e = .returned (.tuple #[.string (p.wData D).bytes, .nilIface]) ∧ Below W.heap.size W w') := Lib.hid (fun W => by rw [hVQ]; exact bytes_ok _ W hq)
  have htz : (p.wData D).bytes.size = p.bytes.size + 1 := by rw [wData_size, hdz, hz]; omega
  generalize (p.wData D).bytes = T at *
  have htl : p.bytes.size < T.size := by omega
  generalize p.bytes = X at *
  have hte := hlast X.size rfl htl
  have HTE := Lib.hid hte
  clear hte hq
  have HD := Lib.hid hD
  have HDZ := Lib.hid hdz
  have HVQ := Lib.hid hVQ
  have hmin : 20 ≤ X.size := by omega
  have hopt : p.opts.size ≤ 40 := (why_ok hw).2.1
  have HSZ := Lib.hid hz
  clear hVQ hVZ hw hz HCC hD hdz hlast
  obtain ⟨K, hK, hKlt⟩ : ∃ K : Nat, (c : Int) % (X.size : Int) = (K : Int) ∧ K < X.size := ⟨c % X.size, by simp, Nat.mod_lt _ (by omega)⟩
  rw [← hV]
  have HV := Lib.hid hV
  clear hV
  have HQ0 := Lib.hid (QB.new w V)
  go_enter Try.func12, Try.ntmps12
  go_wp2_with fail
  refine (awake_true _).mono ?_
  rintro e w1 ⟨rfl, b1⟩
  have HQw1 := Lib.hid (HQ0.out.below b1 (Nat.le_refl _))
  clear b1 HQ0
  have c16 := HQw1.out.at HC.out.1
  have c15 := HQw1.out.at HC.out.2
  have hr : w1.rangeAt w.heap.size 0 V := HQw1.out.1.range
  go_wp2_with (refine wpList_load_mid rfl 29 _ rfl w.heap.size 0 rfl V _ hr Try.underlying29 rfl HIV.out ?_)
  clear hr c15 c16
  refine (HBy.out _).mono ?_
  rintro e w2 ⟨rfl, bb⟩
  have HQw2 := Lib.hid (HQw1.out.below bb (Nat.le_refl _))
  clear bb HQw1
  go_wp2_with fail
  refine (HPa.out K _ hKlt).mono ?_
  rintro e w3 ⟨fb, rfl, hfl, hfb, bb⟩
  have HQw3 := Lib.hid (HQw2.out.below bb (Nat.le_refl _))
  clear bb hfl hfb HQw2 hK
  have ht : (w3.alloc (.cells #[.int .i64 0, .int .i64 0, .int .i64 0, .int .i64 0, .int .i64 0, .bool false, .bool false, .int .u8 0, .int .u8 0, .int .u8 0, .int .u8 0, .int .u8 0, .int .u8 0, .int .u8 0, .int .u8 0, .string ⟨#[]⟩, .string ⟨#[]⟩] 29)).there w3.heap.size 0 VZ.toArray.size := by rw [HSVZ.out]; exact (bk_new w3 29 #[.int .i64 0, .int .i64 0, .int .i64 0, .int .i64 0, .int .i64 0, .bool false, .bool false, .int .u8 0, .int .u8 0, .int .u8 0, .int .u8 0, .int .u8 0, .int .u8 0, .int .u8 0, .int .u8 0, .string ⟨#[]⟩, .string ⟨#[]⟩]).there 17 (Nat.le_refl _)
  go_upto_region 9 with (refine wpList_store_mid rfl 29 _ _ rfl w3.heap.size 0 VZ.toArray rfl rfl ht HIVZ.out HOVZ.out ?_)
  have HQw4 := Lib.hid ((HQw3.out.alloc (.cells #[.int .i64 0, .int .i64 0, .int .i64 0, .int .i64 0, .int .i64 0, .bool false, .bool false, .int .u8 0, .int .u8 0, .int .u8 0, .int .u8 0, .int .u8 0, .int .u8 0, .int .u8 0, .int .u8 0, .string ⟨#[]⟩, .string ⟨#[]⟩] 29)).sets (c := w3.heap.size) (Nat.ne_of_lt HQw3.out.1.lt) HQw3.out.2.2 0 VZ)
  clear ht HQw3
  generalize (w3.alloc (.cells #[.int .i64 0, .int .i64 0, .int .i64 0, .int .i64 0, .int .i64 0, .bool false, .bool false, .int .u8 0, .int .u8 0, .int .u8 0, .int .u8 0, .int .u8 0, .int .u8 0, .int .u8 0, .int .u8 0, .string ⟨#[]⟩, .string ⟨#[]⟩] 29)).setCells w3.heap.size 0 VZ = w4 at *
  have hr : w4.rangeAt w.heap.size 0 V := HQw4.out.1.range
  have hr' : (w4.alloc (.cells #[.int .i64 0, .int .i64 0, .int .i64 0, .int .i64 0, .int .i64 0, .bool false, .bool false, .int .u8 0, .int .u8 0, .int .u8 0, .int .u8 0, .int .u8 0, .int .u8 0, .int .u8 0, .int .u8 0, .string ⟨#[]⟩, .string ⟨#[]⟩] 29)).rangeAt w.heap.size 0 V := (HQw4.out.alloc _).1.range
  have ht : (w4.alloc (.cells #[.int .i64 0, .int .i64 0, .int .i64 0, .int .i64 0, .int .i64 0, .bool false, .bool false, .int .u8 0, .int .u8 0, .int .u8 0, .int .u8 0, .int .u8 0, .int .u8 0, .int .u8 0, .int .u8 0, .string ⟨#[]⟩, .string ⟨#[]⟩] 29)).there w4.heap.size 0 V.toArray.size := by rw [HSV.out]; exact (bk_new w4 29 #[.int .i64 0, .int .i64 0, .int .i64 0, .int .i64 0, .int .i64 0, .bool false, .bool false, .int .u8 0, .int .u8 0, .int .u8 0, .int .u8 0, .int .u8 0, .int .u8 0, .int .u8 0, .int .u8 0, .string ⟨#[]⟩, .string ⟨#[]⟩]).there 17 (Nat.le_refl _)
  go_upto_region 10 with (first | (refine wpList_load_mid rfl 29 _ rfl w.heap.size 0 rfl V _ hr Try.underlying29 rfl HIV.out ?_) | (refine wpList_load_mid rfl 29 _ rfl w.heap.size 0 rfl V _ hr' Try.underlying29 rfl HIV.out ?_) | (refine wpList_store_mid rfl 29 _ _ rfl w4.heap.size 0 V.toArray rfl rfl ht HIV.out HOV.out ?_))
  have hK := Bk.sets V 0 _ _ (show Bk _ w4.heap.size 29 pkt0.vals.toArray from bk_new w4 29 #[.int .i64 0, .int .i64 0, .int .i64 0, .int .i64 0, .int .i64 0, .bool false, .bool false, .int .u8 0, .int .u8 0, .int .u8 0, .int .u8 0, .int .u8 0, .int .u8 0, .int .u8 0, .int .u8 0, .string ⟨#[]⟩, .string ⟨#[]⟩])
  rw [HPV.out] at hK
  have HQw5 := Lib.hid ((HQw4.out.alloc (.cells #[.int .i64 0, .int .i64 0, .int .i64 0, .int .i64 0, .int .i64 0, .bool false, .bool false, .int .u8 0, .int .u8 0, .int .u8 0, .int .u8 0, .int .u8 0, .int .u8 0, .int .u8 0, .int .u8 0, .string ⟨#[]⟩, .string ⟨#[]⟩] 29)).sets (c := w4.heap.size) (Nat.ne_of_lt HQw4.out.1.lt) HQw4.out.2.2 0 V)
  have HKw5 := Lib.hid hK
  have HNw5 := Lib.hid (Nat.ne_of_lt HQw4.out.1.lt)
  have HMw5 := Lib.hid HQw4.out.2.2
  clear ht hK hr hr' HQw4
  generalize (w4.alloc (.cells #[.int .i64 0, .int .i64 0, .int .i64 0, .int .i64 0, .int .i64 0, .bool false, .bool false, .int .u8 0, .int .u8 0, .int .u8 0, .int .u8 0, .int .u8 0, .int .u8 0, .int .u8 0, .int .u8 0, .string ⟨#[]⟩, .string ⟨#[]⟩] 29)).setCells w4.heap.size 0 V = w5 at *
  have c6 := HKw5.out.at HC6.out
  have z6 := HKw5.out.z 6
  go_upto_region 11 with (fail)
  clear c6 z6
  have hK := HKw5.out.set 6 (.bool false)
  have HQw6 := Lib.hid (HQw5.out.set (c := w4.heap.size) HNw5.out HMw5.out 6 (.bool false))
  have HKw6 := Lib.hid hK
  clear hK HKw5 HQw5
  generalize w5.setCell ⟨w4.heap.size, 6, none⟩ (.bool false) = w6 at *
  have c16 := HQw6.out.at HC.out.1
  have d16 := fun o : Obj => (HKw6.out.alloc o).c 16 _ HCM.out
  have y16 := fun o : Obj => (HKw6.out.alloc o).z 16
  have hcv := conv1
  have zc := cat_len
  have zs := fun x : Int => (show (strOfNums [x]).size = 1 from rfl)
  have zo : ¬ 9223372036854775807 < p.data.size + 1 := by omega
  go_upto_region 12 with (fail)
  clear c16 d16 y16 hcv zc zs zo
  rw [← HD.out]
  have hK := (HKw6.out.alloc (.cells #[.int .u8 m] 5)).set 16 (.string D)
  rw [HVM.out, ← HVQ.out] at hK
  have HQw7 := Lib.hid ((HQw6.out.alloc (.cells #[.int .u8 m] 5)).set (c := w4.heap.size) HNw5.out HMw5.out 16 (.string D))
  have HKw7 := Lib.hid hK
  clear hK HKw6 HQw6
  generalize (w6.alloc (.cells #[.int .u8 m] 5)).setCell ⟨w4.heap.size, 16, none⟩ (.string D) = w7 at *
  have hr : w7.rangeAt w4.heap.size 0 VQ := HKw7.out.range
  go_wp2_with (refine wpList_load_mid rfl 29 _ rfl w4.heap.size 0 rfl VQ _ hr Try.underlying29 rfl HIVQ.out ?_)
  clear hr
  refine (HBq.out _).mono ?_
  rintro e w8 ⟨rfl, bb⟩
  have HQw8 := Lib.hid (HQw7.out.below bb (Nat.le_refl _))
  clear bb HQw7
  have k5 : ((T.size : Nat) : Int) - 1 = (X.size : Int) := by omega
  have k6 : (((T.size : Nat) : Int) == (X.size : Int) + 1) = true := by rw [beq_iff_eq]; omega
  have k7 : ((X.size : Nat) : Int) < (T.size : Int) := by omega
  have k8 := HTE.out
  go_wp2_with fail
  go_ret
  exact ⟨rfl, HQw8.out.2.1⟩
set_option maxRecDepth 100000 in
set_option maxHeartbeats 1000000 in
theorem ip4Cut_full (p : Pkt) (c : Nat) (m : Int) (w : World) (hd : p.data.size ≤ 70000) (ho : p.opts.size ≤ 1000) (hw : p.why = 0) (hc : c < 65536) (m0 : 0 ≤ m) (m1 : m ≤ 255) (hl : 65535 < 20 + p.opts.size + p.pl + p.data.size + 1) :
    Calls Try.prog 12 #[.agg p.vals.toArray, .int .u16 (c : Nat), .int .u8 m] w fun e w' => e = .returned (.bool true) ∧ Below w.heap.size w w' := by
  obtain ⟨V, hV⟩ : ∃ V, V = (p).vals := ⟨_, rfl⟩
  have HIV : Hid ((Try.prog.info? 29).map (·.size) = some V.length) := Lib.hid (by rw [hV]; exact Try.infoIp (p))
  have HOV : Hid (V.toArray.all (·.oneCell') = true) := Lib.hid (by rw [hV]; exact vals_one (p))
  have HPV : Hid (∀ q : Pkt, puts q.vals.toArray 0 V = V.toArray) := Lib.hid (fun q => by rw [hV]; exact puts_all q (p))
  have HSV : Hid (V.toArray.size = 17) := Lib.hid (by rw [hV]; rfl)
  have HC : Hid (V[16]? = some (.string p.data) ∧ V[15]? = some (.string p.opts)) := Lib.hid (by rw [hV]; exact ⟨rfl, rfl⟩)
  obtain ⟨D, hD⟩ : ∃ D, D = p.data ++ strOfNums [m] := ⟨_, rfl⟩
  have HC4 : Hid (V[4]? = some (.int .i64 p.pl)) := Lib.hid (by rw [hV]; rfl)
  have HC6 : Hid (V[6]? = some (.bool p.more)) := Lib.hid (by rw [hV]; rfl)
  have HVM : Hid ((V.toArray.setIfInBounds 6 (.bool false)).setIfInBounds 16 (.string D) = (p.wData D).vals.toArray) := Lib.hid (by rw [hV]; rfl)
  have HCM : Hid ((V.toArray.setIfInBounds 6 (.bool false))[16]? = some (.string p.data)) := Lib.hid (by rw [hV]; rfl)
  have HCN : Hid ((V.toArray.setIfInBounds 6 (.bool false))[6]? = some (.bool false)) := Lib.hid (by rw [hV]; rfl)
  obtain ⟨VQ, hVQ⟩ : ∃ V, V = (p.wData D).vals := ⟨_, rfl⟩
  have HIVQ : Hid ((Try.prog.info? 29).map (·.size) = some VQ.length) := Lib.hid (by rw [hVQ]; exact Try.infoIp (p.wData D))
  have HOVQ : Hid (VQ.toArray.all (·.oneCell') = true) := Lib.hid (by rw [hVQ]; exact vals_one (p.wData D))
  have HPVQ : Hid (∀ q : Pkt, puts q.vals.toArray 0 VQ = VQ.toArray) := Lib.hid (fun q => by rw [hVQ]; exact puts_all q (p.wData D))
  have HSVQ : Hid (VQ.toArray.size = 17) := Lib.hid (by rw [hVQ]; rfl)
  obtain ⟨VZ, hVZ⟩ : ∃ V, V = (pkt0).vals := ⟨_, rfl⟩
  have HIVZ : Hid ((Try.prog.info? 29).map (·.size) = some VZ.length) := Lib.hid (by rw [hVZ]; exact Try.infoIp (pkt0))
  have HOVZ : Hid (VZ.toArray.all (·.oneCell') = true) := Lib.hid (by rw [hVZ]; exact vals_one (pkt0))
  have HPVZ : Hid (∀ q : Pkt, puts q.vals.toArray 0 VZ = VZ.toArray) := Lib.hid (fun q => by rw [hVZ]; exact puts_all q (pkt0))
  have HSVZ : Hid (VZ.toArray.size = 17) := Lib.hid (by rw [hVZ]; rfl)
  have hz := bytes_size p
  obtain ⟨hdz, hlast⟩ := wData_more p m m0 m1 D hD
  have hpl : 0 ≤ p.pl ∧ p.pl ≤ 65528 := by
    obtain ⟨_, _, _, _, _, _, _, _, p0, p1, _⟩ := bnd_pl (why_bnd hw)
    exact ⟨p0, p1⟩
  have hwl := (why_ok hw).2.2.2.2
  have HBy : Hid (∀ W, Calls Try.prog 13 #[.agg V.toArray] W fun e w' => e = .returned (.tuple #[.string p.bytes, .nilIface]) ∧ Below W.heap.size W w') := Lib.hid (fun W => by rw [hV]; exact bytes_ok p W hw)
  have HCC := Lib.hid (fun k (hk : k < p.bytes.size) => cut_code hw k hk)
  have hzl : p.bytes.size ≤ 70000 := by omega
  have HPa : Hid (∀ k W, k < p.bytes.size → Calls Try.prog 15 #[.string (p.bytes.extract 0 k)] W (Bad (.agg VZ.toArray) (pcode (p.bytes.extract 0 k)) W)) := Lib.hid (fun k W hk => by rw [hVZ]; exact parse_bad _ W (by simp; omega) (HCC.out k hk))
  have hq : (p.wData D).why ≠ 0 := by rw [wData_why hw, if_pos (by omega)]; decide
  have HBq : Hid (∀ W, Calls Try.prog 13 #[.agg VQ.toArray] W (Bad (.string ⟨#[]⟩) (p.wData D).why W)) := Lib.hid (fun W => by rw [hVQ]; exact bytes_bad _ W (by show D.size ≤ 70000; omega) (bne_iff_ne.2 hq))
  clear hq
  generalize (p.wData D).why = cq at *
  have HD := Lib.hid hD
  have HDZ := Lib.hid hdz
  have HVQ := Lib.hid hVQ
  have hmin : 20 ≤ p.bytes.size := by omega
  have hopt : p.opts.size ≤ 40 := (why_ok hw).2.1
  have HSZ := Lib.hid hz
  clear hVQ hVZ hw hz HCC hD hdz hlast
  generalize p.bytes = X at *
  obtain ⟨K, hK, hKlt⟩ : ∃ K : Nat, (c : Int) % (X.size : Int) = (K : Int) ∧ K < X.size := ⟨c % X.size, by simp, Nat.mod_lt _ (by omega)⟩
  rw [← hV]
  have HV := Lib.hid hV
  clear hV
  have HQ0 := Lib.hid (QB.new w V)
  go_enter Try.func12, Try.ntmps12
  go_wp2_with fail
  refine (awake_true _).mono ?_
  rintro e w1 ⟨rfl, b1⟩
  have HQw1 := Lib.hid (HQ0.out.below b1 (Nat.le_refl _))
  clear b1 HQ0
  have c16 := HQw1.out.at HC.out.1
  have c15 := HQw1.out.at HC.out.2
  have hr : w1.rangeAt w.heap.size 0 V := HQw1.out.1.range
  go_wp2_with (refine wpList_load_mid rfl 29 _ rfl w.heap.size 0 rfl V _ hr Try.underlying29 rfl HIV.out ?_)
  clear hr c15 c16
  refine (HBy.out _).mono ?_
  rintro e w2 ⟨rfl, bb⟩
  have HQw2 := Lib.hid (HQw1.out.below bb (Nat.le_refl _))
  clear bb HQw1
  go_wp2_with fail
  refine (HPa.out K _ hKlt).mono ?_
  rintro e w3 ⟨fb, rfl, hfl, hfb, bb⟩
  have HQw3 := Lib.hid (HQw2.out.below bb (Nat.le_refl _))
  clear bb hfl hfb HQw2 hK
  have ht : (w3.alloc (.cells #[.int .i64 0, .int .i64 0, .int .i64 0, .int .i64 0, .int .i64 0, .bool false, .bool false, .int .u8 0, .int .u8 0, .int .u8 0, .int .u8 0, .int .u8 0, .int .u8 0, .int .u8 0, .int .u8 0, .string ⟨#[]⟩, .string ⟨#[]⟩] 29)).there w3.heap.size 0 VZ.toArray.size := by rw [HSVZ.out]; exact (bk_new w3 29 #[.int .i64 0, .int .i64 0, .int .i64 0, .int .i64 0, .int .i64 0, .bool false, .bool false, .int .u8 0, .int .u8 0, .int .u8 0, .int .u8 0, .int .u8 0, .int .u8 0, .int .u8 0, .int .u8 0, .string ⟨#[]⟩, .string ⟨#[]⟩]).there 17 (Nat.le_refl _)
  go_upto_region 9 with (refine wpList_store_mid rfl 29 _ _ rfl w3.heap.size 0 VZ.toArray rfl rfl ht HIVZ.out HOVZ.out ?_)
  have HQw4 := Lib.hid ((HQw3.out.alloc (.cells #[.int .i64 0, .int .i64 0, .int .i64 0, .int .i64 0, .int .i64 0, .bool false, .bool false, .int .u8 0, .int .u8 0, .int .u8 0, .int .u8 0, .int .u8 0, .int .u8 0, .int .u8 0, .int .u8 0, .string ⟨#[]⟩, .string ⟨#[]⟩] 29)).sets (c := w3.heap.size) (Nat.ne_of_lt HQw3.out.1.lt) HQw3.out.2.2 0 VZ)
  clear ht HQw3
  generalize (w3.alloc (.cells #[.int .i64 0, .int .i64 0, .int .i64 0, .int .i64 0, .int .i64 0, .bool false, .bool false, .int .u8 0, .int .u8 0, .int .u8 0, .int .u8 0, .int .u8 0, .int .u8 0, .int .u8 0, .int .u8 0, .string ⟨#[]⟩, .string ⟨#[]⟩] 29)).setCells w3.heap.size 0 VZ = w4 at *
  have hr : w4.rangeAt w.heap.size 0 V := HQw4.out.1.range
  have hr' : (w4.alloc (.cells #[.int .i64 0, .int .i64 0, .int .i64 0, .int .i64 0, .int .i64 0, .bool false, .bool false, .int .u8 0, .int .u8 0, .int .u8 0, .int .u8 0, .int .u8 0, .int .u8 0, .int .u8 0, .int .u8 0, .string ⟨#[]⟩, .string ⟨#[]⟩] 29)).rangeAt w.heap.size 0 V := (HQw4.out.alloc _).1.range
  have ht : (w4.alloc (.cells #[.int .i64 0, .int .i64 0, .int .i64 0, .int .i64 0, .int .i64 0, .bool false, .bool false, .int .u8 0, .int .u8 0, .int .u8 0, .int .u8 0, .int .u8 0, .int .u8 0, .int .u8 0, .int .u8 0, .string ⟨#[]⟩, .string ⟨#[]⟩] 29)).there w4.heap.size 0 V.toArray.size := by rw [HSV.out]; exact (bk_new w4 29 #[.int .i64 0, .int .i64 0, .int .i64 0, .int .i64 0, .int .i64 0, .bool false, .bool false, .int .u8 0, .int .u8 0, .int .u8 0, .int .u8 0, .int .u8 0, .int .u8 0, .int .u8 0, .int .u8 0, .string ⟨#[]⟩, .string ⟨#[]⟩]).there 17 (Nat.le_refl _)
  go_upto_region 10 with (first | (refine wpList_load_mid rfl 29 _ rfl w.heap.size 0 rfl V _ hr Try.underlying29 rfl HIV.out ?_) | (refine wpList_load_mid rfl 29 _ rfl w.heap.size 0 rfl V _ hr' Try.underlying29 rfl HIV.out ?_) | (refine wpList_store_mid rfl 29 _ _ rfl w4.heap.size 0 V.toArray rfl rfl ht HIV.out HOV.out ?_))
  have hK := Bk.sets V 0 _ _ (show Bk _ w4.heap.size 29 pkt0.vals.toArray from bk_new w4 29 #[.int .i64 0, .int .i64 0, .int .i64 0, .int .i64 0, .int .i64 0, .bool false, .bool false, .int .u8 0, .int .u8 0, .int .u8 0, .int .u8 0, .int .u8 0, .int .u8 0, .int .u8 0, .int .u8 0, .string ⟨#[]⟩, .string ⟨#[]⟩])
  rw [HPV.out] at hK
  have HQw5 := Lib.hid ((HQw4.out.alloc (.cells #[.int .i64 0, .int .i64 0, .int .i64 0, .int .i64 0, .int .i64 0, .bool false, .bool false, .int .u8 0, .int .u8 0, .int .u8 0, .int .u8 0, .int .u8 0, .int .u8 0, .int .u8 0, .int .u8 0, .string ⟨#[]⟩, .string ⟨#[]⟩] 29)).sets (c := w4.heap.size) (Nat.ne_of_lt HQw4.out.1.lt) HQw4.out.2.2 0 V)
  have HKw5 := Lib.hid hK
  have HNw5 := Lib.hid (Nat.ne_of_lt HQw4.out.1.lt)
  have HMw5 := Lib.hid HQw4.out.2.2
  clear ht hK hr hr' HQw4
  generalize (w4.alloc (.cells #[.int .i64 0, .int .i64 0, .int .i64 0, .int .i64 0, .int .i64 0, .bool false, .bool false, .int .u8 0, .int .u8 0, .int .u8 0, .int .u8 0, .int .u8 0, .int .u8 0, .int .u8 0, .int .u8 0, .string ⟨#[]⟩, .string ⟨#[]⟩] 29)).setCells w4.heap.size 0 V = w5 at *
  have c6 := HKw5.out.at HC6.out
  have z6 := HKw5.out.z 6
  go_upto_region 11 with (fail)
  clear c6 z6
  have hK := HKw5.out.set 6 (.bool false)
  have HQw6 := Lib.hid (HQw5.out.set (c := w4.heap.size) HNw5.out HMw5.out 6 (.bool false))
  have HKw6 := Lib.hid hK
  clear hK HKw5 HQw5
  generalize w5.setCell ⟨w4.heap.size, 6, none⟩ (.bool false) = w6 at *
  have c16 := HQw6.out.at HC.out.1
  have d16 := fun o : Obj => (HKw6.out.alloc o).c 16 _ HCM.out
  have y16 := fun o : Obj => (HKw6.out.alloc o).z 16
  have hcv := conv1
  have zc := cat_len
  have zs := fun x : Int => (show (strOfNums [x]).size = 1 from rfl)
  have zo : ¬ 9223372036854775807 < p.data.size + 1 := by omega
  go_upto_region 12 with (fail)
  clear c16 d16 y16 hcv zc zs zo
  rw [← HD.out]
  have hK := (HKw6.out.alloc (.cells #[.int .u8 m] 5)).set 16 (.string D)
  rw [HVM.out, ← HVQ.out] at hK
  have HQw7 := Lib.hid ((HQw6.out.alloc (.cells #[.int .u8 m] 5)).set (c := w4.heap.size) HNw5.out HMw5.out 16 (.string D))
  have HKw7 := Lib.hid hK
  clear hK HKw6 HQw6
  generalize (w6.alloc (.cells #[.int .u8 m] 5)).setCell ⟨w4.heap.size, 16, none⟩ (.string D) = w7 at *
  have hr : w7.rangeAt w4.heap.size 0 VQ := HKw7.out.range
  go_wp2_with (refine wpList_load_mid rfl 29 _ rfl w4.heap.size 0 rfl VQ _ hr Try.underlying29 rfl HIVQ.out ?_)
  clear hr
  refine (HBq.out _).mono ?_
  rintro e w8 ⟨fc, rfl, hfl, hfb, bb⟩
  have HQw8 := Lib.hid (HQw7.out.below bb (Nat.le_refl _))
  clear bb HQw7 hfl hfb
  have c4 := HQw8.out.at HC4.out
  have k1 : decide ((65535 : Int) < (X.size : Int) + p.pl + 1) = true := by
    have := HSZ.out
    simp
    omega
  go_wp2_with fail
  go_ret
  exact ⟨rfl, HQw8.out.2.1⟩
theorem ip4Cut_any (p : Pkt) (cut m : Int) (w : World) (_ : p.byt) (h1 : (Lit.int .u16 cut).wf = true) (h2 : (Lit.int .u8 m).wf = true) :
    Calls Try.prog 12 #[.agg p.vals.toArray, .int .u16 cut, .int .u8 m] w fun e w' => e = .returned (.bool true) ∧ Below w.heap.size w w' := by
  have g1 : 0 ≤ cut ∧ cut ≤ 65535 := by simpa [Lit.wf, IntKind.min, IntKind.max, IntKind.signed, IntKind.bits] using h1
  have g2 : 0 ≤ m ∧ m ≤ 255 := by simpa [Lit.wf, IntKind.min, IntKind.max, IntKind.signed, IntKind.bits] using h2
  obtain ⟨c, rfl⟩ : ∃ c : Nat, cut = c := ⟨cut.toNat, by omega⟩
  by_cases hd : p.data.size ≤ 70000
  · by_cases ho : p.opts.size ≤ 1000
    · by_cases hw : p.why = 0
      · by_cases hl : 20 + p.opts.size + p.pl + p.data.size + 1 ≤ 65535
        · exact ip4Cut_some p c m w hd ho hw (by omega) g2.1 g2.2 hl
        · exact ip4Cut_full p c m w hd ho hw (by omega) g2.1 g2.2 (by omega)
      · exact ip4Cut_none p c m w hd ho hw
    · exact ip4Cut_wide p c m w hd (by omega)
  · exact ip4Cut_long p c m w (by omega)
end Go.Proofs.Ytjfkfeobmcnonaa
