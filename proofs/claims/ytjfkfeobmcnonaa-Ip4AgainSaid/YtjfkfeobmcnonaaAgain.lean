/-
  Proved here: the law Ip4Again answers true, and leaves old memory as it was.
  Conditions: none.
-/
import Derived.Test.YtjfkfeobmcnonaaAgainPlain
import Derived.Test.YtjfkfeobmcnonaaAwake
namespace Go.Proofs.Ytjfkfeobmcnonaa
open Go.RowKit

theorem again_ext (s : ByteArray) (h : pcode s = 0) : (ppkt s).bytes.size = num2 s 2 ∧ (ppkt s).bytes.extract 0 10 = s.extract 0 10 ∧ (ppkt s).bytes.extract 12 (num2 s 2) = s.extract 12 (num2 s 2) := by
  obtain ⟨x, y, hl⟩ := again_list s h
  obtain ⟨hm, _, _⟩ := pcode_ok h
  obtain ⟨g1, _, g3, g4, _, g6, g7⟩ := mcode_ok hm
  have hz : (ppkt s).bytes.size = num2 s 2 := by
    rw [← ba_size, hl]
    simp
    omega
  have ht : (s.data.toList.take 10).length = 10 := by simp; omega
  refine ⟨hz, ba_ext ?_, ba_ext ?_⟩
  · rw [ext_list, ext_list, hl, List.append_assoc, List.take_append_of_le_length (by omega), List.take_of_length_le (l := s.data.toList.take 10) (by omega)]
  · rw [ext_list, ext_list, List.take_of_length_le (by rw [ba_size]; omega), hl, List.drop_append, List.drop_of_length_le (l := s.data.toList.take 10 ++ [x, y]) (by simp; omega)]
    rw [show 12 - (s.data.toList.take 10 ++ [x, y]).length = 0 by simp; omega, List.drop_zero, List.nil_append]
set_option maxRecDepth 100000 in
set_option maxHeartbeats 400000 in
theorem ip4Again_long (s : ByteArray) (w : World) (h : 70000 < s.size) :
    Calls Try.prog 9 #[.string s] w fun e w' => e = .returned (.bool true) ∧ Below w.heap.size w w' := by
  go_enter Try.func9, Try.ntmps9
  go_wp2_with fail
  refine (awake_true w).mono ?_
  rintro e w1 ⟨rfl, b1⟩
  have HBw1 := Lib.hid b1
  clear b1
  go_wp2_with fail
  go_ret
  exact ⟨rfl, HBw1.out⟩
set_option maxRecDepth 100000 in
set_option maxHeartbeats 400000 in
theorem ip4Again_none (s : ByteArray) (w : World) (h : s.size ≤ 70000) (hc : pcode s ≠ 0) :
    Calls Try.prog 9 #[.string s] w fun e w' => e = .returned (.bool true) ∧ Below w.heap.size w w' := by
  obtain ⟨VZ, hVZ⟩ : ∃ V, V = (pkt0).vals := ⟨_, rfl⟩
  have HIVZ : Hid ((Try.prog.info? 29).map (·.size) = some VZ.length) := Lib.hid (by rw [hVZ]; exact Try.infoIp (pkt0))
  have HOVZ : Hid (VZ.toArray.all (·.oneCell') = true) := Lib.hid (by rw [hVZ]; exact vals_one (pkt0))
  have HPVZ : Hid (∀ q : Pkt, puts q.vals.toArray 0 VZ = VZ.toArray) := Lib.hid (fun q => by rw [hVZ]; exact puts_all q (pkt0))
  have HSVZ : Hid (VZ.toArray.size = 17) := Lib.hid (by rw [hVZ]; rfl)
  have HEVZ : Hid (∀ W, (binOp .eql 29 (.agg VZ.toArray) (.agg VZ.toArray)).run Try.prog W = .ok (.bool true) W) := Lib.hid (fun W => by rw [hVZ]; exact eqlP (pkt0) W)
  have HBD : Hid (∀ (ρ : Operand → Value) (d : Option Tmp) (ty : TypeId) (ps : String) (af : Array Edge) (W : World), (execOp ρ { dst := d, op := .build 29 #[], type := ty, pos := ps, after := af, guard := none }).run Try.prog W = .ok (.value (.agg VZ.toArray)) W) := Lib.hid (fun ρ d ty ps af W => by rw [hVZ]; exact Try.execZ ρ d ty ps af W)
  have hPa : ∀ W, Calls Try.prog 15 #[.string s] W (Bad (.agg VZ.toArray) (pcode s) W) := fun W => by rw [hVZ]; exact parse_bad s W h hc
  have HPa := Lib.hid hPa
  clear hPa hVZ hc
  generalize pcode s = cc at HPa
  go_enter Try.func9, Try.ntmps9
  go_wp2_with fail
  refine (awake_true w).mono ?_
  rintro e w1 ⟨rfl, b1⟩
  have HBw1 := Lib.hid b1
  clear b1
  go_wp2_with fail
  refine (HPa.out _).mono ?_
  rintro e w2 ⟨fb, rfl, hfl, hfb, bb⟩
  have HBw2 := Lib.hid (HBw1.out.trans (bb.mono HBw1.out.size))
  clear bb hfl hfb
  have ht : (w2.alloc (.cells #[.int .i64 0, .int .i64 0, .int .i64 0, .int .i64 0, .int .i64 0, .bool false, .bool false, .int .u8 0, .int .u8 0, .int .u8 0, .int .u8 0, .int .u8 0, .int .u8 0, .int .u8 0, .int .u8 0, .string ⟨#[]⟩, .string ⟨#[]⟩] 29)).there w2.heap.size 0 VZ.toArray.size := by rw [HSVZ.out]; exact (bk_new w2 29 #[.int .i64 0, .int .i64 0, .int .i64 0, .int .i64 0, .int .i64 0, .bool false, .bool false, .int .u8 0, .int .u8 0, .int .u8 0, .int .u8 0, .int .u8 0, .int .u8 0, .int .u8 0, .int .u8 0, .string ⟨#[]⟩, .string ⟨#[]⟩]).there 17 (Nat.le_refl _)
  go_upto_region 6 with (refine wpList_store_mid rfl 29 _ _ rfl w2.heap.size 0 VZ.toArray rfl rfl ht HIVZ.out HOVZ.out ?_)
  have hK := Bk.sets VZ 0 _ _ (show Bk _ w2.heap.size 29 pkt0.vals.toArray from bk_new w2 29 #[.int .i64 0, .int .i64 0, .int .i64 0, .int .i64 0, .int .i64 0, .bool false, .bool false, .int .u8 0, .int .u8 0, .int .u8 0, .int .u8 0, .int .u8 0, .int .u8 0, .int .u8 0, .int .u8 0, .string ⟨#[]⟩, .string ⟨#[]⟩])
  rw [HPVZ.out] at hK
  have hB := below_sets (b := w2.heap.size) VZ HBw2.out.size 0 _ (HBw2.out.alloc HBw2.out.size (.cells #[.int .i64 0, .int .i64 0, .int .i64 0, .int .i64 0, .int .i64 0, .bool false, .bool false, .int .u8 0, .int .u8 0, .int .u8 0, .int .u8 0, .int .u8 0, .int .u8 0, .int .u8 0, .int .u8 0, .string ⟨#[]⟩, .string ⟨#[]⟩] 29))
  have HKw3 := Lib.hid hK
  have HBw3 := Lib.hid hB
  clear ht hK hB
  generalize (w2.alloc (.cells #[.int .i64 0, .int .i64 0, .int .i64 0, .int .i64 0, .int .i64 0, .bool false, .bool false, .int .u8 0, .int .u8 0, .int .u8 0, .int .u8 0, .int .u8 0, .int .u8 0, .int .u8 0, .int .u8 0, .string ⟨#[]⟩, .string ⟨#[]⟩] 29)).setCells w2.heap.size 0 VZ = w3 at *
  have hr : w3.rangeAt w2.heap.size 0 VZ := HKw3.out.range
  have heq := HEVZ.out
  have hgu := Try.guardIp
  go_wp2_with (first | (refine Great.wpList_readTo rfl _ rfl (.agg VZ.toArray) (HBD.out _ _ _ _ _ _) ?_) | (refine wpList_load_mid rfl 29 _ rfl w2.heap.size 0 rfl VZ _ hr Try.underlying29 rfl HIVZ.out ?_))
  go_ret
  exact ⟨rfl, HBw3.out⟩
set_option maxRecDepth 100000 in
set_option maxHeartbeats 400000 in
theorem ip4Again_packet (s : ByteArray) (w : World) (h : s.size ≤ 70000) (hc : pcode s = 0) :
    Calls Try.prog 9 #[.string s] w fun e w' => e = .returned (.bool true) ∧ Below w.heap.size w w' := by
  obtain ⟨hm, _, hw⟩ := pcode_ok hc
  obtain ⟨g1, _, g3, g4, _, g6, g7⟩ := mcode_ok hm
  obtain ⟨hz, e1, e2⟩ := again_ext s hc
  have hbk := parse_back (ppkt s) hw (rdP_byt _ _) ⟨#[]⟩
  rw [show (ppkt s).bytes ++ ⟨#[]⟩ = (ppkt s).bytes by apply ba_ext; simp] at hbk
  obtain ⟨V, hV⟩ : ∃ V, V = (ppkt s).vals := ⟨_, rfl⟩
  have HIV : Hid ((Try.prog.info? 29).map (·.size) = some V.length) := Lib.hid (by rw [hV]; exact Try.infoIp (ppkt s))
  have HOV : Hid (V.toArray.all (·.oneCell') = true) := Lib.hid (by rw [hV]; exact vals_one (ppkt s))
  have HPV : Hid (∀ q : Pkt, puts q.vals.toArray 0 V = V.toArray) := Lib.hid (fun q => by rw [hV]; exact puts_all q (ppkt s))
  have HSV : Hid (V.toArray.size = 17) := Lib.hid (by rw [hV]; rfl)
  have HEV : Hid (∀ W, (binOp .eql 29 (.agg V.toArray) (.agg V.toArray)).run Try.prog W = .ok (.bool true) W) := Lib.hid (fun W => by rw [hV]; exact eqlP (ppkt s) W)
  have hPa : ∀ W, Calls Try.prog 15 #[.string s] W fun e w' => e = .returned (.tuple #[.agg V.toArray, .nilIface]) ∧ Below W.heap.size W w' := fun W => by rw [hV]; exact parse_ok s W h hc
  have hBy : ∀ W, Calls Try.prog 13 #[.agg V.toArray] W fun e w' => e = .returned (.tuple #[.string (ppkt s).bytes, .nilIface]) ∧ Below W.heap.size W w' := fun W => by rw [hV]; exact bytes_ok (ppkt s) W hw
  have hPb : ∀ W, Calls Try.prog 15 #[.string (ppkt s).bytes] W fun e w' => e = .returned (.tuple #[.agg V.toArray, .nilIface]) ∧ Below W.heap.size W w' := fun W => by
    have := parse_ok (ppkt s).bytes W (by omega) hbk.1
    rw [hbk.2] at this
    rw [hV]
    exact this
  have HPa := Lib.hid hPa
  have HBy := Lib.hid hBy
  have HPb := Lib.hid hPb
  have HZ := Lib.hid hz
  rw [← hz] at e2
  have HE1 := Lib.hid e1
  have HE2 := Lib.hid e2
  have hts : (ppkt s).bytes.size ≤ s.size := by omega
  have ht20 : 20 ≤ (ppkt s).bytes.size := by omega
  clear hPa hBy hPb hV hc hm hw g1 g3 g4 g6 g7 hbk e1 e2 hz HZ
  generalize (ppkt s).bytes = t at *
  go_enter Try.func9, Try.ntmps9
  go_wp2_with fail
  refine (awake_true w).mono ?_
  rintro e w1 ⟨rfl, b1⟩
  have HBw1 := Lib.hid b1
  clear b1
  go_wp2_with fail
  refine (HPa.out _).mono ?_
  rintro e w2 ⟨rfl, bb⟩
  have HBw2 := Lib.hid (HBw1.out.trans (bb.mono HBw1.out.size))
  clear bb
  have ht : (w2.alloc (.cells #[.int .i64 0, .int .i64 0, .int .i64 0, .int .i64 0, .int .i64 0, .bool false, .bool false, .int .u8 0, .int .u8 0, .int .u8 0, .int .u8 0, .int .u8 0, .int .u8 0, .int .u8 0, .int .u8 0, .string ⟨#[]⟩, .string ⟨#[]⟩] 29)).there w2.heap.size 0 V.toArray.size := by rw [HSV.out]; exact (bk_new w2 29 #[.int .i64 0, .int .i64 0, .int .i64 0, .int .i64 0, .int .i64 0, .bool false, .bool false, .int .u8 0, .int .u8 0, .int .u8 0, .int .u8 0, .int .u8 0, .int .u8 0, .int .u8 0, .int .u8 0, .string ⟨#[]⟩, .string ⟨#[]⟩]).there 17 (Nat.le_refl _)
  go_upto_region 6 with (refine wpList_store_mid rfl 29 _ _ rfl w2.heap.size 0 V.toArray rfl rfl ht HIV.out HOV.out ?_)
  have hK := Bk.sets V 0 _ _ (show Bk _ w2.heap.size 29 pkt0.vals.toArray from bk_new w2 29 #[.int .i64 0, .int .i64 0, .int .i64 0, .int .i64 0, .int .i64 0, .bool false, .bool false, .int .u8 0, .int .u8 0, .int .u8 0, .int .u8 0, .int .u8 0, .int .u8 0, .int .u8 0, .int .u8 0, .string ⟨#[]⟩, .string ⟨#[]⟩])
  rw [HPV.out] at hK
  have hB := below_sets (b := w2.heap.size) V HBw2.out.size 0 _ (HBw2.out.alloc HBw2.out.size (.cells #[.int .i64 0, .int .i64 0, .int .i64 0, .int .i64 0, .int .i64 0, .bool false, .bool false, .int .u8 0, .int .u8 0, .int .u8 0, .int .u8 0, .int .u8 0, .int .u8 0, .int .u8 0, .int .u8 0, .string ⟨#[]⟩, .string ⟨#[]⟩] 29))
  have HKw3 := Lib.hid hK
  have HBw3 := Lib.hid hB
  clear ht hK hB
  generalize (w2.alloc (.cells #[.int .i64 0, .int .i64 0, .int .i64 0, .int .i64 0, .int .i64 0, .bool false, .bool false, .int .u8 0, .int .u8 0, .int .u8 0, .int .u8 0, .int .u8 0, .int .u8 0, .int .u8 0, .int .u8 0, .string ⟨#[]⟩, .string ⟨#[]⟩] 29)).setCells w2.heap.size 0 V = w3 at *
  have hr : w3.rangeAt w2.heap.size 0 V := HKw3.out.range
  go_wp2_with (refine wpList_load_mid rfl 29 _ rfl w2.heap.size 0 rfl V _ hr Try.underlying29 rfl HIV.out ?_)
  clear hr
  refine (HBy.out _).mono ?_
  rintro e w4 ⟨rfl, bb⟩
  have HBw4 := Lib.hid (HBw3.out.trans (bb.mono HBw3.out.size))
  have HKw4 := Lib.hid (HKw3.out.below bb HKw3.out.lt)
  clear bb
  clear HKw3
  go_wp2_with fail
  refine (HPb.out _).mono ?_
  rintro e w5 ⟨rfl, bb⟩
  have HBw5 := Lib.hid (HBw4.out.trans (bb.mono HBw4.out.size))
  have HKw5 := Lib.hid (HKw4.out.below bb HKw4.out.lt)
  clear bb
  clear HKw4
  have ht : (w5.alloc (.cells #[.int .i64 0, .int .i64 0, .int .i64 0, .int .i64 0, .int .i64 0, .bool false, .bool false, .int .u8 0, .int .u8 0, .int .u8 0, .int .u8 0, .int .u8 0, .int .u8 0, .int .u8 0, .int .u8 0, .string ⟨#[]⟩, .string ⟨#[]⟩] 29)).there w5.heap.size 0 V.toArray.size := by rw [HSV.out]; exact (bk_new w5 29 #[.int .i64 0, .int .i64 0, .int .i64 0, .int .i64 0, .int .i64 0, .bool false, .bool false, .int .u8 0, .int .u8 0, .int .u8 0, .int .u8 0, .int .u8 0, .int .u8 0, .int .u8 0, .int .u8 0, .string ⟨#[]⟩, .string ⟨#[]⟩]).there 17 (Nat.le_refl _)
  go_upto_region 10 with (refine wpList_store_mid rfl 29 _ _ rfl w5.heap.size 0 V.toArray rfl rfl ht HIV.out HOV.out ?_)
  have hK := Bk.sets V 0 _ _ (show Bk _ w5.heap.size 29 pkt0.vals.toArray from bk_new w5 29 #[.int .i64 0, .int .i64 0, .int .i64 0, .int .i64 0, .int .i64 0, .bool false, .bool false, .int .u8 0, .int .u8 0, .int .u8 0, .int .u8 0, .int .u8 0, .int .u8 0, .int .u8 0, .int .u8 0, .string ⟨#[]⟩, .string ⟨#[]⟩])
  rw [HPV.out] at hK
  have hB := below_sets (b := w5.heap.size) V HBw5.out.size 0 _ (HBw5.out.alloc HBw5.out.size (.cells #[.int .i64 0, .int .i64 0, .int .i64 0, .int .i64 0, .int .i64 0, .bool false, .bool false, .int .u8 0, .int .u8 0, .int .u8 0, .int .u8 0, .int .u8 0, .int .u8 0, .int .u8 0, .int .u8 0, .string ⟨#[]⟩, .string ⟨#[]⟩] 29))
  have hKo := (HKw5.out.alloc (.cells #[.int .i64 0, .int .i64 0, .int .i64 0, .int .i64 0, .int .i64 0, .bool false, .bool false, .int .u8 0, .int .u8 0, .int .u8 0, .int .u8 0, .int .u8 0, .int .u8 0, .int .u8 0, .int .u8 0, .string ⟨#[]⟩, .string ⟨#[]⟩] 29)).sets_other (b := w5.heap.size) (by have := HKw5.out.lt; omega) 0 V
  have HKo := Lib.hid hKo
  clear hKo
  have HKw6 := Lib.hid hK
  have HBw6 := Lib.hid hB
  clear ht hK hB
  generalize (w5.alloc (.cells #[.int .i64 0, .int .i64 0, .int .i64 0, .int .i64 0, .int .i64 0, .bool false, .bool false, .int .u8 0, .int .u8 0, .int .u8 0, .int .u8 0, .int .u8 0, .int .u8 0, .int .u8 0, .int .u8 0, .string ⟨#[]⟩, .string ⟨#[]⟩] 29)).setCells w5.heap.size 0 V = w6 at *
  have hr1 : w6.rangeAt w2.heap.size 0 V := HKo.out.range
  have hr2 : w6.rangeAt w5.heap.size 0 V := HKw6.out.range
  obtain ⟨B, hBd⟩ : ∃ B, B = w.heap.size := ⟨_, rfl⟩
  have hB6 : Below B w w6 := by rw [hBd]; exact HBw6.out
  have HBd := Lib.hid hBd
  clear hBd HKo HKw6 HKw5 HBw6 HBw5 HBw4 HBw3 HBw2 HBw1
  generalize w2.heap.size = b1 at *
  generalize w5.heap.size = b2 at *
  have heq := HEV.out
  have hgu := Try.guardIp
  have e1 := HE1.out
  have e2 := HE2.out
  have q1 : (10 : Int) ≤ (t.size : Int) := by omega
  have q2 : (10 : Int) ≤ (s.size : Int) := by omega
  have q3 : (12 : Int) ≤ (t.size : Int) := by omega
  have q4 : (t.size : Int) ≤ (s.size : Int) := by omega
  refine wp_region_noPanic ?_
  refine wp_region_held_drew (S := fun w' => Below B w w' ∧ w'.rangeAt b1 0 V ∧ w'.rangeAt b2 0 V) (by kernel_rfl) (⟨hB6.drew, hr1, hr2⟩) (fun hHeld => ?_)
  refine wpAnyH_take (i := 0) (oi := { dst := some 34, op := Op.move (Operand.tmp 6), type := 23, pos := "outright.go:49", after := #[], guard := none }) (v := ?_) rfl (by kernel_rfl) (by kernel_rfl) (by kernel_rfl) (fun _ _ _ h => h) (Or.inl ⟨by rfl, ?_⟩) (by assumption) ?_
  rotate_left
  · (intro ww hSw; (try dsimp only at hSw); go_simp; try with_reducible rfl)
  (try simp only [Act.put, List.setIfInBounds_toArray, List.set_cons_zero, List.set_cons_succ])
  refine wpAnyH_take (i := 1) (oi := { dst := some 35, op := Op.binOp BinOp.eql 23 (Operand.tmp 34) (Operand.const Value.nilIface) 23, type := 4, pos := "outright.go:49", after := #[{ on := 0, ground := Ground.data }], guard := none }) (v := ?_) rfl (by kernel_rfl) (by kernel_rfl) (by kernel_rfl) (fun _ _ _ h => h) (Or.inl ⟨by rfl, ?_⟩) (by assumption) ?_
  rotate_left
  · (intro ww hSw; (try dsimp only at hSw); go_simp; try with_reducible rfl)
  (try simp only [Act.put, List.setIfInBounds_toArray, List.set_cons_zero, List.set_cons_succ])
  refine wpAnyH_take (i := 2) (oi := { dst := some 36, op := Op.move (Operand.tmp 35), type := 4, pos := "outright.go:49", after := #[{ on := 1, ground := Ground.data }], guard := none }) (v := ?_) rfl (by kernel_rfl) (by kernel_rfl) (by kernel_rfl) (fun _ _ _ h => h) (Or.inl ⟨by rfl, ?_⟩) (by assumption) ?_
  rotate_left
  · (intro ww hSw; (try dsimp only at hSw); go_simp; try with_reducible rfl)
  (try simp only [Act.put, List.setIfInBounds_toArray, List.set_cons_zero, List.set_cons_succ])
  refine wpAnyH_take (i := 3) (oi := { dst := some 37, op := Op.move (Operand.tmp 8), type := 23, pos := "outright.go:49", after := #[{ on := 2, ground := Ground.guard }], guard := some (2, true) }) (v := ?_) rfl (by kernel_rfl) (by kernel_rfl) (by kernel_rfl) (fun _ _ _ h => h) (Or.inl ⟨by rfl, ?_⟩) (by assumption) ?_
  rotate_left
  · (intro ww hSw; (try dsimp only at hSw); go_simp; try with_reducible rfl)
  (try simp only [Act.put, List.setIfInBounds_toArray, List.set_cons_zero, List.set_cons_succ])
  refine wpAnyH_take (i := 4) (oi := { dst := some 38, op := Op.binOp BinOp.eql 23 (Operand.tmp 37) (Operand.const Value.nilIface) 23, type := 4, pos := "outright.go:49", after := #[{ on := 3, ground := Ground.data }, { on := 2, ground := Ground.guard }], guard := some (2, true) }) (v := ?_) rfl (by kernel_rfl) (by kernel_rfl) (by kernel_rfl) (fun _ _ _ h => h) (Or.inl ⟨by rfl, ?_⟩) (by assumption) ?_
  rotate_left
  · (intro ww hSw; (try dsimp only at hSw); go_simp; try with_reducible rfl)
  (try simp only [Act.put, List.setIfInBounds_toArray, List.set_cons_zero, List.set_cons_succ])
  refine wpAnyH_take (i := 5) (oi := { dst := some 39, op := Op.pick (Operand.tmp 36) (Operand.tmp 38) (Operand.const (Value.bool false)), type := 4, pos := "outright.go:49", after := #[{ on := 2, ground := Ground.data }, { on := 4, ground := Ground.data }], guard := none }) (v := ?_) rfl (by kernel_rfl) (by kernel_rfl) (by kernel_rfl) (fun _ _ _ h => h) (Or.inl ⟨by rfl, ?_⟩) (by assumption) ?_
  rotate_left
  · (intro ww hSw; (try dsimp only at hSw); go_simp; try with_reducible rfl)
  (try simp only [Act.put, List.setIfInBounds_toArray, List.set_cons_zero, List.set_cons_succ])
  refine wpAnyH_take (i := 6) (oi := { dst := some 40, op := Op.move (Operand.tmp 39), type := 4, pos := "outright.go:49", after := #[{ on := 5, ground := Ground.data }, { on := 2, ground := Ground.chain }], guard := none }) (v := ?_) rfl (by kernel_rfl) (by kernel_rfl) (by kernel_rfl) (fun _ _ _ h => h) (Or.inl ⟨by rfl, ?_⟩) (by assumption) ?_
  rotate_left
  · (intro ww hSw; (try dsimp only at hSw); go_simp; try with_reducible rfl)
  (try simp only [Act.put, List.setIfInBounds_toArray, List.set_cons_zero, List.set_cons_succ])
  refine wpAnyH_take (i := 7) (oi := { dst := some 41, op := Op.load 29 (Operand.tmp 3), type := 29, pos := "outright.go:49", after := #[{ on := 6, ground := Ground.guard }], guard := some (6, true) }) (v := .agg (V).toArray) rfl (by kernel_rfl) (by kernel_rfl) (by kernel_rfl) (fun _ _ _ h => h) (yieldsIf_load_mid (by rfl) _ _ rfl (b1) 0 rfl (V) _ (fun ww hSw => hSw.2.1) Try.underlying29 rfl HIV.out) (by assumption) ?_
  (try simp only [Act.put, List.setIfInBounds_toArray, List.set_cons_zero, List.set_cons_succ])
  refine wpAnyH_take (i := 8) (oi := { dst := some 42, op := Op.load 29 (Operand.tmp 7), type := 29, pos := "outright.go:49", after := #[{ on := 6, ground := Ground.guard }], guard := some (6, true) }) (v := .agg (V).toArray) rfl (by kernel_rfl) (by kernel_rfl) (by kernel_rfl) (fun _ _ _ h => h) (yieldsIf_load_mid (by rfl) _ _ rfl (b2) 0 rfl (V) _ (fun ww hSw => hSw.2.2) Try.underlying29 rfl HIV.out) (by assumption) ?_
  (try simp only [Act.put, List.setIfInBounds_toArray, List.set_cons_zero, List.set_cons_succ])
  refine wpAnyH_take (i := 9) (oi := { dst := some 43, op := Op.binOp BinOp.eql 29 (Operand.tmp 41) (Operand.tmp 42) 29, type := 4, pos := "outright.go:49", after := #[{ on := 7, ground := Ground.data }, { on := 8, ground := Ground.data }, { on := 6, ground := Ground.guard }], guard := some (6, true) }) (v := ?_) rfl (by kernel_rfl) (by kernel_rfl) (by kernel_rfl) (fun _ _ _ h => h) (Or.inl ⟨by rfl, ?_⟩) (by assumption) ?_
  rotate_left
  · (intro ww hSw; (try dsimp only at hSw); go_simp; try with_reducible rfl)
  (try simp only [Act.put, List.setIfInBounds_toArray, List.set_cons_zero, List.set_cons_succ])
  refine wpAnyH_take (i := 10) (oi := { dst := some 44, op := Op.pick (Operand.tmp 40) (Operand.tmp 43) (Operand.const (Value.bool false)), type := 4, pos := "outright.go:49", after := #[{ on := 6, ground := Ground.data }, { on := 9, ground := Ground.data }], guard := none }) (v := ?_) rfl (by kernel_rfl) (by kernel_rfl) (by kernel_rfl) (fun _ _ _ h => h) (Or.inl ⟨by rfl, ?_⟩) (by assumption) ?_
  rotate_left
  · (intro ww hSw; (try dsimp only at hSw); go_simp; try with_reducible rfl)
  (try simp only [Act.put, List.setIfInBounds_toArray, List.set_cons_zero, List.set_cons_succ])
  refine wpAnyH_take (i := 11) (oi := { dst := some 45, op := Op.move (Operand.tmp 44), type := 4, pos := "outright.go:49", after := #[{ on := 10, ground := Ground.data }, { on := 6, ground := Ground.chain }], guard := none }) (v := ?_) rfl (by kernel_rfl) (by kernel_rfl) (by kernel_rfl) (fun _ _ _ h => h) (Or.inl ⟨by rfl, ?_⟩) (by assumption) ?_
  rotate_left
  · (intro ww hSw; (try dsimp only at hSw); go_simp; try with_reducible rfl)
  (try simp only [Act.put, List.setIfInBounds_toArray, List.set_cons_zero, List.set_cons_succ])
  refine wpAnyH_take (i := 12) (oi := { dst := some 46, op := Op.move (Operand.tmp 5), type := 9, pos := "outright.go:49", after := #[{ on := 11, ground := Ground.guard }], guard := some (11, true) }) (v := ?_) rfl (by kernel_rfl) (by kernel_rfl) (by kernel_rfl) (fun _ _ _ h => h) (Or.inl ⟨by rfl, ?_⟩) (by assumption) ?_
  rotate_left
  · (intro ww hSw; (try dsimp only at hSw); go_simp; try with_reducible rfl)
  (try simp only [Act.put, List.setIfInBounds_toArray, List.set_cons_zero, List.set_cons_succ])
  refine wpAnyH_take (i := 13) (oi := { dst := some 47, op := Op.call { callee := Callee.builtin Builtin.len, args := #[Operand.tmp 46], argTypes := #[9] }, type := 3, pos := "outright.go:49", after := #[{ on := 12, ground := Ground.data }, { on := 11, ground := Ground.guard }], guard := some (11, true) }) (v := ?_) rfl (by kernel_rfl) (by kernel_rfl) (by kernel_rfl) (fun _ _ _ h => h) (Or.inl ⟨by rfl, ?_⟩) (by assumption) ?_
  rotate_left
  · (intro ww hSw; (try dsimp only at hSw); go_simp; try with_reducible rfl)
  (try simp only [Act.put, List.setIfInBounds_toArray, List.set_cons_zero, List.set_cons_succ])
  refine wpAnyH_take (i := 14) (oi := { dst := some 48, op := Op.move (Operand.tmp 0), type := 9, pos := "outright.go:49", after := #[{ on := 11, ground := Ground.guard }], guard := some (11, true) }) (v := ?_) rfl (by kernel_rfl) (by kernel_rfl) (by kernel_rfl) (fun _ _ _ h => h) (Or.inl ⟨by rfl, ?_⟩) (by assumption) ?_
  rotate_left
  · (intro ww hSw; (try dsimp only at hSw); go_simp; try with_reducible rfl)
  (try simp only [Act.put, List.setIfInBounds_toArray, List.set_cons_zero, List.set_cons_succ])
  refine wpAnyH_take (i := 15) (oi := { dst := some 49, op := Op.call { callee := Callee.builtin Builtin.len, args := #[Operand.tmp 48], argTypes := #[9] }, type := 3, pos := "outright.go:49", after := #[{ on := 14, ground := Ground.data }, { on := 11, ground := Ground.guard }], guard := some (11, true) }) (v := ?_) rfl (by kernel_rfl) (by kernel_rfl) (by kernel_rfl) (fun _ _ _ h => h) (Or.inl ⟨by rfl, ?_⟩) (by assumption) ?_
  rotate_left
  · (intro ww hSw; (try dsimp only at hSw); go_simp; try with_reducible rfl)
  (try simp only [Act.put, List.setIfInBounds_toArray, List.set_cons_zero, List.set_cons_succ])
  refine wpAnyH_take (i := 16) (oi := { dst := some 50, op := Op.binOp BinOp.leq 3 (Operand.tmp 47) (Operand.tmp 49) 3, type := 4, pos := "outright.go:49", after := #[{ on := 13, ground := Ground.data }, { on := 15, ground := Ground.data }, { on := 11, ground := Ground.guard }], guard := some (11, true) }) (v := ?_) rfl (by kernel_rfl) (by kernel_rfl) (by kernel_rfl) (fun _ _ _ h => h) (Or.inl ⟨by rfl, ?_⟩) (by assumption) ?_
  rotate_left
  · (intro ww hSw; (try dsimp only at hSw); go_simp; try with_reducible rfl)
  (try simp only [Act.put, List.setIfInBounds_toArray, List.set_cons_zero, List.set_cons_succ])
  refine wpAnyH_take (i := 17) (oi := { dst := some 51, op := Op.pick (Operand.tmp 45) (Operand.tmp 50) (Operand.const (Value.bool false)), type := 4, pos := "outright.go:49", after := #[{ on := 11, ground := Ground.data }, { on := 16, ground := Ground.data }], guard := none }) (v := ?_) rfl (by kernel_rfl) (by kernel_rfl) (by kernel_rfl) (fun _ _ _ h => h) (Or.inl ⟨by rfl, ?_⟩) (by assumption) ?_
  rotate_left
  · (intro ww hSw; (try dsimp only at hSw); go_simp; try with_reducible rfl)
  (try simp only [Act.put, List.setIfInBounds_toArray, List.set_cons_zero, List.set_cons_succ])
  refine wpAnyH_take (i := 18) (oi := { dst := some 52, op := Op.move (Operand.tmp 51), type := 4, pos := "outright.go:49", after := #[{ on := 17, ground := Ground.data }, { on := 11, ground := Ground.chain }], guard := none }) (v := ?_) rfl (by kernel_rfl) (by kernel_rfl) (by kernel_rfl) (fun _ _ _ h => h) (Or.inl ⟨by rfl, ?_⟩) (by assumption) ?_
  rotate_left
  · (intro ww hSw; (try dsimp only at hSw); go_simp; try with_reducible rfl)
  (try simp only [Act.put, List.setIfInBounds_toArray, List.set_cons_zero, List.set_cons_succ])
  refine wpAnyH_take (i := 19) (oi := { dst := some 53, op := Op.move (Operand.tmp 5), type := 9, pos := "outright.go:49", after := #[{ on := 18, ground := Ground.guard }], guard := some (18, true) }) (v := ?_) rfl (by kernel_rfl) (by kernel_rfl) (by kernel_rfl) (fun _ _ _ h => h) (Or.inl ⟨by rfl, ?_⟩) (by assumption) ?_
  rotate_left
  · (intro ww hSw; (try dsimp only at hSw); go_simp; try with_reducible rfl)
  (try simp only [Act.put, List.setIfInBounds_toArray, List.set_cons_zero, List.set_cons_succ])
  refine wpAnyH_take (i := 20) (oi := { dst := some 54, op := Op.slice 9 (Operand.tmp 53) none (some (Operand.const (Value.int IntKind.i64 10))) none, type := 9, pos := "outright.go:49", after := #[{ on := 19, ground := Ground.data }, { on := 18, ground := Ground.guard }], guard := some (18, true) }) (v := ?_) rfl (by kernel_rfl) (by kernel_rfl) (by kernel_rfl) (fun _ _ _ h => h) (Or.inl ⟨by rfl, ?_⟩) (by assumption) ?_
  rotate_left
  · (intro ww hSw; (try dsimp only at hSw); go_simp; try with_reducible rfl)
  (try simp only [Act.put, List.setIfInBounds_toArray, List.set_cons_zero, List.set_cons_succ])
  refine wpAnyH_take (i := 21) (oi := { dst := some 55, op := Op.move (Operand.tmp 0), type := 9, pos := "outright.go:49", after := #[{ on := 18, ground := Ground.guard }], guard := some (18, true) }) (v := ?_) rfl (by kernel_rfl) (by kernel_rfl) (by kernel_rfl) (fun _ _ _ h => h) (Or.inl ⟨by rfl, ?_⟩) (by assumption) ?_
  rotate_left
  · (intro ww hSw; (try dsimp only at hSw); go_simp; try with_reducible rfl)
  (try simp only [Act.put, List.setIfInBounds_toArray, List.set_cons_zero, List.set_cons_succ])
  refine wpAnyH_take (i := 22) (oi := { dst := some 56, op := Op.slice 9 (Operand.tmp 55) none (some (Operand.const (Value.int IntKind.i64 10))) none, type := 9, pos := "outright.go:49", after := #[{ on := 21, ground := Ground.data }, { on := 18, ground := Ground.guard }], guard := some (18, true) }) (v := ?_) rfl (by kernel_rfl) (by kernel_rfl) (by kernel_rfl) (fun _ _ _ h => h) (Or.inl ⟨by rfl, ?_⟩) (by assumption) ?_
  rotate_left
  · (intro ww hSw; (try dsimp only at hSw); go_simp; try with_reducible rfl)
  (try simp only [Act.put, List.setIfInBounds_toArray, List.set_cons_zero, List.set_cons_succ])
  refine wpAnyH_take (i := 23) (oi := { dst := some 57, op := Op.binOp BinOp.eql 9 (Operand.tmp 54) (Operand.tmp 56) 9, type := 4, pos := "outright.go:49", after := #[{ on := 20, ground := Ground.data }, { on := 22, ground := Ground.data }, { on := 18, ground := Ground.guard }], guard := some (18, true) }) (v := ?_) rfl (by kernel_rfl) (by kernel_rfl) (by kernel_rfl) (fun _ _ _ h => h) (Or.inl ⟨by rfl, ?_⟩) (by assumption) ?_
  rotate_left
  · (intro ww hSw; (try dsimp only at hSw); go_simp; try with_reducible rfl)
  (try simp only [Act.put, List.setIfInBounds_toArray, List.set_cons_zero, List.set_cons_succ])
  refine wpAnyH_take (i := 24) (oi := { dst := some 58, op := Op.pick (Operand.tmp 52) (Operand.tmp 57) (Operand.const (Value.bool false)), type := 4, pos := "outright.go:49", after := #[{ on := 18, ground := Ground.data }, { on := 23, ground := Ground.data }], guard := none }) (v := ?_) rfl (by kernel_rfl) (by kernel_rfl) (by kernel_rfl) (fun _ _ _ h => h) (Or.inl ⟨by rfl, ?_⟩) (by assumption) ?_
  rotate_left
  · (intro ww hSw; (try dsimp only at hSw); go_simp; try with_reducible rfl)
  (try simp only [Act.put, List.setIfInBounds_toArray, List.set_cons_zero, List.set_cons_succ])
  refine wpAnyH_take (i := 25) (oi := { dst := some 59, op := Op.move (Operand.tmp 58), type := 4, pos := "outright.go:49", after := #[{ on := 24, ground := Ground.data }, { on := 18, ground := Ground.chain }], guard := none }) (v := ?_) rfl (by kernel_rfl) (by kernel_rfl) (by kernel_rfl) (fun _ _ _ h => h) (Or.inl ⟨by rfl, ?_⟩) (by assumption) ?_
  rotate_left
  · (intro ww hSw; (try dsimp only at hSw); go_simp; try with_reducible rfl)
  (try simp only [Act.put, List.setIfInBounds_toArray, List.set_cons_zero, List.set_cons_succ])
  refine wpAnyH_take (i := 26) (oi := { dst := some 60, op := Op.move (Operand.tmp 5), type := 9, pos := "outright.go:49", after := #[{ on := 25, ground := Ground.guard }], guard := some (25, true) }) (v := ?_) rfl (by kernel_rfl) (by kernel_rfl) (by kernel_rfl) (fun _ _ _ h => h) (Or.inl ⟨by rfl, ?_⟩) (by assumption) ?_
  rotate_left
  · (intro ww hSw; (try dsimp only at hSw); go_simp; try with_reducible rfl)
  (try simp only [Act.put, List.setIfInBounds_toArray, List.set_cons_zero, List.set_cons_succ])
  refine wpAnyH_take (i := 27) (oi := { dst := some 61, op := Op.slice 9 (Operand.tmp 60) (some (Operand.const (Value.int IntKind.i64 12))) none none, type := 9, pos := "outright.go:49", after := #[{ on := 26, ground := Ground.data }, { on := 25, ground := Ground.guard }], guard := some (25, true) }) (v := ?_) rfl (by kernel_rfl) (by kernel_rfl) (by kernel_rfl) (fun _ _ _ h => h) (Or.inl ⟨by rfl, ?_⟩) (by assumption) ?_
  rotate_left
  · (intro ww hSw; (try dsimp only at hSw); go_simp; try with_reducible rfl)
  (try simp only [Act.put, List.setIfInBounds_toArray, List.set_cons_zero, List.set_cons_succ])
  refine wpAnyH_take (i := 28) (oi := { dst := some 62, op := Op.move (Operand.tmp 0), type := 9, pos := "outright.go:49", after := #[{ on := 25, ground := Ground.guard }], guard := some (25, true) }) (v := ?_) rfl (by kernel_rfl) (by kernel_rfl) (by kernel_rfl) (fun _ _ _ h => h) (Or.inl ⟨by rfl, ?_⟩) (by assumption) ?_
  rotate_left
  · (intro ww hSw; (try dsimp only at hSw); go_simp; try with_reducible rfl)
  (try simp only [Act.put, List.setIfInBounds_toArray, List.set_cons_zero, List.set_cons_succ])
  refine wpAnyH_take (i := 29) (oi := { dst := some 63, op := Op.move (Operand.tmp 5), type := 9, pos := "outright.go:49", after := #[{ on := 25, ground := Ground.guard }], guard := some (25, true) }) (v := ?_) rfl (by kernel_rfl) (by kernel_rfl) (by kernel_rfl) (fun _ _ _ h => h) (Or.inl ⟨by rfl, ?_⟩) (by assumption) ?_
  rotate_left
  · (intro ww hSw; (try dsimp only at hSw); go_simp; try with_reducible rfl)
  (try simp only [Act.put, List.setIfInBounds_toArray, List.set_cons_zero, List.set_cons_succ])
  refine wpAnyH_take (i := 30) (oi := { dst := some 64, op := Op.call { callee := Callee.builtin Builtin.len, args := #[Operand.tmp 63], argTypes := #[9] }, type := 3, pos := "outright.go:49", after := #[{ on := 29, ground := Ground.data }, { on := 25, ground := Ground.guard }], guard := some (25, true) }) (v := ?_) rfl (by kernel_rfl) (by kernel_rfl) (by kernel_rfl) (fun _ _ _ h => h) (Or.inl ⟨by rfl, ?_⟩) (by assumption) ?_
  rotate_left
  · (intro ww hSw; (try dsimp only at hSw); go_simp; try with_reducible rfl)
  (try simp only [Act.put, List.setIfInBounds_toArray, List.set_cons_zero, List.set_cons_succ])
  refine wpAnyH_take (i := 31) (oi := { dst := some 65, op := Op.slice 9 (Operand.tmp 62) (some (Operand.const (Value.int IntKind.i64 12))) (some (Operand.tmp 64)) none, type := 9, pos := "outright.go:49", after := #[{ on := 28, ground := Ground.data }, { on := 30, ground := Ground.data }, { on := 25, ground := Ground.guard }], guard := some (25, true) }) (v := ?_) rfl (by kernel_rfl) (by kernel_rfl) (by kernel_rfl) (fun _ _ _ h => h) (Or.inl ⟨by rfl, ?_⟩) (by assumption) ?_
  rotate_left
  · (intro ww hSw; (try dsimp only at hSw); go_simp; try with_reducible rfl)
  (try simp only [Act.put, List.setIfInBounds_toArray, List.set_cons_zero, List.set_cons_succ])
  refine wpAnyH_take (i := 32) (oi := { dst := some 66, op := Op.binOp BinOp.eql 9 (Operand.tmp 61) (Operand.tmp 65) 9, type := 4, pos := "outright.go:49", after := #[{ on := 27, ground := Ground.data }, { on := 31, ground := Ground.data }, { on := 25, ground := Ground.guard }], guard := some (25, true) }) (v := ?_) rfl (by kernel_rfl) (by kernel_rfl) (by kernel_rfl) (fun _ _ _ h => h) (Or.inl ⟨by rfl, ?_⟩) (by assumption) ?_
  rotate_left
  · (intro ww hSw; (try dsimp only at hSw); go_simp; try with_reducible rfl)
  (try simp only [Act.put, List.setIfInBounds_toArray, List.set_cons_zero, List.set_cons_succ])
  refine wpAnyH_take (i := 33) (oi := { dst := some 67, op := Op.pick (Operand.tmp 59) (Operand.tmp 66) (Operand.const (Value.bool false)), type := 4, pos := "outright.go:49", after := #[{ on := 25, ground := Ground.data }, { on := 32, ground := Ground.data }], guard := none }) (v := ?_) rfl (by kernel_rfl) (by kernel_rfl) (by kernel_rfl) (fun _ _ _ h => h) (Or.inl ⟨by rfl, ?_⟩) (by assumption) ?_
  rotate_left
  · (intro ww hSw; (try dsimp only at hSw); go_simp; try with_reducible rfl)
  (try simp only [Act.put, List.setIfInBounds_toArray, List.set_cons_zero, List.set_cons_succ])
  refine wpAnyH_take (i := 34) (oi := { dst := some 2, op := Op.assign (Operand.tmp 67), type := 4, pos := "outright.go:49", after := #[{ on := 33, ground := Ground.data }, { on := 25, ground := Ground.chain }, { on := 0, ground := Ground.phase }, { on := 1, ground := Ground.phase }, { on := 2, ground := Ground.phase }, { on := 3, ground := Ground.phase }, { on := 4, ground := Ground.phase }, { on := 5, ground := Ground.phase }, { on := 6, ground := Ground.phase }, { on := 7, ground := Ground.phase }, { on := 8, ground := Ground.phase }, { on := 9, ground := Ground.phase }, { on := 10, ground := Ground.phase }, { on := 11, ground := Ground.phase }, { on := 12, ground := Ground.phase }, { on := 13, ground := Ground.phase }, { on := 14, ground := Ground.phase }, { on := 15, ground := Ground.phase }, { on := 16, ground := Ground.phase }, { on := 17, ground := Ground.phase }, { on := 18, ground := Ground.phase }, { on := 19, ground := Ground.phase }, { on := 20, ground := Ground.phase }, { on := 21, ground := Ground.phase }, { on := 22, ground := Ground.phase }, { on := 23, ground := Ground.phase }, { on := 24, ground := Ground.phase }, { on := 25, ground := Ground.phase }, { on := 26, ground := Ground.phase }, { on := 27, ground := Ground.phase }, { on := 28, ground := Ground.phase }, { on := 29, ground := Ground.phase }, { on := 30, ground := Ground.phase }, { on := 31, ground := Ground.phase }, { on := 32, ground := Ground.phase }, { on := 33, ground := Ground.phase }], guard := none }) (v := ?_) rfl (by kernel_rfl) (by kernel_rfl) (by kernel_rfl) (fun _ _ _ h => h) (Or.inl ⟨by rfl, ?_⟩) (by assumption) ?_
  rotate_left
  · (intro ww hSw; (try dsimp only at hSw); go_simp; try with_reducible rfl)
  (try simp only [Act.put, List.setIfInBounds_toArray, List.set_cons_zero, List.set_cons_succ])
  refine wpAnyH_done (by kernel_rfl) ?_ _
  refine NoPanic.normal ?_
  have hf := And.left hHeld
  rw [HBd.out] at hf
  have HF := Lib.hid hf
  clear hf hHeld heq hgu e1 e2 q1 q2 q3 q4
  go_wp2_with fail
  go_ret
  exact ⟨rfl, HF.out⟩
theorem ip4Again_any (s : ByteArray) (w : World) :
    Calls Try.prog 9 #[.string s] w fun e w' => e = .returned (.bool true) ∧ Below w.heap.size w w' := by
  by_cases h : s.size ≤ 70000
  · by_cases hc : pcode s = 0
    · exact ip4Again_packet s w h hc
    · exact ip4Again_none s w h hc
  · exact ip4Again_long s w (by omega)
end Go.Proofs.Ytjfkfeobmcnonaa
