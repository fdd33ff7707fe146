/-
  Proved here: the law Ip4Reads answers true, and leaves old memory as it was.
  Conditions: none.
-/
import Derived.Test.YtjfkfeobmcnonaaRefParseAll
namespace Go.Proofs.Ytjfkfeobmcnonaa
open Go.RowKit

set_option maxRecDepth 100000 in
set_option maxHeartbeats 400000 in
theorem ip4Reads_long (s : ByteArray) (w : World) (h : 70000 < s.size) :
    Calls Try.prog 5 #[.string s] w fun e w' => e = .returned (.bool true) ∧ Below w.heap.size w w' := by
  go_enter Try.func5, Try.ntmps5
  go_wp2_with fail
  refine (awake_true w).mono ?_
  rintro e w1 ⟨rfl, b1⟩
  have HBw1 := Lib.hid b1
  clear b1
  go_wp2_with fail
  go_ret
  exact ⟨rfl, HBw1.out⟩
set_option maxRecDepth 100000 in
set_option maxHeartbeats 400000 in
theorem ip4Reads_packet (s : ByteArray) (w : World) (h : s.size ≤ 70000) (hc : pcode s = 0) :
    Calls Try.prog 5 #[.string s] w fun e w' => e = .returned (.bool true) ∧ Below w.heap.size w w' := by
  obtain ⟨V, hV⟩ : ∃ V, V = (ppkt s).vals := ⟨_, rfl⟩
  have HIV : Hid ((Try.prog.info? 29).map (·.size) = some V.length) := Lib.hid (by rw [hV]; exact Try.infoIp (ppkt s))
  have HOV : Hid (V.toArray.all (·.oneCell') = true) := Lib.hid (by rw [hV]; exact vals_one (ppkt s))
  have HPV : Hid (∀ q : Pkt, puts q.vals.toArray 0 V = V.toArray) := Lib.hid (fun q => by rw [hV]; exact puts_all q (ppkt s))
  have HSV : Hid (V.toArray.size = 17) := Lib.hid (by rw [hV]; rfl)
  have HEV : Hid (∀ W, (binOp .eql 29 (.agg V.toArray) (.agg V.toArray)).run Try.prog W = .ok (.bool true) W) := Lib.hid (fun W => by rw [hV]; exact eqlP (ppkt s) W)
  have HPa : Hid (∀ W, Calls Try.prog 15 #[.string s] W fun e w' => e = .returned (.tuple #[.agg V.toArray, .nilIface]) ∧ Below W.heap.size W w') := Lib.hid (fun W => by rw [hV]; exact parse_ok s W h hc)
  have HRp : Hid (∀ W, Calls Try.prog 21 #[.string s] W fun e w' => e = .returned (.tuple #[.agg V.toArray, .int .i64 0]) ∧ Below W.heap.size W w') := Lib.hid (fun W => by rw [hV]; exact rparse_ok s W h hc)
  clear hV hc
  go_enter Try.func5, Try.ntmps5
  go_wp2_with fail
  refine (awake_true w).mono ?_
  rintro e w1 ⟨rfl, b1⟩
  have HBw1 := Lib.hid b1
  clear b1
  go_wp2_with fail
  refine (HPa.out _).mono ?_
  rintro e w2 ⟨rfl, bb⟩
  have HBw2 := Lib.hid (HBw1.out.trans (bb.mono HBw1.out.size))
  clear bb
  have ht : (w2.alloc (.cells #[.int .i64 0, .int .i64 0, .int .i64 0, .int .i64 0, .int .i64 0, .bool false, .bool false, .int .u8 0, .int .u8 0, .int .u8 0, .int .u8 0, .int .u8 0, .int .u8 0, .int .u8 0, .int .u8 0, .string ⟨#[]⟩, .string ⟨#[]⟩] 29)).there w2.heap.size 0 V.toArray.size := by rw [HSV.out]; exact (bk_new w2 29 #[.int .i64 0, .int .i64 0, .int .i64 0, .int .i64 0, .int .i64 0, .bool false, .bool false, .int .u8 0, .int .u8 0, .int .u8 0, .int .u8 0, .int .u8 0, .int .u8 0, .int .u8 0, .int .u8 0, .string ⟨#[]⟩, .string ⟨#[]⟩]).there 17 (Nat.le_refl _)
  go_upto_region 6 with (refine wpList_store_mid rfl 29 _ _ rfl w2.heap.size 0 V.toArray rfl rfl ht HIV.out HOV.out ?_)
  have hK := Bk.sets V 0 _ _ (show Bk _ w2.heap.size 29 pkt0.vals.toArray from bk_new w2 29 #[.int .i64 0, .int .i64 0, .int .i64 0, .int .i64 0, .int .i64 0, .bool false, .bool false, .int .u8 0, .int .u8 0, .int .u8 0, .int .u8 0, .int .u8 0, .int .u8 0, .int .u8 0, .int .u8 0, .string ⟨#[]⟩, .string ⟨#[]⟩])
  rw [HPV.out] at hK
  have hB := below_sets (b := w2.heap.size) V HBw2.out.size 0 _ (HBw2.out.alloc HBw2.out.size (.cells #[.int .i64 0, .int .i64 0, .int .i64 0, .int .i64 0, .int .i64 0, .bool false, .bool false, .int .u8 0, .int .u8 0, .int .u8 0, .int .u8 0, .int .u8 0, .int .u8 0, .int .u8 0, .int .u8 0, .string ⟨#[]⟩, .string ⟨#[]⟩] 29))
  have HKw3 := Lib.hid hK
  have HBw3 := Lib.hid hB
  clear ht hK hB
  generalize (w2.alloc (.cells #[.int .i64 0, .int .i64 0, .int .i64 0, .int .i64 0, .int .i64 0, .bool false, .bool false, .int .u8 0, .int .u8 0, .int .u8 0, .int .u8 0, .int .u8 0, .int .u8 0, .int .u8 0, .int .u8 0, .string ⟨#[]⟩, .string ⟨#[]⟩] 29)).setCells w2.heap.size 0 V = w3 at *
  go_wp2_with fail
  refine (HRp.out _).mono ?_
  rintro e w4 ⟨rfl, bb⟩
  have HBw4 := Lib.hid (HBw3.out.trans (bb.mono HBw3.out.size))
  have HKw4 := Lib.hid (HKw3.out.below bb HKw3.out.lt)
  clear bb
  clear HKw3
  have ht : (w4.alloc (.cells #[.int .i64 0, .int .i64 0, .int .i64 0, .int .i64 0, .int .i64 0, .bool false, .bool false, .int .u8 0, .int .u8 0, .int .u8 0, .int .u8 0, .int .u8 0, .int .u8 0, .int .u8 0, .int .u8 0, .string ⟨#[]⟩, .string ⟨#[]⟩] 29)).there w4.heap.size 0 V.toArray.size := by rw [HSV.out]; exact (bk_new w4 29 #[.int .i64 0, .int .i64 0, .int .i64 0, .int .i64 0, .int .i64 0, .bool false, .bool false, .int .u8 0, .int .u8 0, .int .u8 0, .int .u8 0, .int .u8 0, .int .u8 0, .int .u8 0, .int .u8 0, .string ⟨#[]⟩, .string ⟨#[]⟩]).there 17 (Nat.le_refl _)
  go_upto_region 7 with (refine wpList_store_mid rfl 29 _ _ rfl w4.heap.size 0 V.toArray rfl rfl ht HIV.out HOV.out ?_)
  have hK := Bk.sets V 0 _ _ (show Bk _ w4.heap.size 29 pkt0.vals.toArray from bk_new w4 29 #[.int .i64 0, .int .i64 0, .int .i64 0, .int .i64 0, .int .i64 0, .bool false, .bool false, .int .u8 0, .int .u8 0, .int .u8 0, .int .u8 0, .int .u8 0, .int .u8 0, .int .u8 0, .int .u8 0, .string ⟨#[]⟩, .string ⟨#[]⟩])
  rw [HPV.out] at hK
  have hB := below_sets (b := w4.heap.size) V HBw4.out.size 0 _ (HBw4.out.alloc HBw4.out.size (.cells #[.int .i64 0, .int .i64 0, .int .i64 0, .int .i64 0, .int .i64 0, .bool false, .bool false, .int .u8 0, .int .u8 0, .int .u8 0, .int .u8 0, .int .u8 0, .int .u8 0, .int .u8 0, .int .u8 0, .string ⟨#[]⟩, .string ⟨#[]⟩] 29))
  have hKo := (HKw4.out.alloc (.cells #[.int .i64 0, .int .i64 0, .int .i64 0, .int .i64 0, .int .i64 0, .bool false, .bool false, .int .u8 0, .int .u8 0, .int .u8 0, .int .u8 0, .int .u8 0, .int .u8 0, .int .u8 0, .int .u8 0, .string ⟨#[]⟩, .string ⟨#[]⟩] 29)).sets_other (b := w4.heap.size) (by have := HKw4.out.lt; omega) 0 V
  have HKo := Lib.hid hKo
  clear hKo
  have HKw5 := Lib.hid hK
  have HBw5 := Lib.hid hB
  clear ht hK hB
  generalize (w4.alloc (.cells #[.int .i64 0, .int .i64 0, .int .i64 0, .int .i64 0, .int .i64 0, .bool false, .bool false, .int .u8 0, .int .u8 0, .int .u8 0, .int .u8 0, .int .u8 0, .int .u8 0, .int .u8 0, .int .u8 0, .string ⟨#[]⟩, .string ⟨#[]⟩] 29)).setCells w4.heap.size 0 V = w5 at *
  have hr1 : w5.rangeAt w2.heap.size 0 V := HKo.out.range
  have hr2 : w5.rangeAt w4.heap.size 0 V := HKw5.out.range
  have heq := HEV.out
  have hgu := Try.guardIp
  go_wp2_with (first | (refine wpList_load_mid rfl 29 _ rfl w2.heap.size 0 rfl V _ hr1 Try.underlying29 rfl HIV.out ?_) | (refine wpList_load_mid rfl 29 _ rfl w4.heap.size 0 rfl V _ hr2 Try.underlying29 rfl HIV.out ?_))
  refine (same_ok _).mono ?_
  rintro e w6 ⟨rfl, rfl⟩
  clear hr1 hr2 heq hgu
  go_wp2_with fail
  go_ret
  exact ⟨rfl, HBw5.out⟩
set_option maxRecDepth 100000 in
set_option maxHeartbeats 400000 in
theorem ip4Reads_none (s : ByteArray) (w : World) (h : s.size ≤ 70000) (hc : pcode s ≠ 0) :
    Calls Try.prog 5 #[.string s] w fun e w' => e = .returned (.bool true) ∧ Below w.heap.size w w' := by
  obtain ⟨V, hV⟩ : ∃ V, V = (pkt0).vals := ⟨_, rfl⟩
  have HIV : Hid ((Try.prog.info? 29).map (·.size) = some V.length) := Lib.hid (by rw [hV]; exact Try.infoIp (pkt0))
  have HOV : Hid (V.toArray.all (·.oneCell') = true) := Lib.hid (by rw [hV]; exact vals_one (pkt0))
  have HPV : Hid (∀ q : Pkt, puts q.vals.toArray 0 V = V.toArray) := Lib.hid (fun q => by rw [hV]; exact puts_all q (pkt0))
  have HSV : Hid (V.toArray.size = 17) := Lib.hid (by rw [hV]; rfl)
  have HEV : Hid (∀ W, (binOp .eql 29 (.agg V.toArray) (.agg V.toArray)).run Try.prog W = .ok (.bool true) W) := Lib.hid (fun W => by rw [hV]; exact eqlP (pkt0) W)
  have HPa : Hid (∀ W, Calls Try.prog 15 #[.string s] W (Bad (.agg V.toArray) (pcode s) W)) := Lib.hid (fun W => by rw [hV]; exact parse_bad s W h hc)
  have HRp : Hid (∀ W, Calls Try.prog 21 #[.string s] W fun e w' => e = .returned (.tuple #[.agg V.toArray, .int .i64 (pcode s)]) ∧ Below W.heap.size W w') := Lib.hid (fun W => by rw [hV]; exact rparse_bad s W h hc)
  have HC : Hid ((pcode s == 0) = false) := Lib.hid (by rw [beq_eq_false_iff_ne]; exact hc)
  clear hV hc
  generalize pcode s = cc at *
  go_enter Try.func5, Try.ntmps5
  go_wp2_with fail
  refine (awake_true w).mono ?_
  rintro e w1 ⟨rfl, b1⟩
  have HBw1 := Lib.hid b1
  clear b1
  go_wp2_with fail
  refine (HPa.out _).mono ?_
  rintro e w2 ⟨fb, rfl, hfl, hfb, bb⟩
  have HBw2 := Lib.hid (HBw1.out.trans (bb.mono HBw1.out.size))
  have HF2 := Lib.hid hfl
  clear bb hfl hfb
  have ht : (w2.alloc (.cells #[.int .i64 0, .int .i64 0, .int .i64 0, .int .i64 0, .int .i64 0, .bool false, .bool false, .int .u8 0, .int .u8 0, .int .u8 0, .int .u8 0, .int .u8 0, .int .u8 0, .int .u8 0, .int .u8 0, .string ⟨#[]⟩, .string ⟨#[]⟩] 29)).there w2.heap.size 0 V.toArray.size := by rw [HSV.out]; exact (bk_new w2 29 #[.int .i64 0, .int .i64 0, .int .i64 0, .int .i64 0, .int .i64 0, .bool false, .bool false, .int .u8 0, .int .u8 0, .int .u8 0, .int .u8 0, .int .u8 0, .int .u8 0, .int .u8 0, .int .u8 0, .string ⟨#[]⟩, .string ⟨#[]⟩]).there 17 (Nat.le_refl _)
  go_upto_region 6 with (refine wpList_store_mid rfl 29 _ _ rfl w2.heap.size 0 V.toArray rfl rfl ht HIV.out HOV.out ?_)
  have hK := Bk.sets V 0 _ _ (show Bk _ w2.heap.size 29 pkt0.vals.toArray from bk_new w2 29 #[.int .i64 0, .int .i64 0, .int .i64 0, .int .i64 0, .int .i64 0, .bool false, .bool false, .int .u8 0, .int .u8 0, .int .u8 0, .int .u8 0, .int .u8 0, .int .u8 0, .int .u8 0, .int .u8 0, .string ⟨#[]⟩, .string ⟨#[]⟩])
  rw [HPV.out] at hK
  have hB := below_sets (b := w2.heap.size) V HBw2.out.size 0 _ (HBw2.out.alloc HBw2.out.size (.cells #[.int .i64 0, .int .i64 0, .int .i64 0, .int .i64 0, .int .i64 0, .bool false, .bool false, .int .u8 0, .int .u8 0, .int .u8 0, .int .u8 0, .int .u8 0, .int .u8 0, .int .u8 0, .int .u8 0, .string ⟨#[]⟩, .string ⟨#[]⟩] 29))
  have HF3 : Hid (Flt ((w2.alloc (.cells #[.int .i64 0, .int .i64 0, .int .i64 0, .int .i64 0, .int .i64 0, .bool false, .bool false, .int .u8 0, .int .u8 0, .int .u8 0, .int .u8 0, .int .u8 0, .int .u8 0, .int .u8 0, .int .u8 0, .string ⟨#[]⟩, .string ⟨#[]⟩] 29)).setCells w2.heap.size 0 V) fb cc 0) := Lib.hid ((heap_sets V (by have := HF2.out.lt; omega) 0 _).trans ((Below.heap_alloc w2 _ fb HF2.out.lt).trans HF2.out))
  have HKw3 := Lib.hid hK
  have HBw3 := Lib.hid hB
  clear ht hK hB
  generalize (w2.alloc (.cells #[.int .i64 0, .int .i64 0, .int .i64 0, .int .i64 0, .int .i64 0, .bool false, .bool false, .int .u8 0, .int .u8 0, .int .u8 0, .int .u8 0, .int .u8 0, .int .u8 0, .int .u8 0, .int .u8 0, .string ⟨#[]⟩, .string ⟨#[]⟩] 29)).setCells w2.heap.size 0 V = w3 at *
  go_wp2_with fail
  refine (HRp.out _).mono ?_
  rintro e w4 ⟨rfl, bb⟩
  have HBw4 := Lib.hid (HBw3.out.trans (bb.mono HBw3.out.size))
  have HKw4 := Lib.hid (HKw3.out.below bb HKw3.out.lt)
  have HF4 := Lib.hid (HF3.out.below bb HF3.out.lt)
  clear bb
  clear HKw3 HF2 HF3
  have ht : (w4.alloc (.cells #[.int .i64 0, .int .i64 0, .int .i64 0, .int .i64 0, .int .i64 0, .bool false, .bool false, .int .u8 0, .int .u8 0, .int .u8 0, .int .u8 0, .int .u8 0, .int .u8 0, .int .u8 0, .int .u8 0, .string ⟨#[]⟩, .string ⟨#[]⟩] 29)).there w4.heap.size 0 V.toArray.size := by rw [HSV.out]; exact (bk_new w4 29 #[.int .i64 0, .int .i64 0, .int .i64 0, .int .i64 0, .int .i64 0, .bool false, .bool false, .int .u8 0, .int .u8 0, .int .u8 0, .int .u8 0, .int .u8 0, .int .u8 0, .int .u8 0, .int .u8 0, .string ⟨#[]⟩, .string ⟨#[]⟩]).there 17 (Nat.le_refl _)
  go_upto_region 7 with (refine wpList_store_mid rfl 29 _ _ rfl w4.heap.size 0 V.toArray rfl rfl ht HIV.out HOV.out ?_)
  have hK := Bk.sets V 0 _ _ (show Bk _ w4.heap.size 29 pkt0.vals.toArray from bk_new w4 29 #[.int .i64 0, .int .i64 0, .int .i64 0, .int .i64 0, .int .i64 0, .bool false, .bool false, .int .u8 0, .int .u8 0, .int .u8 0, .int .u8 0, .int .u8 0, .int .u8 0, .int .u8 0, .int .u8 0, .string ⟨#[]⟩, .string ⟨#[]⟩])
  rw [HPV.out] at hK
  have hB := below_sets (b := w4.heap.size) V HBw4.out.size 0 _ (HBw4.out.alloc HBw4.out.size (.cells #[.int .i64 0, .int .i64 0, .int .i64 0, .int .i64 0, .int .i64 0, .bool false, .bool false, .int .u8 0, .int .u8 0, .int .u8 0, .int .u8 0, .int .u8 0, .int .u8 0, .int .u8 0, .int .u8 0, .string ⟨#[]⟩, .string ⟨#[]⟩] 29))
  have hKo := (HKw4.out.alloc (.cells #[.int .i64 0, .int .i64 0, .int .i64 0, .int .i64 0, .int .i64 0, .bool false, .bool false, .int .u8 0, .int .u8 0, .int .u8 0, .int .u8 0, .int .u8 0, .int .u8 0, .int .u8 0, .int .u8 0, .string ⟨#[]⟩, .string ⟨#[]⟩] 29)).sets_other (b := w4.heap.size) (by have := HKw4.out.lt; omega) 0 V
  have HKo := Lib.hid hKo
  clear hKo
  have HF5 : Hid (Flt ((w4.alloc (.cells #[.int .i64 0, .int .i64 0, .int .i64 0, .int .i64 0, .int .i64 0, .bool false, .bool false, .int .u8 0, .int .u8 0, .int .u8 0, .int .u8 0, .int .u8 0, .int .u8 0, .int .u8 0, .int .u8 0, .string ⟨#[]⟩, .string ⟨#[]⟩] 29)).setCells w4.heap.size 0 V) fb cc 0) := Lib.hid ((heap_sets V (by have := HF4.out.lt; omega) 0 _).trans ((Below.heap_alloc w4 _ fb HF4.out.lt).trans HF4.out))
  have HKw5 := Lib.hid hK
  have HBw5 := Lib.hid hB
  clear ht hK hB
  generalize (w4.alloc (.cells #[.int .i64 0, .int .i64 0, .int .i64 0, .int .i64 0, .int .i64 0, .bool false, .bool false, .int .u8 0, .int .u8 0, .int .u8 0, .int .u8 0, .int .u8 0, .int .u8 0, .int .u8 0, .int .u8 0, .string ⟨#[]⟩, .string ⟨#[]⟩] 29)).setCells w4.heap.size 0 V = w5 at *
  have hr1 : w5.rangeAt w2.heap.size 0 V := HKo.out.range
  have hr2 : w5.rangeAt w4.heap.size 0 V := HKw5.out.range
  have heq := HEV.out
  have hgu := Try.guardIp
  go_wp2_with (first | (refine wpList_load_mid rfl 29 _ rfl w2.heap.size 0 rfl V _ hr1 Try.underlying29 rfl HIV.out ?_) | (refine wpList_load_mid rfl 29 _ rfl w4.heap.size 0 rfl V _ hr2 Try.underlying29 rfl HIV.out ?_))
  refine (same_fault HF5.out HC.out).mono ?_
  rintro e w6 ⟨rfl, rfl⟩
  clear hr1 hr2 heq hgu
  go_wp2_with fail
  go_ret
  exact ⟨rfl, HBw5.out⟩
theorem ip4Reads_any (s : ByteArray) (w : World) :
    Calls Try.prog 5 #[.string s] w fun e w' => e = .returned (.bool true) ∧ Below w.heap.size w w' := by
  by_cases h : s.size ≤ 70000
  · by_cases hc : pcode s = 0
    · exact ip4Reads_packet s w h hc
    · exact ip4Reads_none s w h hc
  · exact ip4Reads_long s w (by omega)
end Go.Proofs.Ytjfkfeobmcnonaa
