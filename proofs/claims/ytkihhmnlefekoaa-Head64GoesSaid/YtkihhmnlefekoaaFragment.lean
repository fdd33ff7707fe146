/-
  Proved here: what ip6.readFragment answers.
  Conditions: texts of at most 70000 bytes.
-/
import Derived.Test.YtkihhmnlefekoaaRead
namespace Go.Proofs.Ytkihhmnlefekoaa
open Go.RowKit

theorem Try.execZ6 (ρ : Operand → Value) (d : Option Tmp) (ty : TypeId) (ps : String) (af : Array Edge) (w : World) : (execOp ρ { dst := d, op := .build 35 #[], type := ty, pos := ps, after := af, guard := none }).run Try.prog w = .ok (.value (.agg (pk0.vals (.slice none 0 0)).toArray)) w := by kernel_rfl
/-- The place word of a fragment's head. -/
def frW (d : ByteArray) : Nat := numOf (d.extract 2 (2 + 2)).data.toList
def frI (d : ByteArray) : Nat := numOf (d.extract 4 (4 + 4)).data.toList
/-- The packet whose data begin with a fragment's head. -/
def frP (p : Pk6) : Pk6 := { p with frag := true, proto := (byN p.data 0 : Nat), pl := (frW p.data : Int) / 8 * 8, more := ((frW p.data : Int) % 2 != 0), id := (frI p.data : Nat), data := p.data.extract 8 p.data.size }
theorem frW_lt (d : ByteArray) : frW d < 65536 := by
  unfold frW
  have h1 := numOf_lt (d.extract 2 (2 + 2)).data.toList
  have h2 : (d.extract 2 (2 + 2)).data.toList.length ≤ 2 := by rw [ba_size]; simp; omega
  have h3 : 256 ^ (d.extract 2 (2 + 2)).data.toList.length ≤ 256 ^ 2 := Nat.pow_le_pow_right (by omega) h2
  omega
theorem frI_lt (d : ByteArray) : frI d < 4294967296 := by
  unfold frI
  have := numOf_take ((d.extract 4 (4 + 4)).data.toList) 4 (Nat.le_refl _)
  rwa [List.take_of_length_le (by rw [ba_size]; simp; omega)] at this
theorem and_eight (x : Nat) (hx : x < 65536) : bits .and .i64 ((x : Nat) : Int) 65528 = (x : Int) / 8 * 8 := by
  have h1 : (BitVec.ofInt 64 ((x : Nat) : Int)).toNat = x := by
    rw [BitVec.ofInt_natCast, BitVec.toNat_ofNat]; exact Nat.mod_eq_of_lt (by omega)
  have h2 : (BitVec.ofInt 64 (65528 : Int)).toNat = 65528 := by decide
  have h3 : x &&& 65528 = x / 8 * 8 := by
    apply Nat.eq_of_testBit_eq
    intro i
    rw [Nat.testBit_and, show 65528 = (2 ^ 13 - 1) * 2 ^ 3 by decide, show x / 8 * 8 = x / 2 ^ 3 * 2 ^ 3 by omega, Nat.testBit_mul_two_pow, Nat.testBit_mul_two_pow, Nat.testBit_two_pow_sub_one, Nat.testBit_div_two_pow]
    by_cases h : 3 ≤ i
    · have e : i - 3 + 3 = i := by omega
      by_cases h16 : i - 3 < 13
      · simp [h, h16, e]
      · have : x.testBit i = false := Nat.testBit_lt_two_pow (Nat.lt_of_lt_of_le hx (show 65536 ≤ 2 ^ i from Nat.le_trans (by decide : 65536 ≤ 2 ^ 16) (Nat.pow_le_pow_right (by omega) (by omega))))
        simp [h, h16, e, this]
    · simp [h]
  show IntKind.i64.wrap ((BitVec.ofInt 64 ((x : Nat) : Int) &&& BitVec.ofInt 64 (65528 : Int)).toNat : Int) = _
  rw [BitVec.toNat_and, h1, h2, h3, IntKind.wrap_i64]
  omega
theorem and_one (x : Nat) (hx : x < 65536) : bits .and .i64 ((x : Nat) : Int) 1 = (x : Int) % 2 := by
  have := and_mask x 1 (by decide) (by omega) 1 (by decide)
  rw [this]
  omega
/-- What lies in memory while a fragment's head is read. -/
structure RF (w0 : World) (b c r : Nat) (V Z : List Value) (s : ByteArray) (k : Nat) (w : World) : Prop where
  rs : RS w0 b r V s k w
  res : Bk w c 35 Z.toArray
  cb : c ≠ b
  cr : c ≠ r
  hc : w0.heap.size ≤ c
section
variable {w0 w w' : World} {b c r : Nat} {V Z : List Value} {s : ByteArray} {k : Nat}
theorem RF.next (h : RF w0 b c r V Z s k w) {k' : Nat} (hR : Rd w' r s k' 0) (hG : w.grownBy w' (some r)) : RF w0 b c r V Z s k' w' :=
  ⟨h.rs.next hR hG, h.res.grown hG (fun e => by injection e with e; exact h.cr e), h.cb, h.cr, h.hc⟩
theorem RF.set (h : RF w0 b c r V Z s k w) (i : Nat) (v : Value) (V' : List Value) (hq : V.toArray.setIfInBounds i v = V'.toArray) : RF w0 b c r V' Z s k (w.setCell ⟨b, i, none⟩ v) :=
  ⟨h.rs.set i v V' hq, h.res.set_other h.cb i v, h.cb, h.cr, h.hc⟩
end
set_option maxRecDepth 100000 in
set_option maxHeartbeats 400000 in
theorem readFragment_short (p : Pk6) (v : Value) (w : World) (h : p.data.size < 8) :
    Calls Try.prog 38 #[.agg (p.vals v).toArray] w (Bad (.agg (pk0.vals (.slice none 0 0)).toArray) 7 w) := by
  obtain ⟨V, hV, hVl, hD, hK⟩ := boxed6 p v w
  obtain ⟨Z, hZ⟩ : ∃ Z, Z = pk0.vals (.slice none 0 0) := ⟨_, rfl⟩
  have HEX : Hid (∀ (ρ : Operand → Value) (d : Option Tmp) (ty : TypeId) (ps : String) (af : Array Edge) (W : World), (execOp ρ { dst := d, op := .build 35 #[], type := ty, pos := ps, after := af, guard := none }).run Try.prog W = .ok (.value (.agg Z.toArray)) W) := Lib.hid (fun ρ d ty ps af W => by rw [hZ]; exact Try.execZ6 ρ d ty ps af W)
  have HIz : Hid ((Try.prog.info? 35).map (·.size) = some Z.length) := Lib.hid (by rw [hZ]; exact Try.info6 _ _)
  have HOz : Hid (Z.toArray.all (·.oneCell') = true) := Lib.hid (by rw [hZ]; exact vals_one _ _ rfl)
  have hz0 : Z.toArray = #[.int .i64 0, .int .i64 0, .int .i64 0, .int .u8 0, .int .u8 0, .int .u8 0, .int .u8 0, .int .u8 0, .int .u8 0, .int .u8 0, .int .u8 0, .int .u8 0, .int .u8 0, .int .u8 0, .int .u8 0, .int .u8 0, .int .u8 0, .int .u8 0, .int .u8 0, .int .u8 0, .int .u8 0, .int .u8 0, .int .u8 0, .int .u8 0, .int .u8 0, .int .u8 0, .int .u8 0, .int .u8 0, .int .u8 0, .int .u8 0, .int .u8 0, .int .u8 0, .int .u8 0, .int .u8 0, .int .u8 0, .slice none 0 0, .bool false, .int .u32 0, .int .i64 0, .bool false, .int .i64 0, .string ⟨#[]⟩] := by rw [hZ]; exact pk0_vals
  have HZ := Lib.hid hZ
  clear hZ
  have hlt : (p.data.size : Int) < 8 := by omega
  rw [← hV]
  clear hV
  have hK2 := hK.new 35 Z
  have hsz1 : (w.alloc (.cells V.toArray 35)).heap.size = w.heap.size + 1 := by simp
  rw [hsz1] at hK2
  have HK := Lib.hid hK2
  have hsz2 : ((w.alloc (.cells V.toArray 35)).alloc (.cells Z.toArray 35)).heap.size = w.heap.size + 2 := by simp
  have hb1 : Below (w.heap.size + 1) (w.alloc (.cells V.toArray 35)) ((w.alloc (.cells V.toArray 35)).alloc (.cells Z.toArray 35)) := (Below.refl _ _).alloc (by simp) _
  have d41 := (hb1.cell (p := ⟨w.heap.size, 41, none⟩) (Nat.lt_succ_self _)).trans hD.c41
  clear hb1 hK hK2 hD hsz1
  generalize hw1 : (w.alloc (.cells V.toArray 35)).alloc (.cells Z.toArray 35) = w1 at *
  rw [hz0] at hw1
  go_enter Try.func38, Try.ntmps38
  go_upto_region 1 with (fail)
  clear hw1 hz0
  go_wp2_with (refine Great.wpList_readTo rfl _ rfl (.agg Z.toArray) (HEX.out _ _ _ _ _ _) ?_)
  refine (fault_any _ _).mono ?_
  rintro e w2 ⟨rfl, rfl⟩
  have hkc : Bk (w1.alloc (.cells #[.int .i64 7, .int .i64 0] 78)) (w.heap.size + 1) 35 Z.toArray := HK.out.hd.alloc _
  have htf := hkc.there _ (Nat.le_refl _)
  go_wp2_with (refine wpList_store_mid rfl 35 _ _ rfl (w.heap.size + 1) 0 Z.toArray rfl rfl htf HIz.out HOz.out ?_)
  have hk5 := Bk.sets Z 0 _ _ hkc
  rw [puts_whole Z.toArray Z (by simp)] at hk5
  refine bodyPost_ret (v := .tuple #[.agg Z.toArray, .iface 75 (.pointer (some ⟨w.heap.size + 2, 0, none⟩))]) ?_ rfl ?_
  · exact results_cell2 rfl rfl rfl (run_loadVar_mid _ (w.heap.size + 1) 0 35 Z _ hk5.range Try.underlying35 rfl HIz.out)
  · refine ⟨w.heap.size + 2, by rw [HZ.out], ?_, by omega, below_sets _ (by omega) 0 _ (HK.out.2.1.alloc HK.out.2.2 _)⟩
    exact (heap_sets Z (by omega) 0 _).trans (Flt.newAt w1 7 0 _ hsz2.symm)
set_option maxRecDepth 100000 in
set_option maxHeartbeats 1000000 in
theorem readFragment_piece (p : Pk6) (v : Value) (w : World) (hd : p.data.size ≤ 70000) (h : 8 ≤ p.data.size) (hpc : (frP p).piece = false) :
    Calls Try.prog 38 #[.agg (p.vals v).toArray] w (Bad (.agg (pk0.vals (.slice none 0 0)).toArray) 8 w) := by
  obtain ⟨V, hV, hVl, hD, hK⟩ := boxed6 p v w
  obtain ⟨Z, hZ⟩ : ∃ Z, Z = pk0.vals (.slice none 0 0) := ⟨_, rfl⟩
  have HEX : Hid (∀ (ρ : Operand → Value) (d : Option Tmp) (ty : TypeId) (ps : String) (af : Array Edge) (W : World), (execOp ρ { dst := d, op := .build 35 #[], type := ty, pos := ps, after := af, guard := none }).run Try.prog W = .ok (.value (.agg Z.toArray)) W) := Lib.hid (fun ρ d ty ps af W => by rw [hZ]; exact Try.execZ6 ρ d ty ps af W)
  have HIz : Hid ((Try.prog.info? 35).map (·.size) = some Z.length) := Lib.hid (by rw [hZ]; exact Try.info6 _ _)
  have HOz : Hid (Z.toArray.all (·.oneCell') = true) := Lib.hid (by rw [hZ]; exact vals_one _ _ rfl)
  have hz0 : Z.toArray = #[.int .i64 0, .int .i64 0, .int .i64 0, .int .u8 0, .int .u8 0, .int .u8 0, .int .u8 0, .int .u8 0, .int .u8 0, .int .u8 0, .int .u8 0, .int .u8 0, .int .u8 0, .int .u8 0, .int .u8 0, .int .u8 0, .int .u8 0, .int .u8 0, .int .u8 0, .int .u8 0, .int .u8 0, .int .u8 0, .int .u8 0, .int .u8 0, .int .u8 0, .int .u8 0, .int .u8 0, .int .u8 0, .int .u8 0, .int .u8 0, .int .u8 0, .int .u8 0, .int .u8 0, .int .u8 0, .int .u8 0, .slice none 0 0, .bool false, .int .u32 0, .int .i64 0, .bool false, .int .i64 0, .string ⟨#[]⟩] := by rw [hZ]; exact pk0_vals
  have HZ := Lib.hid hZ
  clear hZ
  have hl8 : ¬ (p.data.size : Int) < 8 := by omega
  have hm : p.data.size ≤ maxLen := by unfold maxLen; omega
  have HM := Lib.hid hm
  clear hm
  have F0 : Hid (numOf (p.data.extract 0 (0 + 1)).data.toList = byN p.data 0) := Lib.hid (numOf_one p.data 0 (by omega))
  have F2 : Hid (numOf (p.data.extract 2 (2 + 2)).data.toList = frW p.data) := Lib.hid rfl
  have F4 : Hid (numOf (p.data.extract 4 (4 + 4)).data.toList = frI p.data) := Lib.hid rfl
  have hwl := frW_lt p.data
  have hil := frI_lt p.data
  have K1 := Lib.hid (and_eight (frW p.data) hwl)
  have K2 := Lib.hid (and_one (frW p.data) hwl)
  have HV0 := Lib.hid hV
  have CP : Hid (∀ W V6, V6 = (frP p).vals v → Calls Try.prog 56 #[.agg V6.toArray] W fun e w' => e = .returned (.bool false) ∧ Below W.heap.size W w') := Lib.hid (fun W V6 h6 => by rw [h6, ← hpc]; exact piece_any (frP p) v W (by show (p.data.extract 8 p.data.size).size ≤ _; simp; omega))
  have HIv6 : Hid (∀ V6, V6 = (frP p).vals v → (Try.prog.info? 35).map (·.size) = some V6.length) := Lib.hid (fun V6 h6 => by rw [h6]; exact Try.info6 _ _)
  rw [← hV]
  clear hV
  have hK2 := hK.new 35 Z
  have hsz1 : (w.alloc (.cells V.toArray 35)).heap.size = w.heap.size + 1 := by simp
  rw [hsz1] at hK2
  have HK := Lib.hid hK2
  have hsz2 : ((w.alloc (.cells V.toArray 35)).alloc (.cells Z.toArray 35)).heap.size = w.heap.size + 2 := by simp
  have hb1 : Below (w.heap.size + 1) (w.alloc (.cells V.toArray 35)) ((w.alloc (.cells V.toArray 35)).alloc (.cells Z.toArray 35)) := (Below.refl _ _).alloc (by simp) _
  have d41 := (hb1.cell (p := ⟨w.heap.size, 41, none⟩) (Nat.lt_succ_self _)).trans hD.c41
  clear hb1 hK hK2 hD hsz1
  generalize hw1 : (w.alloc (.cells V.toArray 35)).alloc (.cells Z.toArray 35) = w1 at *
  rw [hz0] at hw1
  go_enter Try.func38, Try.ntmps38
  go_upto_region 1 with (fail)
  clear hw1 hz0
  go_wp2_with fail
  refine (new_any p.data w1).mono ?_
  rintro e w2 ⟨rfl, hw2⟩
  have hS : RF w w.heap.size (w.heap.size + 1) (w.heap.size + 2) V Z p.data 0 w2 := by
    have h1 : Rd w2 (w.heap.size + 2) p.data 0 0 := by rw [← hsz2, hw2]; exact Rd.new w1 _
    have h2 : Bk w2 w.heap.size 35 V.toArray := hw2 ▸ (HK.out.tl.hd).alloc _
    have h3 : Bk w2 (w.heap.size + 1) 35 Z.toArray := hw2 ▸ HK.out.hd.alloc _
    exact ⟨⟨h2, h1, Below.refl _ _, hw2 ▸ HK.out.2.1.alloc HK.out.2.2 _, Nat.le_refl _, by omega, by omega⟩, h3, by omega, by omega, by omega⟩
  have HS := Lib.hid hS
  clear hS hw2 HK d41
  generalize w.heap.size + 2 = r at *
  generalize w.heap.size + 1 = c at *
  have c36 := HS.out.rs.blk.at (show V[36]? = some (.bool p.frag) by rw [HV0.out]; exact vals_tail p v 1)
  have z36 := HS.out.rs.blk.z 36
  go_wp2_with fail
  obtain ⟨V1, hV1⟩ : ∃ V, V = ({ p with frag := true } : Pk6).vals v := ⟨_, rfl⟩
  have HS1 : Hid (RF w w.heap.size c r V1 Z p.data 0 _) := Lib.hid (HS.out.set 36 (.bool true) V1 (by rw [HV0.out, hV1]; exact vtail p v 1 _ ({ p with frag := true } : Pk6) v rfl rfl))
  have HV1 := Lib.hid hV1
  clear hV1 HS HV0 c36 z36
  generalize w2.setCell ⟨w.heap.size, 36, none⟩ (.bool true) = w3 at *
  refine (u8_of _ _ (number_ok (show Rd _ r p.data 0 0 from HS1.out.rs.rd) HM.out 1 (by decide) (by omega)) two_read).mono ?_
  rintro e w4 ⟨rfl, hR, hG⟩
  rw [F0.out]
  have HS2 : Hid (RF w w.heap.size c r V1 Z p.data 1 w4) := Lib.hid (HS1.out.next hR hG)
  clear hR hG HS1
  have c40 := HS2.out.rs.blk.at (show V1[40]? = some (.int .i64 p.proto) by rw [HV1.out]; exact vals_tail ({ p with frag := true } : Pk6) v 5)
  have z40 := HS2.out.rs.blk.z 40
  go_wp2_with fail
  obtain ⟨V2, hV2⟩ : ∃ V, V = ({ p with frag := true, proto := ((byN p.data 0 : Nat) : Int) } : Pk6).vals v := ⟨_, rfl⟩
  have HS3 : Hid (RF w w.heap.size c r V2 Z p.data 1 _) := Lib.hid (HS2.out.set 40 (.int .i64 (byN p.data 0 : Nat)) V2 (by rw [HV1.out, hV2]; exact vtail ({ p with frag := true } : Pk6) v 5 _ ({ p with frag := true, proto := ((byN p.data 0 : Nat) : Int) } : Pk6) v rfl rfl))
  have HV2 := Lib.hid hV2
  clear hV2 HS2 HV1 c40 z40
  generalize w4.setCell ⟨w.heap.size, 40, none⟩ (.int .i64 (byN p.data 0 : Nat)) = w5 at *
  refine (u8_of _ _ (number_ok (show Rd _ r p.data 1 0 from HS3.out.rs.rd) HM.out 1 (by decide) (by omega)) two_read).mono ?_
  rintro e w6 ⟨rfl, hR, hG⟩
  have HS4 : Hid (RF w w.heap.size c r V2 Z p.data 2 w6) := Lib.hid (HS3.out.next hR hG)
  clear hR hG HS3
  go_wp2_with fail
  refine (u16_of _ _ (number_ok (show Rd _ r p.data 2 0 from HS4.out.rs.rd) HM.out 2 (by decide) (by omega)) two_read).mono ?_
  rintro e w7 ⟨rfl, hR, hG⟩
  rw [F2.out]
  have HS5 : Hid (RF w w.heap.size c r V2 Z p.data 4 w7) := Lib.hid (HS4.out.next hR hG)
  clear hR hG HS4
  have c38 := HS5.out.rs.blk.at (show V2[38]? = some (.int .i64 p.pl) by rw [HV2.out]; exact vals_tail ({ p with frag := true, proto := ((byN p.data 0 : Nat) : Int) } : Pk6) v 3)
  have z38 := HS5.out.rs.blk.z 38
  have c39 := HS5.out.rs.blk.at (show V2[39]? = some (.bool p.more) by rw [HV2.out]; exact vals_tail ({ p with frag := true, proto := ((byN p.data 0 : Nat) : Int) } : Pk6) v 4)
  have z39 := HS5.out.rs.blk.z 39
  have k1 := K1.out
  have k2 := K2.out
  go_wp2_with fail
  obtain ⟨V3, hV3⟩ : ∃ V, V = ({ p with frag := true, proto := ((byN p.data 0 : Nat) : Int), pl := (frW p.data : Int) / 8 * 8 } : Pk6).vals v := ⟨_, rfl⟩
  obtain ⟨V4, hV4⟩ : ∃ V, V = ({ p with frag := true, proto := ((byN p.data 0 : Nat) : Int), pl := (frW p.data : Int) / 8 * 8, more := ((frW p.data : Int) % 2 != 0) } : Pk6).vals v := ⟨_, rfl⟩
  have HS6 : Hid (RF w w.heap.size c r V4 Z p.data 4 _) := Lib.hid ((HS5.out.set 38 (.int .i64 ((frW p.data : Int) / 8 * 8)) V3 (by rw [HV2.out, hV3]; exact vtail ({ p with frag := true, proto := ((byN p.data 0 : Nat) : Int) } : Pk6) v 3 _ ({ p with frag := true, proto := ((byN p.data 0 : Nat) : Int), pl := (frW p.data : Int) / 8 * 8 } : Pk6) v rfl rfl)).set 39 (.bool ((frW p.data : Int) % 2 != 0)) V4 (by rw [hV3, hV4]; exact vtail ({ p with frag := true, proto := ((byN p.data 0 : Nat) : Int), pl := (frW p.data : Int) / 8 * 8 } : Pk6) v 4 _ ({ p with frag := true, proto := ((byN p.data 0 : Nat) : Int), pl := (frW p.data : Int) / 8 * 8, more := ((frW p.data : Int) % 2 != 0) } : Pk6) v rfl rfl))
  have HV4 := Lib.hid hV4
  clear hV3 hV4 HS5 HV2 c38 z38 c39 z39 k1 k2
  generalize (w7.setCell ⟨w.heap.size, 38, none⟩ (.int .i64 ((frW p.data : Int) / 8 * 8))).setCell ⟨w.heap.size, 39, none⟩ (.bool ((frW p.data : Int) % 2 != 0)) = w8 at *
  refine (u32_of _ _ (number_ok (show Rd _ r p.data 4 0 from HS6.out.rs.rd) HM.out 4 (by decide) (by omega)) two_read).mono ?_
  rintro e w9 ⟨rfl, hR, hG⟩
  rw [F4.out]
  have HS7 : Hid (RF w w.heap.size c r V4 Z p.data 8 w9) := Lib.hid (HS6.out.next hR hG)
  clear hR hG HS6
  have c37 := HS7.out.rs.blk.at (show V4[37]? = some (.int .u32 p.id) by rw [HV4.out]; exact vals_tail ({ p with frag := true, proto := ((byN p.data 0 : Nat) : Int), pl := (frW p.data : Int) / 8 * 8, more := ((frW p.data : Int) % 2 != 0) } : Pk6) v 2)
  have z37 := HS7.out.rs.blk.z 37
  have k5 : IntKind.u32.wrap (frI p.data : Int) = (frI p.data : Int) := by rw [IntKind.wrap_u32]; omega
  go_wp2_with fail
  obtain ⟨V5, hV5⟩ : ∃ V, V = ({ p with frag := true, proto := ((byN p.data 0 : Nat) : Int), pl := (frW p.data : Int) / 8 * 8, more := ((frW p.data : Int) % 2 != 0), id := ((frI p.data : Nat) : Int) } : Pk6).vals v := ⟨_, rfl⟩
  have HS8 : Hid (RF w w.heap.size c r V5 Z p.data 8 _) := Lib.hid (HS7.out.set 37 (.int .u32 (frI p.data : Nat)) V5 (by rw [HV4.out, hV5]; exact vtail ({ p with frag := true, proto := ((byN p.data 0 : Nat) : Int), pl := (frW p.data : Int) / 8 * 8, more := ((frW p.data : Int) % 2 != 0) } : Pk6) v 2 _ ({ p with frag := true, proto := ((byN p.data 0 : Nat) : Int), pl := (frW p.data : Int) / 8 * 8, more := ((frW p.data : Int) % 2 != 0), id := ((frI p.data : Nat) : Int) } : Pk6) v rfl rfl))
  have HV5 := Lib.hid hV5
  clear hV5 HS7 HV4 c37 z37 k5
  generalize w9.setCell ⟨w.heap.size, 37, none⟩ (.int .u32 (frI p.data : Nat)) = w10 at *
  refine (rest_ok (show Rd _ r p.data 8 0 from HS8.out.rs.rd) (by omega)).mono ?_
  rintro e w11 ⟨rfl, hR, hG⟩
  have HS9 : Hid (RF w w.heap.size c r V5 Z p.data p.data.size w11) := Lib.hid (HS8.out.next hR hG)
  clear hR hG HS8
  have c41 := HS9.out.rs.blk.at (show V5[41]? = some (.string p.data) by rw [HV5.out]; exact vals_tail ({ p with frag := true, proto := ((byN p.data 0 : Nat) : Int), pl := (frW p.data : Int) / 8 * 8, more := ((frW p.data : Int) % 2 != 0), id := ((frI p.data : Nat) : Int) } : Pk6) v 6)
  have z41 := HS9.out.rs.blk.z 41
  obtain ⟨V6, hV6⟩ : ∃ V, V = (frP p).vals v := ⟨_, rfl⟩
  have hS10 : RF w w.heap.size c r V6 Z p.data p.data.size (w11.setCell ⟨w.heap.size, 41, none⟩ (.string (p.data.extract 8 p.data.size))) := HS9.out.set 41 (.string (p.data.extract 8 p.data.size)) V6 (by rw [HV5.out, hV6]; exact vtail ({ p with frag := true, proto := ((byN p.data 0 : Nat) : Int), pl := (frW p.data : Int) / 8 * 8, more := ((frW p.data : Int) % 2 != 0), id := ((frI p.data : Nat) : Int) } : Pk6) v 6 _ (frP p) v rfl rfl)
  have HV6 := Lib.hid hV6
  have HI6 := Lib.hid (HIv6.out V6 hV6)
  have CP6 := Lib.hid (fun W => CP.out W V6 hV6)
  have hrg := hS10.rs.blk.range
  have HS10 := Lib.hid hS10
  clear hV6 HS9 HV5 hS10 CP HIv6 F0 F2 F4 K1 K2 HM hwl hil
  go_wp2_with (refine wpList_load_mid rfl 35 _ rfl _ 0 rfl V6 _ hrg Try.underlying35 rfl HI6.out ?_)
  refine (CP6.out _).mono ?_
  rintro e w12 ⟨rfl, b1⟩
  have HB12 := Lib.hid (HS10.out.rs.low.trans (b1.mono HS10.out.rs.low.size))
  have HC12 := Lib.hid (HS10.out.res.below b1 HS10.out.res.lt)
  have HP12 := Lib.hid (HS10.out.rs.blk.below b1 HS10.out.rs.blk.lt)
  have HhC := Lib.hid HS10.out.hc
  clear b1 hrg c41 z41 HS10 CP6
  go_wp2_with (refine Great.wpList_readTo rfl _ rfl (.agg Z.toArray) (HEX.out _ _ _ _ _ _) ?_)
  refine (fault_any _ _).mono ?_
  rintro e w20 ⟨rfl, rfl⟩
  have hkc : Bk (w12.alloc (.cells #[.int .i64 8, .int .i64 0] 78)) c 35 Z.toArray := HC12.out.alloc _
  have htf := hkc.there _ (Nat.le_refl _)
  go_wp2_with (refine wpList_store_mid rfl 35 _ _ rfl c 0 Z.toArray rfl rfl htf HIz.out HOz.out ?_)
  have hk5 := Bk.sets Z 0 _ _ hkc
  rw [puts_whole Z.toArray Z (by simp)] at hk5
  have hlc := HC12.out.lt
  refine bodyPost_ret (v := .tuple #[.agg Z.toArray, .iface 75 (.pointer (some ⟨w12.heap.size, 0, none⟩))]) ?_ rfl ?_
  · exact results_cell2 rfl rfl rfl (run_loadVar_mid _ c 0 35 Z _ hk5.range Try.underlying35 rfl HIz.out)
  · refine ⟨_, by rw [HZ.out], ?_, HB12.out.size, below_sets _ HhC.out 0 _ (HB12.out.alloc HB12.out.size _)⟩
    exact (heap_sets Z (by omega) 0 _).trans (Flt.new _ 8 0)
set_option maxRecDepth 100000 in
set_option maxHeartbeats 1000000 in
theorem readFragment_reach (p : Pk6) (v : Value) (w : World) (hd : p.data.size ≤ 70000) (h : 8 ≤ p.data.size) (hpc : (frP p).piece = true) (hrc : (frP p).rch = false) :
    Calls Try.prog 38 #[.agg (p.vals v).toArray] w (Bad (.agg (pk0.vals (.slice none 0 0)).toArray) 8 w) := by
  obtain ⟨V, hV, hVl, hD, hK⟩ := boxed6 p v w
  obtain ⟨Z, hZ⟩ : ∃ Z, Z = pk0.vals (.slice none 0 0) := ⟨_, rfl⟩
  have HEX : Hid (∀ (ρ : Operand → Value) (d : Option Tmp) (ty : TypeId) (ps : String) (af : Array Edge) (W : World), (execOp ρ { dst := d, op := .build 35 #[], type := ty, pos := ps, after := af, guard := none }).run Try.prog W = .ok (.value (.agg Z.toArray)) W) := Lib.hid (fun ρ d ty ps af W => by rw [hZ]; exact Try.execZ6 ρ d ty ps af W)
  have HIz : Hid ((Try.prog.info? 35).map (·.size) = some Z.length) := Lib.hid (by rw [hZ]; exact Try.info6 _ _)
  have HOz : Hid (Z.toArray.all (·.oneCell') = true) := Lib.hid (by rw [hZ]; exact vals_one _ _ rfl)
  have hz0 : Z.toArray = #[.int .i64 0, .int .i64 0, .int .i64 0, .int .u8 0, .int .u8 0, .int .u8 0, .int .u8 0, .int .u8 0, .int .u8 0, .int .u8 0, .int .u8 0, .int .u8 0, .int .u8 0, .int .u8 0, .int .u8 0, .int .u8 0, .int .u8 0, .int .u8 0, .int .u8 0, .int .u8 0, .int .u8 0, .int .u8 0, .int .u8 0, .int .u8 0, .int .u8 0, .int .u8 0, .int .u8 0, .int .u8 0, .int .u8 0, .int .u8 0, .int .u8 0, .int .u8 0, .int .u8 0, .int .u8 0, .int .u8 0, .slice none 0 0, .bool false, .int .u32 0, .int .i64 0, .bool false, .int .i64 0, .string ⟨#[]⟩] := by rw [hZ]; exact pk0_vals
  have HZ := Lib.hid hZ
  clear hZ
  have hl8 : ¬ (p.data.size : Int) < 8 := by omega
  have hm : p.data.size ≤ maxLen := by unfold maxLen; omega
  have HM := Lib.hid hm
  clear hm
  have F0 : Hid (numOf (p.data.extract 0 (0 + 1)).data.toList = byN p.data 0) := Lib.hid (numOf_one p.data 0 (by omega))
  have F2 : Hid (numOf (p.data.extract 2 (2 + 2)).data.toList = frW p.data) := Lib.hid rfl
  have F4 : Hid (numOf (p.data.extract 4 (4 + 4)).data.toList = frI p.data) := Lib.hid rfl
  have hwl := frW_lt p.data
  have hil := frI_lt p.data
  have K1 := Lib.hid (and_eight (frW p.data) hwl)
  have K2 := Lib.hid (and_one (frW p.data) hwl)
  have HV0 := Lib.hid hV
  have CP : Hid (∀ W V6, V6 = (frP p).vals v → Calls Try.prog 56 #[.agg V6.toArray] W fun e w' => e = .returned (.bool true) ∧ Below W.heap.size W w') := Lib.hid (fun W V6 h6 => by rw [h6, ← hpc]; exact piece_any (frP p) v W (by show (p.data.extract 8 p.data.size).size ≤ _; simp; omega))
  have CR : Hid (∀ W V6, V6 = (frP p).vals v → Calls Try.prog 57 #[.agg V6.toArray] W fun e w' => e = .returned (.bool false) ∧ Below W.heap.size W w') := Lib.hid (fun W V6 h6 => by rw [h6, ← hrc]; exact reaches_any (frP p) v W (by show (p.data.extract 8 p.data.size).size ≤ _; simp; omega) (by show 0 ≤ (frW p.data : Int) / 8 * 8; omega) (by show (frW p.data : Int) / 8 * 8 ≤ 65528; omega))
  have HIv6 : Hid (∀ V6, V6 = (frP p).vals v → (Try.prog.info? 35).map (·.size) = some V6.length) := Lib.hid (fun V6 h6 => by rw [h6]; exact Try.info6 _ _)
  rw [← hV]
  clear hV
  have hK2 := hK.new 35 Z
  have hsz1 : (w.alloc (.cells V.toArray 35)).heap.size = w.heap.size + 1 := by simp
  rw [hsz1] at hK2
  have HK := Lib.hid hK2
  have hsz2 : ((w.alloc (.cells V.toArray 35)).alloc (.cells Z.toArray 35)).heap.size = w.heap.size + 2 := by simp
  have hb1 : Below (w.heap.size + 1) (w.alloc (.cells V.toArray 35)) ((w.alloc (.cells V.toArray 35)).alloc (.cells Z.toArray 35)) := (Below.refl _ _).alloc (by simp) _
  have d41 := (hb1.cell (p := ⟨w.heap.size, 41, none⟩) (Nat.lt_succ_self _)).trans hD.c41
  clear hb1 hK hK2 hD hsz1
  generalize hw1 : (w.alloc (.cells V.toArray 35)).alloc (.cells Z.toArray 35) = w1 at *
  rw [hz0] at hw1
  go_enter Try.func38, Try.ntmps38
  go_upto_region 1 with (fail)
  clear hw1 hz0
  go_wp2_with fail
  refine (new_any p.data w1).mono ?_
  rintro e w2 ⟨rfl, hw2⟩
  have hS : RF w w.heap.size (w.heap.size + 1) (w.heap.size + 2) V Z p.data 0 w2 := by
    have h1 : Rd w2 (w.heap.size + 2) p.data 0 0 := by rw [← hsz2, hw2]; exact Rd.new w1 _
    have h2 : Bk w2 w.heap.size 35 V.toArray := hw2 ▸ (HK.out.tl.hd).alloc _
    have h3 : Bk w2 (w.heap.size + 1) 35 Z.toArray := hw2 ▸ HK.out.hd.alloc _
    exact ⟨⟨h2, h1, Below.refl _ _, hw2 ▸ HK.out.2.1.alloc HK.out.2.2 _, Nat.le_refl _, by omega, by omega⟩, h3, by omega, by omega, by omega⟩
  have HS := Lib.hid hS
  clear hS hw2 HK d41
  generalize w.heap.size + 2 = r at *
  generalize w.heap.size + 1 = c at *
  have c36 := HS.out.rs.blk.at (show V[36]? = some (.bool p.frag) by rw [HV0.out]; exact vals_tail p v 1)
  have z36 := HS.out.rs.blk.z 36
  go_wp2_with fail
  obtain ⟨V1, hV1⟩ : ∃ V, V = ({ p with frag := true } : Pk6).vals v := ⟨_, rfl⟩
  have HS1 : Hid (RF w w.heap.size c r V1 Z p.data 0 _) := Lib.hid (HS.out.set 36 (.bool true) V1 (by rw [HV0.out, hV1]; exact vtail p v 1 _ ({ p with frag := true } : Pk6) v rfl rfl))
  have HV1 := Lib.hid hV1
  clear hV1 HS HV0 c36 z36
  generalize w2.setCell ⟨w.heap.size, 36, none⟩ (.bool true) = w3 at *
  refine (u8_of _ _ (number_ok (show Rd _ r p.data 0 0 from HS1.out.rs.rd) HM.out 1 (by decide) (by omega)) two_read).mono ?_
  rintro e w4 ⟨rfl, hR, hG⟩
  rw [F0.out]
  have HS2 : Hid (RF w w.heap.size c r V1 Z p.data 1 w4) := Lib.hid (HS1.out.next hR hG)
  clear hR hG HS1
  have c40 := HS2.out.rs.blk.at (show V1[40]? = some (.int .i64 p.proto) by rw [HV1.out]; exact vals_tail ({ p with frag := true } : Pk6) v 5)
  have z40 := HS2.out.rs.blk.z 40
  go_wp2_with fail
  obtain ⟨V2, hV2⟩ : ∃ V, V = ({ p with frag := true, proto := ((byN p.data 0 : Nat) : Int) } : Pk6).vals v := ⟨_, rfl⟩
  have HS3 : Hid (RF w w.heap.size c r V2 Z p.data 1 _) := Lib.hid (HS2.out.set 40 (.int .i64 (byN p.data 0 : Nat)) V2 (by rw [HV1.out, hV2]; exact vtail ({ p with frag := true } : Pk6) v 5 _ ({ p with frag := true, proto := ((byN p.data 0 : Nat) : Int) } : Pk6) v rfl rfl))
  have HV2 := Lib.hid hV2
  clear hV2 HS2 HV1 c40 z40
  generalize w4.setCell ⟨w.heap.size, 40, none⟩ (.int .i64 (byN p.data 0 : Nat)) = w5 at *
  refine (u8_of _ _ (number_ok (show Rd _ r p.data 1 0 from HS3.out.rs.rd) HM.out 1 (by decide) (by omega)) two_read).mono ?_
  rintro e w6 ⟨rfl, hR, hG⟩
  have HS4 : Hid (RF w w.heap.size c r V2 Z p.data 2 w6) := Lib.hid (HS3.out.next hR hG)
  clear hR hG HS3
  go_wp2_with fail
  refine (u16_of _ _ (number_ok (show Rd _ r p.data 2 0 from HS4.out.rs.rd) HM.out 2 (by decide) (by omega)) two_read).mono ?_
  rintro e w7 ⟨rfl, hR, hG⟩
  rw [F2.out]
  have HS5 : Hid (RF w w.heap.size c r V2 Z p.data 4 w7) := Lib.hid (HS4.out.next hR hG)
  clear hR hG HS4
  have c38 := HS5.out.rs.blk.at (show V2[38]? = some (.int .i64 p.pl) by rw [HV2.out]; exact vals_tail ({ p with frag := true, proto := ((byN p.data 0 : Nat) : Int) } : Pk6) v 3)
  have z38 := HS5.out.rs.blk.z 38
  have c39 := HS5.out.rs.blk.at (show V2[39]? = some (.bool p.more) by rw [HV2.out]; exact vals_tail ({ p with frag := true, proto := ((byN p.data 0 : Nat) : Int) } : Pk6) v 4)
  have z39 := HS5.out.rs.blk.z 39
  have k1 := K1.out
  have k2 := K2.out
  go_wp2_with fail
  obtain ⟨V3, hV3⟩ : ∃ V, V = ({ p with frag := true, proto := ((byN p.data 0 : Nat) : Int), pl := (frW p.data : Int) / 8 * 8 } : Pk6).vals v := ⟨_, rfl⟩
  obtain ⟨V4, hV4⟩ : ∃ V, V = ({ p with frag := true, proto := ((byN p.data 0 : Nat) : Int), pl := (frW p.data : Int) / 8 * 8, more := ((frW p.data : Int) % 2 != 0) } : Pk6).vals v := ⟨_, rfl⟩
  have HS6 : Hid (RF w w.heap.size c r V4 Z p.data 4 _) := Lib.hid ((HS5.out.set 38 (.int .i64 ((frW p.data : Int) / 8 * 8)) V3 (by rw [HV2.out, hV3]; exact vtail ({ p with frag := true, proto := ((byN p.data 0 : Nat) : Int) } : Pk6) v 3 _ ({ p with frag := true, proto := ((byN p.data 0 : Nat) : Int), pl := (frW p.data : Int) / 8 * 8 } : Pk6) v rfl rfl)).set 39 (.bool ((frW p.data : Int) % 2 != 0)) V4 (by rw [hV3, hV4]; exact vtail ({ p with frag := true, proto := ((byN p.data 0 : Nat) : Int), pl := (frW p.data : Int) / 8 * 8 } : Pk6) v 4 _ ({ p with frag := true, proto := ((byN p.data 0 : Nat) : Int), pl := (frW p.data : Int) / 8 * 8, more := ((frW p.data : Int) % 2 != 0) } : Pk6) v rfl rfl))
  have HV4 := Lib.hid hV4
  clear hV3 hV4 HS5 HV2 c38 z38 c39 z39 k1 k2
  generalize (w7.setCell ⟨w.heap.size, 38, none⟩ (.int .i64 ((frW p.data : Int) / 8 * 8))).setCell ⟨w.heap.size, 39, none⟩ (.bool ((frW p.data : Int) % 2 != 0)) = w8 at *
  refine (u32_of _ _ (number_ok (show Rd _ r p.data 4 0 from HS6.out.rs.rd) HM.out 4 (by decide) (by omega)) two_read).mono ?_
  rintro e w9 ⟨rfl, hR, hG⟩
  rw [F4.out]
  have HS7 : Hid (RF w w.heap.size c r V4 Z p.data 8 w9) := Lib.hid (HS6.out.next hR hG)
  clear hR hG HS6
  have c37 := HS7.out.rs.blk.at (show V4[37]? = some (.int .u32 p.id) by rw [HV4.out]; exact vals_tail ({ p with frag := true, proto := ((byN p.data 0 : Nat) : Int), pl := (frW p.data : Int) / 8 * 8, more := ((frW p.data : Int) % 2 != 0) } : Pk6) v 2)
  have z37 := HS7.out.rs.blk.z 37
  have k5 : IntKind.u32.wrap (frI p.data : Int) = (frI p.data : Int) := by rw [IntKind.wrap_u32]; omega
  go_wp2_with fail
  obtain ⟨V5, hV5⟩ : ∃ V, V = ({ p with frag := true, proto := ((byN p.data 0 : Nat) : Int), pl := (frW p.data : Int) / 8 * 8, more := ((frW p.data : Int) % 2 != 0), id := ((frI p.data : Nat) : Int) } : Pk6).vals v := ⟨_, rfl⟩
  have HS8 : Hid (RF w w.heap.size c r V5 Z p.data 8 _) := Lib.hid (HS7.out.set 37 (.int .u32 (frI p.data : Nat)) V5 (by rw [HV4.out, hV5]; exact vtail ({ p with frag := true, proto := ((byN p.data 0 : Nat) : Int), pl := (frW p.data : Int) / 8 * 8, more := ((frW p.data : Int) % 2 != 0) } : Pk6) v 2 _ ({ p with frag := true, proto := ((byN p.data 0 : Nat) : Int), pl := (frW p.data : Int) / 8 * 8, more := ((frW p.data : Int) % 2 != 0), id := ((frI p.data : Nat) : Int) } : Pk6) v rfl rfl))
  have HV5 := Lib.hid hV5
  clear hV5 HS7 HV4 c37 z37 k5
  generalize w9.setCell ⟨w.heap.size, 37, none⟩ (.int .u32 (frI p.data : Nat)) = w10 at *
  refine (rest_ok (show Rd _ r p.data 8 0 from HS8.out.rs.rd) (by omega)).mono ?_
  rintro e w11 ⟨rfl, hR, hG⟩
  have HS9 : Hid (RF w w.heap.size c r V5 Z p.data p.data.size w11) := Lib.hid (HS8.out.next hR hG)
  clear hR hG HS8
  have c41 := HS9.out.rs.blk.at (show V5[41]? = some (.string p.data) by rw [HV5.out]; exact vals_tail ({ p with frag := true, proto := ((byN p.data 0 : Nat) : Int), pl := (frW p.data : Int) / 8 * 8, more := ((frW p.data : Int) % 2 != 0), id := ((frI p.data : Nat) : Int) } : Pk6) v 6)
  have z41 := HS9.out.rs.blk.z 41
  obtain ⟨V6, hV6⟩ : ∃ V, V = (frP p).vals v := ⟨_, rfl⟩
  have hS10 : RF w w.heap.size c r V6 Z p.data p.data.size (w11.setCell ⟨w.heap.size, 41, none⟩ (.string (p.data.extract 8 p.data.size))) := HS9.out.set 41 (.string (p.data.extract 8 p.data.size)) V6 (by rw [HV5.out, hV6]; exact vtail ({ p with frag := true, proto := ((byN p.data 0 : Nat) : Int), pl := (frW p.data : Int) / 8 * 8, more := ((frW p.data : Int) % 2 != 0), id := ((frI p.data : Nat) : Int) } : Pk6) v 6 _ (frP p) v rfl rfl)
  have HV6 := Lib.hid hV6
  have HI6 := Lib.hid (HIv6.out V6 hV6)
  have CP6 := Lib.hid (fun W => CP.out W V6 hV6)
  have CR6 := Lib.hid (fun W => CR.out W V6 hV6)
  have hrg := hS10.rs.blk.range
  have HS10 := Lib.hid hS10
  clear hV6 HS9 HV5 hS10 CP HIv6 F0 F2 F4 K1 K2 HM hwl hil CR
  go_wp2_with (refine wpList_load_mid rfl 35 _ rfl _ 0 rfl V6 _ hrg Try.underlying35 rfl HI6.out ?_)
  refine (CP6.out _).mono ?_
  rintro e w12 ⟨rfl, b1⟩
  have HB12 := Lib.hid (HS10.out.rs.low.trans (b1.mono HS10.out.rs.low.size))
  have HC12 := Lib.hid (HS10.out.res.below b1 HS10.out.res.lt)
  have HP12 := Lib.hid (HS10.out.rs.blk.below b1 HS10.out.rs.blk.lt)
  have HhC := Lib.hid HS10.out.hc
  clear b1 hrg c41 z41 HS10 CP6
  have hrg := HP12.out.range
  go_wp2_with (refine wpList_load_if (by rfl) 35 _ rfl _ 0 rfl V6 _ hrg Try.underlying35 rfl HI6.out ?_)
  refine (CR6.out _).mono ?_
  rintro e w13 ⟨rfl, b1⟩
  have HB13 := Lib.hid (HB12.out.trans (b1.mono HB12.out.size))
  have HC13 := Lib.hid (HC12.out.below b1 HC12.out.lt)
  have HP13 := Lib.hid (HP12.out.below b1 HP12.out.lt)
  clear b1 hrg HB12 HC12 HP12
  go_wp2_with (refine Great.wpList_readTo rfl _ rfl (.agg Z.toArray) (HEX.out _ _ _ _ _ _) ?_)
  refine (fault_any _ _).mono ?_
  rintro e w20 ⟨rfl, rfl⟩
  have hkc : Bk (w13.alloc (.cells #[.int .i64 8, .int .i64 0] 78)) c 35 Z.toArray := HC13.out.alloc _
  have htf := hkc.there _ (Nat.le_refl _)
  go_wp2_with (refine wpList_store_mid rfl 35 _ _ rfl c 0 Z.toArray rfl rfl htf HIz.out HOz.out ?_)
  have hk5 := Bk.sets Z 0 _ _ hkc
  rw [puts_whole Z.toArray Z (by simp)] at hk5
  have hlc := HC13.out.lt
  refine bodyPost_ret (v := .tuple #[.agg Z.toArray, .iface 75 (.pointer (some ⟨w13.heap.size, 0, none⟩))]) ?_ rfl ?_
  · exact results_cell2 rfl rfl rfl (run_loadVar_mid _ c 0 35 Z _ hk5.range Try.underlying35 rfl HIz.out)
  · refine ⟨_, by rw [HZ.out], ?_, HB13.out.size, below_sets _ HhC.out 0 _ (HB13.out.alloc HB13.out.size _)⟩
    exact (heap_sets Z (by omega) 0 _).trans (Flt.new _ 8 0)
set_option maxRecDepth 100000 in
set_option maxHeartbeats 1000000 in
theorem readFragment_ok (p : Pk6) (v : Value) (w : World) (hd : p.data.size ≤ 70000) (h : 8 ≤ p.data.size) (hv1 : v.oneCell' = true) (hpc : (frP p).piece = true) (hrc : (frP p).rch = true) :
    Calls Try.prog 38 #[.agg (p.vals v).toArray] w fun e w' => e = .returned (.tuple #[.agg ((frP p).vals v).toArray, .nilIface]) ∧ Below w.heap.size w w' := by
  obtain ⟨V, hV, hVl, hD, hK⟩ := boxed6 p v w
  obtain ⟨Z, hZ⟩ : ∃ Z, Z = pk0.vals (.slice none 0 0) := ⟨_, rfl⟩
  have HEX : Hid (∀ (ρ : Operand → Value) (d : Option Tmp) (ty : TypeId) (ps : String) (af : Array Edge) (W : World), (execOp ρ { dst := d, op := .build 35 #[], type := ty, pos := ps, after := af, guard := none }).run Try.prog W = .ok (.value (.agg Z.toArray)) W) := Lib.hid (fun ρ d ty ps af W => by rw [hZ]; exact Try.execZ6 ρ d ty ps af W)
  have HIz : Hid ((Try.prog.info? 35).map (·.size) = some Z.length) := Lib.hid (by rw [hZ]; exact Try.info6 _ _)
  have HOz : Hid (Z.toArray.all (·.oneCell') = true) := Lib.hid (by rw [hZ]; exact vals_one _ _ rfl)
  have hz0 : Z.toArray = #[.int .i64 0, .int .i64 0, .int .i64 0, .int .u8 0, .int .u8 0, .int .u8 0, .int .u8 0, .int .u8 0, .int .u8 0, .int .u8 0, .int .u8 0, .int .u8 0, .int .u8 0, .int .u8 0, .int .u8 0, .int .u8 0, .int .u8 0, .int .u8 0, .int .u8 0, .int .u8 0, .int .u8 0, .int .u8 0, .int .u8 0, .int .u8 0, .int .u8 0, .int .u8 0, .int .u8 0, .int .u8 0, .int .u8 0, .int .u8 0, .int .u8 0, .int .u8 0, .int .u8 0, .int .u8 0, .int .u8 0, .slice none 0 0, .bool false, .int .u32 0, .int .i64 0, .bool false, .int .i64 0, .string ⟨#[]⟩] := by rw [hZ]; exact pk0_vals
  have HZ := Lib.hid hZ
  clear hZ
  have hl8 : ¬ (p.data.size : Int) < 8 := by omega
  have hm : p.data.size ≤ maxLen := by unfold maxLen; omega
  have HM := Lib.hid hm
  clear hm
  have F0 : Hid (numOf (p.data.extract 0 (0 + 1)).data.toList = byN p.data 0) := Lib.hid (numOf_one p.data 0 (by omega))
  have F2 : Hid (numOf (p.data.extract 2 (2 + 2)).data.toList = frW p.data) := Lib.hid rfl
  have F4 : Hid (numOf (p.data.extract 4 (4 + 4)).data.toList = frI p.data) := Lib.hid rfl
  have hwl := frW_lt p.data
  have hil := frI_lt p.data
  have K1 := Lib.hid (and_eight (frW p.data) hwl)
  have K2 := Lib.hid (and_one (frW p.data) hwl)
  have HV0 := Lib.hid hV
  have CP : Hid (∀ W V6, V6 = (frP p).vals v → Calls Try.prog 56 #[.agg V6.toArray] W fun e w' => e = .returned (.bool true) ∧ Below W.heap.size W w') := Lib.hid (fun W V6 h6 => by rw [h6, ← hpc]; exact piece_any (frP p) v W (by show (p.data.extract 8 p.data.size).size ≤ _; simp; omega))
  have CR : Hid (∀ W V6, V6 = (frP p).vals v → Calls Try.prog 57 #[.agg V6.toArray] W fun e w' => e = .returned (.bool true) ∧ Below W.heap.size W w') := Lib.hid (fun W V6 h6 => by rw [h6, ← hrc]; exact reaches_any (frP p) v W (by show (p.data.extract 8 p.data.size).size ≤ _; simp; omega) (by show 0 ≤ (frW p.data : Int) / 8 * 8; omega) (by show (frW p.data : Int) / 8 * 8 ≤ 65528; omega))
  have HIv6 : Hid (∀ V6, V6 = (frP p).vals v → (Try.prog.info? 35).map (·.size) = some V6.length) := Lib.hid (fun V6 h6 => by rw [h6]; exact Try.info6 _ _)
  rw [← hV]
  clear hV
  have hK2 := hK.new 35 Z
  have hsz1 : (w.alloc (.cells V.toArray 35)).heap.size = w.heap.size + 1 := by simp
  rw [hsz1] at hK2
  have HK := Lib.hid hK2
  have hsz2 : ((w.alloc (.cells V.toArray 35)).alloc (.cells Z.toArray 35)).heap.size = w.heap.size + 2 := by simp
  have hb1 : Below (w.heap.size + 1) (w.alloc (.cells V.toArray 35)) ((w.alloc (.cells V.toArray 35)).alloc (.cells Z.toArray 35)) := (Below.refl _ _).alloc (by simp) _
  have d41 := (hb1.cell (p := ⟨w.heap.size, 41, none⟩) (Nat.lt_succ_self _)).trans hD.c41
  clear hb1 hK hK2 hD hsz1
  generalize hw1 : (w.alloc (.cells V.toArray 35)).alloc (.cells Z.toArray 35) = w1 at *
  rw [hz0] at hw1
  go_enter Try.func38, Try.ntmps38
  go_upto_region 1 with (fail)
  clear hw1 hz0
  go_wp2_with fail
  refine (new_any p.data w1).mono ?_
  rintro e w2 ⟨rfl, hw2⟩
  have hS : RF w w.heap.size (w.heap.size + 1) (w.heap.size + 2) V Z p.data 0 w2 := by
    have h1 : Rd w2 (w.heap.size + 2) p.data 0 0 := by rw [← hsz2, hw2]; exact Rd.new w1 _
    have h2 : Bk w2 w.heap.size 35 V.toArray := hw2 ▸ (HK.out.tl.hd).alloc _
    have h3 : Bk w2 (w.heap.size + 1) 35 Z.toArray := hw2 ▸ HK.out.hd.alloc _
    exact ⟨⟨h2, h1, Below.refl _ _, hw2 ▸ HK.out.2.1.alloc HK.out.2.2 _, Nat.le_refl _, by omega, by omega⟩, h3, by omega, by omega, by omega⟩
  have HS := Lib.hid hS
  clear hS hw2 HK d41
  generalize w.heap.size + 2 = r at *
  generalize w.heap.size + 1 = c at *
  have c36 := HS.out.rs.blk.at (show V[36]? = some (.bool p.frag) by rw [HV0.out]; exact vals_tail p v 1)
  have z36 := HS.out.rs.blk.z 36
  go_wp2_with fail
  obtain ⟨V1, hV1⟩ : ∃ V, V = ({ p with frag := true } : Pk6).vals v := ⟨_, rfl⟩
  have HS1 : Hid (RF w w.heap.size c r V1 Z p.data 0 _) := Lib.hid (HS.out.set 36 (.bool true) V1 (by rw [HV0.out, hV1]; exact vtail p v 1 _ ({ p with frag := true } : Pk6) v rfl rfl))
  have HV1 := Lib.hid hV1
  clear hV1 HS HV0 c36 z36
  generalize w2.setCell ⟨w.heap.size, 36, none⟩ (.bool true) = w3 at *
  refine (u8_of _ _ (number_ok (show Rd _ r p.data 0 0 from HS1.out.rs.rd) HM.out 1 (by decide) (by omega)) two_read).mono ?_
  rintro e w4 ⟨rfl, hR, hG⟩
  rw [F0.out]
  have HS2 : Hid (RF w w.heap.size c r V1 Z p.data 1 w4) := Lib.hid (HS1.out.next hR hG)
  clear hR hG HS1
  have c40 := HS2.out.rs.blk.at (show V1[40]? = some (.int .i64 p.proto) by rw [HV1.out]; exact vals_tail ({ p with frag := true } : Pk6) v 5)
  have z40 := HS2.out.rs.blk.z 40
  go_wp2_with fail
  obtain ⟨V2, hV2⟩ : ∃ V, V = ({ p with frag := true, proto := ((byN p.data 0 : Nat) : Int) } : Pk6).vals v := ⟨_, rfl⟩
  have HS3 : Hid (RF w w.heap.size c r V2 Z p.data 1 _) := Lib.hid (HS2.out.set 40 (.int .i64 (byN p.data 0 : Nat)) V2 (by rw [HV1.out, hV2]; exact vtail ({ p with frag := true } : Pk6) v 5 _ ({ p with frag := true, proto := ((byN p.data 0 : Nat) : Int) } : Pk6) v rfl rfl))
  have HV2 := Lib.hid hV2
  clear hV2 HS2 HV1 c40 z40
  generalize w4.setCell ⟨w.heap.size, 40, none⟩ (.int .i64 (byN p.data 0 : Nat)) = w5 at *
  refine (u8_of _ _ (number_ok (show Rd _ r p.data 1 0 from HS3.out.rs.rd) HM.out 1 (by decide) (by omega)) two_read).mono ?_
  rintro e w6 ⟨rfl, hR, hG⟩
  have HS4 : Hid (RF w w.heap.size c r V2 Z p.data 2 w6) := Lib.hid (HS3.out.next hR hG)
  clear hR hG HS3
  go_wp2_with fail
  refine (u16_of _ _ (number_ok (show Rd _ r p.data 2 0 from HS4.out.rs.rd) HM.out 2 (by decide) (by omega)) two_read).mono ?_
  rintro e w7 ⟨rfl, hR, hG⟩
  rw [F2.out]
  have HS5 : Hid (RF w w.heap.size c r V2 Z p.data 4 w7) := Lib.hid (HS4.out.next hR hG)
  clear hR hG HS4
  have c38 := HS5.out.rs.blk.at (show V2[38]? = some (.int .i64 p.pl) by rw [HV2.out]; exact vals_tail ({ p with frag := true, proto := ((byN p.data 0 : Nat) : Int) } : Pk6) v 3)
  have z38 := HS5.out.rs.blk.z 38
  have c39 := HS5.out.rs.blk.at (show V2[39]? = some (.bool p.more) by rw [HV2.out]; exact vals_tail ({ p with frag := true, proto := ((byN p.data 0 : Nat) : Int) } : Pk6) v 4)
  have z39 := HS5.out.rs.blk.z 39
  have k1 := K1.out
  have k2 := K2.out
  go_wp2_with fail
  obtain ⟨V3, hV3⟩ : ∃ V, V = ({ p with frag := true, proto := ((byN p.data 0 : Nat) : Int), pl := (frW p.data : Int) / 8 * 8 } : Pk6).vals v := ⟨_, rfl⟩
  obtain ⟨V4, hV4⟩ : ∃ V, V = ({ p with frag := true, proto := ((byN p.data 0 : Nat) : Int), pl := (frW p.data : Int) / 8 * 8, more := ((frW p.data : Int) % 2 != 0) } : Pk6).vals v := ⟨_, rfl⟩
  have HS6 : Hid (RF w w.heap.size c r V4 Z p.data 4 _) := Lib.hid ((HS5.out.set 38 (.int .i64 ((frW p.data : Int) / 8 * 8)) V3 (by rw [HV2.out, hV3]; exact vtail ({ p with frag := true, proto := ((byN p.data 0 : Nat) : Int) } : Pk6) v 3 _ ({ p with frag := true, proto := ((byN p.data 0 : Nat) : Int), pl := (frW p.data : Int) / 8 * 8 } : Pk6) v rfl rfl)).set 39 (.bool ((frW p.data : Int) % 2 != 0)) V4 (by rw [hV3, hV4]; exact vtail ({ p with frag := true, proto := ((byN p.data 0 : Nat) : Int), pl := (frW p.data : Int) / 8 * 8 } : Pk6) v 4 _ ({ p with frag := true, proto := ((byN p.data 0 : Nat) : Int), pl := (frW p.data : Int) / 8 * 8, more := ((frW p.data : Int) % 2 != 0) } : Pk6) v rfl rfl))
  have HV4 := Lib.hid hV4
  clear hV3 hV4 HS5 HV2 c38 z38 c39 z39 k1 k2
  generalize (w7.setCell ⟨w.heap.size, 38, none⟩ (.int .i64 ((frW p.data : Int) / 8 * 8))).setCell ⟨w.heap.size, 39, none⟩ (.bool ((frW p.data : Int) % 2 != 0)) = w8 at *
  refine (u32_of _ _ (number_ok (show Rd _ r p.data 4 0 from HS6.out.rs.rd) HM.out 4 (by decide) (by omega)) two_read).mono ?_
  rintro e w9 ⟨rfl, hR, hG⟩
  rw [F4.out]
  have HS7 : Hid (RF w w.heap.size c r V4 Z p.data 8 w9) := Lib.hid (HS6.out.next hR hG)
  clear hR hG HS6
  have c37 := HS7.out.rs.blk.at (show V4[37]? = some (.int .u32 p.id) by rw [HV4.out]; exact vals_tail ({ p with frag := true, proto := ((byN p.data 0 : Nat) : Int), pl := (frW p.data : Int) / 8 * 8, more := ((frW p.data : Int) % 2 != 0) } : Pk6) v 2)
  have z37 := HS7.out.rs.blk.z 37
  have k5 : IntKind.u32.wrap (frI p.data : Int) = (frI p.data : Int) := by rw [IntKind.wrap_u32]; omega
  go_wp2_with fail
  obtain ⟨V5, hV5⟩ : ∃ V, V = ({ p with frag := true, proto := ((byN p.data 0 : Nat) : Int), pl := (frW p.data : Int) / 8 * 8, more := ((frW p.data : Int) % 2 != 0), id := ((frI p.data : Nat) : Int) } : Pk6).vals v := ⟨_, rfl⟩
  have HS8 : Hid (RF w w.heap.size c r V5 Z p.data 8 _) := Lib.hid (HS7.out.set 37 (.int .u32 (frI p.data : Nat)) V5 (by rw [HV4.out, hV5]; exact vtail ({ p with frag := true, proto := ((byN p.data 0 : Nat) : Int), pl := (frW p.data : Int) / 8 * 8, more := ((frW p.data : Int) % 2 != 0) } : Pk6) v 2 _ ({ p with frag := true, proto := ((byN p.data 0 : Nat) : Int), pl := (frW p.data : Int) / 8 * 8, more := ((frW p.data : Int) % 2 != 0), id := ((frI p.data : Nat) : Int) } : Pk6) v rfl rfl))
  have HV5 := Lib.hid hV5
  clear hV5 HS7 HV4 c37 z37 k5
  generalize w9.setCell ⟨w.heap.size, 37, none⟩ (.int .u32 (frI p.data : Nat)) = w10 at *
  refine (rest_ok (show Rd _ r p.data 8 0 from HS8.out.rs.rd) (by omega)).mono ?_
  rintro e w11 ⟨rfl, hR, hG⟩
  have HS9 : Hid (RF w w.heap.size c r V5 Z p.data p.data.size w11) := Lib.hid (HS8.out.next hR hG)
  clear hR hG HS8
  have c41 := HS9.out.rs.blk.at (show V5[41]? = some (.string p.data) by rw [HV5.out]; exact vals_tail ({ p with frag := true, proto := ((byN p.data 0 : Nat) : Int), pl := (frW p.data : Int) / 8 * 8, more := ((frW p.data : Int) % 2 != 0), id := ((frI p.data : Nat) : Int) } : Pk6) v 6)
  have z41 := HS9.out.rs.blk.z 41
  obtain ⟨V6, hV6⟩ : ∃ V, V = (frP p).vals v := ⟨_, rfl⟩
  have hS10 : RF w w.heap.size c r V6 Z p.data p.data.size (w11.setCell ⟨w.heap.size, 41, none⟩ (.string (p.data.extract 8 p.data.size))) := HS9.out.set 41 (.string (p.data.extract 8 p.data.size)) V6 (by rw [HV5.out, hV6]; exact vtail ({ p with frag := true, proto := ((byN p.data 0 : Nat) : Int), pl := (frW p.data : Int) / 8 * 8, more := ((frW p.data : Int) % 2 != 0), id := ((frI p.data : Nat) : Int) } : Pk6) v 6 _ (frP p) v rfl rfl)
  have HV6 := Lib.hid hV6
  have HI6 := Lib.hid (HIv6.out V6 hV6)
  have CP6 := Lib.hid (fun W => CP.out W V6 hV6)
  have CR6 := Lib.hid (fun W => CR.out W V6 hV6)
  have hrg := hS10.rs.blk.range
  have HS10 := Lib.hid hS10
  clear hV6 HS9 HV5 hS10 CP HIv6 F0 F2 F4 K1 K2 HM hwl hil CR
  go_wp2_with (refine wpList_load_mid rfl 35 _ rfl _ 0 rfl V6 _ hrg Try.underlying35 rfl HI6.out ?_)
  refine (CP6.out _).mono ?_
  rintro e w12 ⟨rfl, b1⟩
  have HB12 := Lib.hid (HS10.out.rs.low.trans (b1.mono HS10.out.rs.low.size))
  have HC12 := Lib.hid (HS10.out.res.below b1 HS10.out.res.lt)
  have HP12 := Lib.hid (HS10.out.rs.blk.below b1 HS10.out.rs.blk.lt)
  have HhC := Lib.hid HS10.out.hc
  clear b1 hrg c41 z41 HS10 CP6
  have hrg := HP12.out.range
  go_wp2_with (refine wpList_load_if (by rfl) 35 _ rfl _ 0 rfl V6 _ hrg Try.underlying35 rfl HI6.out ?_)
  refine (CR6.out _).mono ?_
  rintro e w13 ⟨rfl, b1⟩
  have HB13 := Lib.hid (HB12.out.trans (b1.mono HB12.out.size))
  have HC13 := Lib.hid (HC12.out.below b1 HC12.out.lt)
  have HP13 := Lib.hid (HP12.out.below b1 HP12.out.lt)
  clear b1 hrg HB12 HC12 HP12
  have hrg := HP13.out.range
  have htf := HC13.out.there V6.toArray.size (by have := HI6.out; have h2 := HIz.out; rw [this] at h2; injection h2 with h2; simp; omega)
  have HO6 : Hid (V6.toArray.all (·.oneCell') = true) := Lib.hid (by rw [HV6.out]; exact vals_one _ _ hv1)
  go_wp2_with (first | (refine wpList_load_mid rfl 35 _ rfl _ 0 rfl V6 _ hrg Try.underlying35 rfl HI6.out ?_) | (refine wpList_store_mid rfl 35 _ _ rfl c 0 V6.toArray rfl rfl htf HI6.out HO6.out ?_))
  have hk5 := Bk.sets V6 0 _ _ HC13.out
  have hzz : V6.length = Z.toArray.size := by have := HI6.out; have h2 := HIz.out; rw [this] at h2; injection h2 with h2
  rw [puts_whole Z.toArray V6 hzz] at hk5
  refine bodyPost_ret (v := .tuple #[.agg V6.toArray, .nilIface]) ?_ rfl ⟨by rw [HV6.out], below_sets _ HhC.out 0 _ HB13.out⟩
  exact results_cell2 rfl rfl rfl (run_loadVar_mid _ c 0 35 V6 _ hk5.range Try.underlying35 rfl HI6.out)
end Go.Proofs.Ytkihhmnlefekoaa
