/-
  Proved here: what ip6.readHead answers.
  Conditions: a text of at most 70000 bytes, that has a head.
-/
import Derived.Test.YtkihhmnlefekoaaCells
namespace Go.Proofs.Ytkihhmnlefekoaa
open Go.RowKit

/-- What lies in memory while a packet is read: the packet's block, the reader's. -/
structure RS (w0 : World) (b r : Nat) (V : List Value) (s : ByteArray) (k : Nat) (w : World) : Prop where
  blk : Bk w b 35 V.toArray
  rd : Rd w r s k 0
  bel : Below w0.heap.size w w
  low : Below w0.heap.size w0 w
  hb : w0.heap.size ≤ b
  hr : w0.heap.size ≤ r
  ne : b ≠ r
section
variable {w0 w w' : World} {b r : Nat} {V : List Value} {s : ByteArray} {k : Nat}
theorem RS.next (h : RS w0 b r V s k w) {k' : Nat} (hR : Rd w' r s k' 0) (hG : w.grownBy w' (some r)) : RS w0 b r V s k' w' where
  blk := h.blk.grown hG (fun e => by injection e with e; exact h.ne e)
  rd := hR
  bel := Below.refl _ _
  low := h.low.grown hG h.low.size (fun j hj => by injection hj with hj; rw [← hj]; exact h.hr)
  hb := h.hb
  hr := h.hr
  ne := h.ne
theorem RS.set (h : RS w0 b r V s k w) (i : Nat) (v : Value) (V' : List Value) (hq : V.toArray.setIfInBounds i v = V'.toArray) : RS w0 b r V' s k (w.setCell ⟨b, i, none⟩ v) where
  blk := hq ▸ h.blk.set i v
  rd := h.rd.set_other (Ne.symm h.ne) i v
  bel := Below.refl _ _
  low := h.low.setCell (by exact h.hb) v
  hb := h.hb
  hr := h.hr
  ne := h.ne
theorem RS.sets (h : RS w0 b r V s k w) (i : Nat) (vs : List Value) (V' : List Value) (hq : puts V.toArray i vs = V'.toArray) : RS w0 b r V' s k (w.setCells b i vs) where
  blk := hq ▸ Bk.sets vs i _ _ h.blk
  rd := h.rd.sets_other (Ne.symm h.ne) i vs
  bel := Below.refl _ _
  low := below_sets vs h.hb i _ h.low
  hb := h.hb
  hr := h.hr
  ne := h.ne
end
theorem results_cell4 {P : Program} {fn : Func} {t u y q : Tmp} {T : TypeId} {tmps : Array Value} {w : World} {b o : Nat} {v x z k : Value} (h : fn.results = #[.cell t T, .tmp u, .tmp y, .tmp q]) (hv : tmps.getD t undef = .pointer (some ⟨b, o, none⟩)) (hx : tmps.getD u undef = x) (hz : tmps.getD y undef = z) (hk : tmps.getD q undef = k) (hl : (loadVar T ⟨b, o, none⟩).run P w = .ok v w) :
    (results fn tmps).run P w = .ok (.tuple #[v, x, z, k]) w := by
  have hv' : tmps[t]?.getD undef = .pointer (some ⟨b, o, none⟩) := by simpa using hv
  have hx' : tmps[u]?.getD undef = x := by simpa using hx
  have hz' : tmps[y]?.getD undef = z := by simpa using hz
  have hk' : tmps[q]?.getD undef = k := by simpa using hk
  simp [results, h, hv', hx', hz', hk', asAddr, hl]
/-- What a text's head says. -/
def hdW (s : ByteArray) : Nat := numOf (s.extract 0 (0 + 4)).data.toList
def hdL (s : ByteArray) : Nat := numOf (s.extract 4 (4 + 2)).data.toList
def hdP (s : ByteArray) (h : 40 ≤ s.size) : Pk6 where
  cls := (hdW s : Int) / 1048576 % 256
  flow := (hdW s : Int) % 1048576
  hop := ((byN s 7 : Nat) : Int)
  fr := adr s 8
  dst := adr s 24
  exts := []
  frag := false
  id := 0
  pl := 0
  more := false
  proto := 0
  data := ⟨#[]⟩
  hfr := adr_len s 8 (by omega)
  hdst := adr_len s 24 (by omega)
theorem hdW_lt (s : ByteArray) : hdW s < 4294967296 := by
  unfold hdW
  have := numOf_take ((s.extract 0 (0 + 4)).data.toList) 4 (Nat.le_refl _)
  rwa [List.take_of_length_le (by rw [ba_size]; simp; omega)] at this
theorem hdL_lt (s : ByteArray) : hdL s < 65536 := by
  unfold hdL
  have h1 := numOf_lt (s.extract 4 (4 + 2)).data.toList
  have h2 : (s.extract 4 (4 + 2)).data.toList.length ≤ 2 := by rw [ba_size]; simp; omega
  have h3 : 256 ^ (s.extract 4 (4 + 2)).data.toList.length ≤ 256 ^ 2 := Nat.pow_le_pow_right (by omega) h2
  omega
theorem and_mask (x k : Nat) (hk : k ≤ 30) (hx : x < 4294967296) (m : Int) (hm : m = ((2 ^ k - 1 : Nat) : Int)) : bits .and .i64 ((x : Nat) : Int) m = ((x % 2 ^ k : Nat) : Int) := by
  subst hm
  have hp : 2 ^ k ≤ 2 ^ 30 := Nat.pow_le_pow_right (by omega) hk
  have h1 : (BitVec.ofInt 64 ((x : Nat) : Int)).toNat = x := by
    rw [BitVec.ofInt_natCast, BitVec.toNat_ofNat]; exact Nat.mod_eq_of_lt (by omega)
  have h2 : (BitVec.ofInt 64 ((2 ^ k - 1 : Nat) : Int)).toNat = 2 ^ k - 1 := by
    rw [BitVec.ofInt_natCast, BitVec.toNat_ofNat]; exact Nat.mod_eq_of_lt (by omega)
  show IntKind.i64.wrap ((BitVec.ofInt 64 ((x : Nat) : Int) &&& BitVec.ofInt 64 ((2 ^ k - 1 : Nat) : Int)).toNat : Int) = _
  rw [BitVec.toNat_and, h1, h2, Nat.and_two_pow_sub_one_eq_mod, IntKind.wrap_i64]
  have h3 : x % 2 ^ k < 2 ^ k := Nat.mod_lt _ (Nat.two_pow_pos k)
  omega
theorem numOf_one (s : ByteArray) (p : Nat) (hl : p < s.size) : numOf (s.extract p (p + 1)).data.toList = byN s p := by
  rw [ext_list, take_snoc s p hl, List.drop_left' (by simp; omega)]
  unfold numOf
  rw [byN_at s p hl]
  simp
set_option maxRecDepth 100000 in
set_option maxHeartbeats 1000000 in
theorem readHead_any (s : ByteArray) (w : World) (hs : s.size ≤ 70000) (h40 : 40 ≤ s.size) :
    Calls Try.prog 36 #[.string s] w fun e w' => e = .returned (.tuple #[.agg ((hdP s h40).vals (.slice none 0 0)).toArray, .int .i64 ((hdW s : Int) / 268435456), .int .i64 (hdL s : Nat), .int .i64 (byN s 6 : Nat)]) ∧ Below w.heap.size w w' := by
  have hm : s.size ≤ maxLen := by unfold maxLen; omega
  have HM := Lib.hid hm
  have hwl := hdW_lt s
  have K1 : Hid (bits .and .i64 ((hdW s : Int) / 1048576) 255 = (hdW s : Int) / 1048576 % 256) := Lib.hid (by have := and_mask (hdW s / 1048576) 8 (by decide) (by omega) 255 (by decide); simpa using this)
  have K2 : Hid (bits .and .i64 (hdW s : Int) 1048575 = (hdW s : Int) % 1048576) := Lib.hid (by have := and_mask (hdW s) 20 (by decide) (by omega) 1048575 (by decide); simpa using this)
  have F6 : Hid (numOf (s.extract 6 (6 + 1)).data.toList = byN s 6) := Lib.hid (numOf_one s 6 (by omega))
  have F7 : Hid (numOf (s.extract 7 (7 + 1)).data.toList = byN s 7) := Lib.hid (numOf_one s 7 (by omega))
  have F0 : Hid (numOf (s.extract 0 (0 + 4)).data.toList = hdW s) := Lib.hid rfl
  have F4 : Hid (numOf (s.extract 4 (4 + 2)).data.toList = hdL s) := Lib.hid rfl
  have hK := (Kp.start w).new 35 (pk0.vals (.slice none 0 0))
  have hK0 := hK.hd
  have HK0 := Lib.hid hK0
  have HB0 := Lib.hid hK.2.1
  have hz0 := pk0_vals
  clear hm hK hK0
  generalize hVZ : (pk0.vals (.slice none 0 0)) = VZ at *
  have HVZ := Lib.hid hVZ
  clear hVZ
  generalize hw1 : w.alloc (.cells VZ.toArray 35) = w1 at *
  rw [hz0] at hw1
  go_enter Try.func36, Try.ntmps36
  go_upto_region 1 with (fail)
  clear hw1 hz0
  go_wp2_with fail
  refine (new_any s w1).mono ?_
  rintro e w2 ⟨rfl, hw2⟩
  have hR1 : Rd w2 w1.heap.size s 0 0 := hw2 ▸ Rd.new w1 s
  have hK1 : Bk w2 w.heap.size 35 VZ.toArray := hw2 ▸ HK0.out.alloc _
  have hB1 : Below w.heap.size w w2 := hw2 ▸ HB0.out.alloc HB0.out.size _
  have hl1 := HK0.out.lt
  have hS : RS w w.heap.size w1.heap.size VZ s 0 w2 := ⟨hK1, hR1, Below.refl _ _, hB1, Nat.le_refl _, by omega, by omega⟩
  clear hw2 hR1 hK1 hB1 hl1 HK0 HB0
  generalize w1.heap.size = r at *
  have HS := Lib.hid hS
  clear hS
  go_wp2_with fail
  refine (u32_of _ _ (number_ok HS.out.rd HM.out 4 (by decide) (by omega)) two_read).mono ?_
  rintro e w3 ⟨rfl, hR, hG⟩
  rw [F0.out]
  have HS3 := Lib.hid (HS.out.next hR hG)
  clear hR hG HS
  have c0 := HS3.out.blk.at (show VZ[0]? = some (.int .i64 0) by rw [← HVZ.out]; rfl)
  have c1 := HS3.out.blk.at (show VZ[1]? = some (.int .i64 0) by rw [← HVZ.out]; rfl)
  have z0 := HS3.out.blk.z 0
  have z1 := HS3.out.blk.z 1
  have k1 := K1.out
  have k2 := K2.out
  go_wp2_with fail
  obtain ⟨V1, hV1⟩ : ∃ V, V = ({ pk0 with cls := (hdW s : Int) / 1048576 % 256 } : Pk6).vals (.slice none 0 0) := ⟨_, rfl⟩
  obtain ⟨V2, hV2⟩ : ∃ V, V = ({ pk0 with cls := (hdW s : Int) / 1048576 % 256, flow := (hdW s : Int) % 1048576 } : Pk6).vals (.slice none 0 0) := ⟨_, rfl⟩
  have hS4 : RS w w.heap.size r V2 s 4 _ := (HS3.out.set 0 (.int .i64 ((hdW s : Int) / 1048576 % 256)) V1 (by rw [hV1, ← HVZ.out]; exact vset0 _ _ _)).set 1 (.int .i64 ((hdW s : Int) % 1048576)) V2 (by rw [hV1, hV2]; exact vset1 _ _ _)
  have HS4 := Lib.hid hS4
  have HV2 := Lib.hid hV2
  clear hV1 hV2 hS4 c0 c1 z0 z1 k1 k2 HS3 HVZ
  generalize (w3.setCell ⟨w.heap.size, 0, none⟩ (.int .i64 ((hdW s : Int) / 1048576 % 256))).setCell ⟨w.heap.size, 1, none⟩ (.int .i64 ((hdW s : Int) % 1048576)) = w4 at *
  refine (u16_of _ _ (number_ok (show Rd _ r s 4 0 from HS4.out.rd) HM.out 2 (by decide) (by omega)) two_read).mono ?_
  rintro e w5 ⟨rfl, hR, hG⟩
  rw [F4.out]
  have HS5 : Hid (RS w w.heap.size r V2 s 6 w5) := Lib.hid (HS4.out.next hR hG)
  clear hR hG HS4
  go_wp2_with fail
  refine (u8_of _ _ (number_ok (show Rd _ r s 6 0 from HS5.out.rd) HM.out 1 (by decide) (by omega)) two_read).mono ?_
  rintro e w6 ⟨rfl, hR, hG⟩
  rw [F6.out]
  have HS6 : Hid (RS w w.heap.size r V2 s 7 w6) := Lib.hid (HS5.out.next hR hG)
  clear hR hG HS5
  go_wp2_with fail
  refine (u8_of _ _ (number_ok (show Rd _ r s 7 0 from HS6.out.rd) HM.out 1 (by decide) (by omega)) two_read).mono ?_
  rintro e w7 ⟨rfl, hR, hG⟩
  rw [F7.out]
  have HS7 : Hid (RS w w.heap.size r V2 s 8 w7) := Lib.hid (HS6.out.next hR hG)
  clear hR hG HS6
  have c2 := HS7.out.blk.at (show V2[2]? = some (.int .i64 0) by rw [HV2.out]; rfl)
  have z2 := HS7.out.blk.z 2
  go_wp2_with fail
  obtain ⟨V3, hV3⟩ : ∃ V, V = ({ pk0 with cls := (hdW s : Int) / 1048576 % 256, flow := (hdW s : Int) % 1048576, hop := (byN s 7 : Nat) } : Pk6).vals (.slice none 0 0) := ⟨_, rfl⟩
  have HS8 : Hid (RS w w.heap.size r V3 s 8 _) := Lib.hid (HS7.out.set 2 (.int .i64 (byN s 7 : Nat)) V3 (by rw [HV2.out, hV3]; exact vset2 _ _ _))
  have HV3 := Lib.hid hV3
  clear hV3 c2 z2 HS7 HV2
  generalize w7.setCell ⟨w.heap.size, 2, none⟩ (.int .i64 (byN s 7 : Nat)) = w8 at *
  refine (address_any (show Rd _ r s 8 0 from HS8.out.rd) HM.out (by omega)).mono ?_
  rintro e w9 ⟨rfl, hR, hG⟩
  have HS9 : Hid (RS w w.heap.size r V3 s 24 w9) := Lib.hid (HS8.out.next hR hG)
  clear hR hG HS8
  obtain ⟨A8, hA8⟩ : ∃ A, A = bytV (adr s 8) := ⟨_, rfl⟩
  have HI8 : Hid ((Try.prog.info? 32).map (·.size) = some A8.length) := Lib.hid (by rw [hA8]; exact Try.infoV6 _ (adr_len s 8 (by omega)))
  have HO8 : Hid (A8.toArray.all (·.oneCell') = true) := Lib.hid (by rw [hA8]; exact all_oneCell_toArray' (bytV_one _))
  have hl8 : A8.toArray.size = 16 := by rw [hA8]; exact (bytV_len _).trans (adr_len s 8 (by omega))
  have hth : w9.there w.heap.size 3 A8.toArray.size := by rw [hl8]; exact HS9.out.blk.there' 3 16 (by rw [HV3.out]; have := vals_len ({ pk0 with cls := (hdW s : Int) / 1048576 % 256, flow := (hdW s : Int) % 1048576, hop := (byN s 7 : Nat) } : Pk6) (.slice none 0 0); simp [this])
  rw [← hA8]
  have HA8 := Lib.hid hA8
  clear hA8 hl8
  go_wp2_with (refine wpList_store_mid rfl 32 _ _ rfl w.heap.size 3 A8.toArray rfl rfl hth HI8.out HO8.out ?_)
  obtain ⟨V4, hV4⟩ : ∃ V, V = ({ pk0 with cls := (hdW s : Int) / 1048576 % 256, flow := (hdW s : Int) % 1048576, hop := (byN s 7 : Nat), fr := adr s 8, hfr := adr_len s 8 (by omega) } : Pk6).vals (.slice none 0 0) := ⟨_, rfl⟩
  have HS10 : Hid (RS w w.heap.size r V4 s 24 _) := Lib.hid (HS9.out.sets 3 A8 V4 (by rw [HV3.out, hV4, HA8.out]; exact vputs_fr _ _ _ _))
  have HV4 := Lib.hid hV4
  clear hV4 hth HS9 HV3 HI8 HO8 HA8
  generalize w9.setCells w.heap.size 3 A8 = w10 at *
  refine (address_any (show Rd _ r s 24 0 from HS10.out.rd) HM.out (by omega)).mono ?_
  rintro e w11 ⟨rfl, hR, hG⟩
  have HS11 : Hid (RS w w.heap.size r V4 s 40 w11) := Lib.hid (HS10.out.next hR hG)
  clear hR hG HS10
  obtain ⟨A24, hA24⟩ : ∃ A, A = bytV (adr s 24) := ⟨_, rfl⟩
  have HI24 : Hid ((Try.prog.info? 32).map (·.size) = some A24.length) := Lib.hid (by rw [hA24]; exact Try.infoV6 _ (adr_len s 24 (by omega)))
  have HO24 : Hid (A24.toArray.all (·.oneCell') = true) := Lib.hid (by rw [hA24]; exact all_oneCell_toArray' (bytV_one _))
  have hl24 : A24.toArray.size = 16 := by rw [hA24]; exact (bytV_len _).trans (adr_len s 24 (by omega))
  have hth : w11.there w.heap.size 19 A24.toArray.size := by rw [hl24]; exact HS11.out.blk.there' 19 16 (by rw [HV4.out]; have := vals_len ({ pk0 with cls := (hdW s : Int) / 1048576 % 256, flow := (hdW s : Int) % 1048576, hop := (byN s 7 : Nat), fr := adr s 8, hfr := adr_len s 8 (by omega) } : Pk6) (.slice none 0 0); simp [this])
  rw [← hA24]
  have HA24 := Lib.hid hA24
  clear hA24 hl24
  obtain ⟨V5, hV5⟩ : ∃ V, V = (hdP s h40).vals (.slice none 0 0) := ⟨_, rfl⟩
  have hS12 : RS w w.heap.size r V5 s 40 (w11.setCells w.heap.size 19 A24) := HS11.out.sets 19 A24 V5 (by rw [HV4.out, hV5, HA24.out]; exact vputs_dst _ _ _ _)
  have HV5 := Lib.hid hV5
  have HIv : Hid ((Try.prog.info? 35).map (·.size) = some V5.length) := Lib.hid (by rw [hV5]; exact Try.info6 _ _)
  have HOv : Hid (V5.toArray.all (·.oneCell') = true) := Lib.hid (by rw [hV5]; exact vals_one _ _ rfl)
  have HS12 := Lib.hid hS12
  clear hV5 hS12 HV4 HA24
  have hrf := HS12.out.blk.range
  have htf : (w11.setCells w.heap.size 19 A24).there w.heap.size 0 V5.toArray.size := HS12.out.blk.there _ (Nat.le_refl _)
  go_wp2_with (first | (refine wpList_store_mid rfl 32 _ _ rfl w.heap.size 19 A24.toArray rfl rfl hth HI24.out HO24.out ?_) | (refine wpList_load_mid rfl 35 _ rfl w.heap.size 0 rfl V5 _ hrf Try.underlying35 rfl HIv.out ?_) | (refine wpList_store_mid rfl 35 _ _ rfl w.heap.size 0 V5.toArray rfl rfl htf HIv.out HOv.out ?_))
  have hS13 := HS12.out.sets 0 V5 V5 (puts_whole _ _ (by simp))
  refine bodyPost_ret (v := .tuple #[.agg V5.toArray, .int .i64 ((hdW s : Int) / 268435456), .int .i64 (hdL s : Nat), .int .i64 (byN s 6 : Nat)]) ?_ rfl ⟨by rw [HV5.out], hS13.low⟩
  exact results_cell4 rfl rfl rfl rfl rfl (run_loadVar_mid _ w.heap.size 0 35 V5 _ hS13.blk.range Try.underlying35 rfl HIv.out)
end Go.Proofs.Ytkihhmnlefekoaa
