/-
  Proved here: what the document's Parse answers, of texts that end ahead of a fragment's head.
  Conditions: texts of at most 70000 bytes.
-/
import Derived.Test.YtphemimpkbjfoaaRefParsePlain
namespace Go.Proofs.Ytphemimpkbjfoaa
open Go.RowKit

set_option maxRecDepth 100000 in
set_option maxHeartbeats 3000000 in
theorem rparse_short (s : ByteArray) (w : World) (h40 : ¬ 40 ≤ s.size) :
    Calls Try.prog 22 #[.string s] w (RPar pk0 7 w) := by
  have hlt : (s.size : Int) < 40 := by omega
  obtain ⟨Z, hZ⟩ : ∃ Z, Z = pk0.vals (.slice none 0 0) := ⟨_, rfl⟩
  obtain ⟨VN, hVN⟩ : ∃ VN, VN = Z := ⟨_, rfl⟩
  have HEX : Hid (∀ (ρ : Operand → Value) (d : Option Tmp) (ty : TypeId) (ps : String) (af : Array Edge) (W : World), (execOp ρ { dst := d, op := .build 31 #[], type := ty, pos := ps, after := af, guard := none }).run Try.prog W = .ok (.value (.agg VN.toArray)) W) := Lib.hid (fun ρ d ty ps af W => by rw [hVN, hZ]; exact Try.execZ6 ρ d ty ps af W)
  have HIVN : Hid ((Try.prog.info? 31).map (·.size) = some VN.length) := Lib.hid (by rw [hVN, hZ]; exact Try.info6 _ _)
  have HOVN : Hid (VN.toArray.all (·.oneCell') = true) := Lib.hid (by rw [hVN, hZ]; exact vals_one _ _ rfl)
  have HLVN : Hid (VN.length = Z.toArray.size) := Lib.hid (by rw [hVN, hZ, List.size_toArray, vals_len])
  have hz0 : Z.toArray = #[.int .i64 0, .int .i64 0, .int .i64 0, .int .u8 0, .int .u8 0, .int .u8 0, .int .u8 0, .int .u8 0, .int .u8 0, .int .u8 0, .int .u8 0, .int .u8 0, .int .u8 0, .int .u8 0, .int .u8 0, .int .u8 0, .int .u8 0, .int .u8 0, .int .u8 0, .int .u8 0, .int .u8 0, .int .u8 0, .int .u8 0, .int .u8 0, .int .u8 0, .int .u8 0, .int .u8 0, .int .u8 0, .int .u8 0, .int .u8 0, .int .u8 0, .int .u8 0, .int .u8 0, .int .u8 0, .int .u8 0, .slice none 0 0, .bool false, .int .u32 0, .int .i64 0, .bool false, .int .i64 0, .string ⟨#[]⟩] := by rw [hZ]; exact pk0_vals
  have HZ := Lib.hid hZ
  have HZ0 := Lib.hid hz0
  have HVN := Lib.hid hVN
  clear hZ hVN
  have HK1 := Lib.hid ((Kp.start w).new 31 Z)
  generalize hw1 : w.alloc (.cells Z.toArray 31) = w1 at *
  rw [hz0] at hw1
  go_enter Try.func22, Try.ntmps22
  go_upto_region 1 with (fail)
  clear hw1 hz0
  have HK2 := Lib.hid (HK1.out.put 31 Z.toArray VN HLVN.out)
  have ht : (w1.alloc (.cells Z.toArray 31)).there w1.heap.size 0 VN.toArray.size := (bk_new w1 31 Z.toArray).there _ (by rw [List.size_toArray, HLVN.out]; exact Nat.le_refl _)
  generalize hwn : (w1.alloc (.cells Z.toArray 31)).setCells w1.heap.size 0 VN = w2 at *
  rw [HZ0.out] at hwn ht
  go_upto_region 2 with (first | (refine Great.wpList_readTo rfl _ rfl (.agg VN.toArray) (HEX.out _ _ _ _ _ _) ?_) | (refine wpList_store_mid rfl 31 _ _ rfl w1.heap.size 0 VN.toArray rfl rfl ht HIVN.out HOVN.out ?_))
  try rw [hwn]
  clear hwn ht HK1 HEX
  generalize w1.heap.size = b4 at *
  have hrg : w2.rangeAt b4 0 VN := (HK2.out.1 (b4, 31, VN) (by simp)).range
  have htf : w2.there w.heap.size 0 VN.toArray.size := (HK2.out.1 (w.heap.size, 31, Z) (by simp)).there _ (by rw [List.size_toArray, HLVN.out]; exact Nat.le_refl _)
  go_wp2_with (first | (refine wpList_load_mid rfl 31 _ rfl b4 0 rfl VN _ hrg Try.underlying31 rfl HIVN.out ?_) | (refine wpList_store_mid rfl 31 _ _ rfl w.heap.size 0 VN.toArray rfl rfl htf HIVN.out HOVN.out ?_))
  have hk5 := Bk.sets VN 0 _ _ (HK2.out.1 (w.heap.size, 31, Z) (by simp))
  rw [puts_whole Z.toArray VN HLVN.out] at hk5
  refine bodyPost_ret (v := .tuple #[.agg VN.toArray, .int .i64 7]) ?_ rfl ?_
  · exact results_cell2 rfl rfl rfl (run_loadVar_mid _ w.heap.size 0 31 VN _ hk5.range Try.underlying31 rfl HIVN.out)
  · exact ⟨.slice none 0 0, by rw [HVN.out, HZ.out], own_nil _ _ _, below_sets _ (Nat.le_refl _) 0 _ HK2.out.2.1⟩
set_option maxRecDepth 100000 in
set_option maxHeartbeats 3000000 in
theorem rparse_first (s : ByteArray) (w : World) (h40 : 40 ≤ s.size) (h6 : (hdW s : Int) / 268435456 ≠ 6) :
    Calls Try.prog 22 #[.string s] w (RPar pk0 8 w) := by
  have hge : ¬ (s.size : Int) < 40 := by omega
  have h0s : 0 < s.size := by omega
  have i6 : (6 : Int) < (s.size : Int) := by omega
  have i7 : (7 : Int) < (s.size : Int) := by omega
  have u0 := s[0].toNat_lt
  have u6 := s[6].toNat_lt
  have u7 := s[7].toNat_lt
  have w7 : wrap64 ((s[7].toNat : Nat) : Int) = ((s[7].toNat : Nat) : Int) := by unfold wrap64; omega
  have w6 : IntKind.i64.wrap ((s[6].toNat : Nat) : Int) = ((s[6].toNat : Nat) : Int) := IntWalk.i64_in _ (by omega)
  have t40 : ((40 : Int) + (hdL s : Int)).toNat = 40 + hdL s := by omega
  have hnib := first_nib s h0s (by omega)
  have k16 : ((s[0].toNat : Nat) : Int).tdiv 16 = (hdW s : Int) / 268435456 := by rw [Int.tdiv_eq_ediv_of_nonneg (by omega)]; exact hnib
  have k17 : IntKind.u8.wrap ((hdW s : Int) / 268435456) = (hdW s : Int) / 268435456 := IntWalk.u8_in _ (by omega)
  have hwl := hdW_lt s
  have m6 : ((hdW s : Int) / 268435456 != 6) = true := by rw [bne_iff_ne]; exact h6
  clear hnib
  obtain ⟨Z, hZ⟩ : ∃ Z, Z = pk0.vals (.slice none 0 0) := ⟨_, rfl⟩
  obtain ⟨VN, hVN⟩ : ∃ VN, VN = Z := ⟨_, rfl⟩
  have HEX : Hid (∀ (ρ : Operand → Value) (d : Option Tmp) (ty : TypeId) (ps : String) (af : Array Edge) (W : World), (execOp ρ { dst := d, op := .build 31 #[], type := ty, pos := ps, after := af, guard := none }).run Try.prog W = .ok (.value (.agg VN.toArray)) W) := Lib.hid (fun ρ d ty ps af W => by rw [hVN, hZ]; exact Try.execZ6 ρ d ty ps af W)
  have HIVN : Hid ((Try.prog.info? 31).map (·.size) = some VN.length) := Lib.hid (by rw [hVN, hZ]; exact Try.info6 _ _)
  have HOVN : Hid (VN.toArray.all (·.oneCell') = true) := Lib.hid (by rw [hVN, hZ]; exact vals_one _ _ rfl)
  have HLVN : Hid (VN.length = Z.toArray.size) := Lib.hid (by rw [hVN, hZ, List.size_toArray, vals_len])
  have hz0 : Z.toArray = #[.int .i64 0, .int .i64 0, .int .i64 0, .int .u8 0, .int .u8 0, .int .u8 0, .int .u8 0, .int .u8 0, .int .u8 0, .int .u8 0, .int .u8 0, .int .u8 0, .int .u8 0, .int .u8 0, .int .u8 0, .int .u8 0, .int .u8 0, .int .u8 0, .int .u8 0, .int .u8 0, .int .u8 0, .int .u8 0, .int .u8 0, .int .u8 0, .int .u8 0, .int .u8 0, .int .u8 0, .int .u8 0, .int .u8 0, .int .u8 0, .int .u8 0, .int .u8 0, .int .u8 0, .int .u8 0, .int .u8 0, .slice none 0 0, .bool false, .int .u32 0, .int .i64 0, .bool false, .int .i64 0, .string ⟨#[]⟩] := by rw [hZ]; exact pk0_vals
  have HZ := Lib.hid hZ
  have HZ0 := Lib.hid hz0
  have HVN := Lib.hid hVN
  clear hZ hVN
  have HK1 := Lib.hid ((Kp.start w).new 31 Z)
  generalize hw1 : w.alloc (.cells Z.toArray 31) = w1 at *
  rw [hz0] at hw1
  go_enter Try.func22, Try.ntmps22
  go_upto_region 1 with (fail)
  clear hw1 hz0
  have HK2 := Lib.hid (HK1.out.put 31 Z.toArray VN HLVN.out)
  have ht : (w1.alloc (.cells Z.toArray 31)).there w1.heap.size 0 VN.toArray.size := (bk_new w1 31 Z.toArray).there _ (by rw [List.size_toArray, HLVN.out]; exact Nat.le_refl _)
  generalize hwn : (w1.alloc (.cells Z.toArray 31)).setCells w1.heap.size 0 VN = w2 at *
  rw [HZ0.out] at hwn ht
  go_upto_region 2 with (first | (refine Great.wpList_readTo rfl _ rfl (.agg VN.toArray) (HEX.out _ _ _ _ _ _) ?_) | (refine wpList_store_mid rfl 31 _ _ rfl w1.heap.size 0 VN.toArray rfl rfl ht HIVN.out HOVN.out ?_))
  try rw [hwn]
  clear hwn ht HK1 HEX
  generalize w1.heap.size = b4 at *
  have hrg : w2.rangeAt b4 0 VN := (HK2.out.1 (b4, 31, VN) (by simp)).range
  have htf : w2.there w.heap.size 0 VN.toArray.size := (HK2.out.1 (w.heap.size, 31, Z) (by simp)).there _ (by rw [List.size_toArray, HLVN.out]; exact Nat.le_refl _)
  go_wp2_with (first | (refine wpList_load_mid rfl 31 _ rfl b4 0 rfl VN _ hrg Try.underlying31 rfl HIVN.out ?_) | (refine wpList_store_mid rfl 31 _ _ rfl w.heap.size 0 VN.toArray rfl rfl htf HIVN.out HOVN.out ?_))
  have hk5 := Bk.sets VN 0 _ _ (HK2.out.1 (w.heap.size, 31, Z) (by simp))
  rw [puts_whole Z.toArray VN HLVN.out] at hk5
  refine bodyPost_ret (v := .tuple #[.agg VN.toArray, .int .i64 8]) ?_ rfl ?_
  · exact results_cell2 rfl rfl rfl (run_loadVar_mid _ w.heap.size 0 31 VN _ hk5.range Try.underlying31 rfl HIVN.out)
  · exact ⟨.slice none 0 0, by rw [HVN.out, HZ.out], own_nil _ _ _, below_sets _ (Nat.le_refl _) 0 _ HK2.out.2.1⟩
set_option maxRecDepth 100000 in
set_option maxHeartbeats 3000000 in
theorem rparse_behind (s : ByteArray) (w : World) (hs : s.size ≤ 70000) (h40 : 40 ≤ s.size) (h6 : (hdW s : Int) / 268435456 = 6) (hb : s.size < 40 + hdL s) :
    Calls Try.prog 22 #[.string s] w (RPar pk0 7 w) := by
  have hge : ¬ (s.size : Int) < 40 := by omega
  have h0s : 0 < s.size := by omega
  have i6 : (6 : Int) < (s.size : Int) := by omega
  have i7 : (7 : Int) < (s.size : Int) := by omega
  have u0 := s[0].toNat_lt
  have u6 := s[6].toNat_lt
  have u7 := s[7].toNat_lt
  have w7 : wrap64 ((s[7].toNat : Nat) : Int) = ((s[7].toNat : Nat) : Int) := by unfold wrap64; omega
  have w6 : IntKind.i64.wrap ((s[6].toNat : Nat) : Int) = ((s[6].toNat : Nat) : Int) := IntWalk.i64_in _ (by omega)
  have t40 : ((40 : Int) + (hdL s : Int)).toNat = 40 + hdL s := by omega
  have hnib := first_nib s h0s (by omega)
  have k16 : ((s[0].toNat : Nat) : Int).tdiv 16 = (hdW s : Int) / 268435456 := by rw [Int.tdiv_eq_ediv_of_nonneg (by omega)]; exact hnib
  have k17 : IntKind.u8.wrap ((hdW s : Int) / 268435456) = (hdW s : Int) / 268435456 := IntWalk.u8_in _ (by omega)
  have hll := hdL_lt s
  have hwl := hdW_lt s
  have N1 : Hid (∀ W, Calls Try.prog 43 #[.string s, .int .i64 4, .int .i64 2] W fun e w' => e = .returned (.int .i64 (hdL s : Nat)) ∧ Below W.heap.size W w') := Lib.hid (fun W => rnumber_any s 4 2 W hs (by omega) (by omega))
  have N2 : Hid (∀ W, Calls Try.prog 43 #[.string s, .int .i64 0, .int .i64 4] W fun e w' => e = .returned (.int .i64 (hdW s : Nat)) ∧ Below W.heap.size W w') := Lib.hid (fun W => rnumber_any s 0 4 W hs (by omega) (by omega))
  have m6 : ((hdW s : Int) / 268435456 != 6) = false := by rw [h6]; rfl
  clear hnib h6
  obtain ⟨Z, hZ⟩ : ∃ Z, Z = pk0.vals (.slice none 0 0) := ⟨_, rfl⟩
  obtain ⟨VN, hVN⟩ : ∃ VN, VN = Z := ⟨_, rfl⟩
  have HEX : Hid (∀ (ρ : Operand → Value) (d : Option Tmp) (ty : TypeId) (ps : String) (af : Array Edge) (W : World), (execOp ρ { dst := d, op := .build 31 #[], type := ty, pos := ps, after := af, guard := none }).run Try.prog W = .ok (.value (.agg VN.toArray)) W) := Lib.hid (fun ρ d ty ps af W => by rw [hVN, hZ]; exact Try.execZ6 ρ d ty ps af W)
  have HIVN : Hid ((Try.prog.info? 31).map (·.size) = some VN.length) := Lib.hid (by rw [hVN, hZ]; exact Try.info6 _ _)
  have HOVN : Hid (VN.toArray.all (·.oneCell') = true) := Lib.hid (by rw [hVN, hZ]; exact vals_one _ _ rfl)
  have HLVN : Hid (VN.length = Z.toArray.size) := Lib.hid (by rw [hVN, hZ, List.size_toArray, vals_len])
  have hz0 : Z.toArray = #[.int .i64 0, .int .i64 0, .int .i64 0, .int .u8 0, .int .u8 0, .int .u8 0, .int .u8 0, .int .u8 0, .int .u8 0, .int .u8 0, .int .u8 0, .int .u8 0, .int .u8 0, .int .u8 0, .int .u8 0, .int .u8 0, .int .u8 0, .int .u8 0, .int .u8 0, .int .u8 0, .int .u8 0, .int .u8 0, .int .u8 0, .int .u8 0, .int .u8 0, .int .u8 0, .int .u8 0, .int .u8 0, .int .u8 0, .int .u8 0, .int .u8 0, .int .u8 0, .int .u8 0, .int .u8 0, .int .u8 0, .slice none 0 0, .bool false, .int .u32 0, .int .i64 0, .bool false, .int .i64 0, .string ⟨#[]⟩] := by rw [hZ]; exact pk0_vals
  have HZ := Lib.hid hZ
  have HZ0 := Lib.hid hz0
  have HVN := Lib.hid hVN
  clear hZ hVN
  have HK1 := Lib.hid ((Kp.start w).new 31 Z)
  generalize hw1 : w.alloc (.cells Z.toArray 31) = w1 at *
  rw [hz0] at hw1
  go_enter Try.func22, Try.ntmps22
  go_upto_region 1 with (fail)
  clear hw1 hz0
  have HK2 := Lib.hid (HK1.out.put 31 Z.toArray VN HLVN.out)
  have ht : (w1.alloc (.cells Z.toArray 31)).there w1.heap.size 0 VN.toArray.size := (bk_new w1 31 Z.toArray).there _ (by rw [List.size_toArray, HLVN.out]; exact Nat.le_refl _)
  generalize hwn : (w1.alloc (.cells Z.toArray 31)).setCells w1.heap.size 0 VN = w2 at *
  rw [HZ0.out] at hwn ht
  go_upto_region 2 with (first | (refine Great.wpList_readTo rfl _ rfl (.agg VN.toArray) (HEX.out _ _ _ _ _ _) ?_) | (refine wpList_store_mid rfl 31 _ _ rfl w1.heap.size 0 VN.toArray rfl rfl ht HIVN.out HOVN.out ?_))
  try rw [hwn]
  clear hwn ht HK1 HEX
  generalize w1.heap.size = b4 at *
  go_wp2_with fail
  refine (N1.out _).mono ?_
  rintro e w3 ⟨rfl, b1⟩
  have HK3 := Lib.hid (HK2.out.below b1 (Nat.le_refl _))
  clear b1 HK2 N1 m6 k16 k17 u0
  have ka : IntKind.i64.wrap (40 + (hdL s : Int)) = 40 + (hdL s : Int) := IntWalk.i64_in _ (by omega)
  have kl : (s.size : Int) < 40 + (hdL s : Int) := by omega
  clear N2
  have hrg : w3.rangeAt b4 0 VN := (HK3.out.1 (b4, 31, VN) (by simp)).range
  have htf : w3.there w.heap.size 0 VN.toArray.size := (HK3.out.1 (w.heap.size, 31, Z) (by simp)).there _ (by rw [List.size_toArray, HLVN.out]; exact Nat.le_refl _)
  go_wp2_with (first | (refine wpList_load_mid rfl 31 _ rfl b4 0 rfl VN _ hrg Try.underlying31 rfl HIVN.out ?_) | (refine wpList_store_mid rfl 31 _ _ rfl w.heap.size 0 VN.toArray rfl rfl htf HIVN.out HOVN.out ?_))
  have hk5 := Bk.sets VN 0 _ _ (HK3.out.1 (w.heap.size, 31, Z) (by simp))
  rw [puts_whole Z.toArray VN HLVN.out] at hk5
  refine bodyPost_ret (v := .tuple #[.agg VN.toArray, .int .i64 7]) ?_ rfl ?_
  · exact results_cell2 rfl rfl rfl (run_loadVar_mid _ w.heap.size 0 31 VN _ hk5.range Try.underlying31 rfl HIVN.out)
  · exact ⟨.slice none 0 0, by rw [HVN.out, HZ.out], own_nil _ _ _, below_sets _ (Nat.le_refl _) 0 _ HK3.out.2.1⟩
set_option maxRecDepth 100000 in
set_option maxHeartbeats 3000000 in
theorem rparse_chain (s : ByteArray) (w : World) (hs : s.size ≤ 70000) (h40 : 40 ≤ s.size) (h6 : (hdW s : Int) / 268435456 = 6) (hb : ¬ s.size < 40 + hdL s) (hc : (prC s).code ≠ 0) :
    Calls Try.prog 22 #[.string s] w (RPar pk0 (prC s).code w) := by
  have hge : ¬ (s.size : Int) < 40 := by omega
  have h0s : 0 < s.size := by omega
  have i6 : (6 : Int) < (s.size : Int) := by omega
  have i7 : (7 : Int) < (s.size : Int) := by omega
  have u0 := s[0].toNat_lt
  have u6 := s[6].toNat_lt
  have u7 := s[7].toNat_lt
  have w7 : wrap64 ((s[7].toNat : Nat) : Int) = ((s[7].toNat : Nat) : Int) := by unfold wrap64; omega
  have w6 : IntKind.i64.wrap ((s[6].toNat : Nat) : Int) = ((s[6].toNat : Nat) : Int) := IntWalk.i64_in _ (by omega)
  have t40 : ((40 : Int) + (hdL s : Int)).toNat = 40 + hdL s := by omega
  have hnib := first_nib s h0s (by omega)
  have k16 : ((s[0].toNat : Nat) : Int).tdiv 16 = (hdW s : Int) / 268435456 := by rw [Int.tdiv_eq_ediv_of_nonneg (by omega)]; exact hnib
  have k17 : IntKind.u8.wrap ((hdW s : Int) / 268435456) = (hdW s : Int) / 268435456 := IntWalk.u8_in _ (by omega)
  have hll := hdL_lt s
  have hwl := hdW_lt s
  have N1 : Hid (∀ W, Calls Try.prog 43 #[.string s, .int .i64 4, .int .i64 2] W fun e w' => e = .returned (.int .i64 (hdL s : Nat)) ∧ Below W.heap.size W w') := Lib.hid (fun W => rnumber_any s 4 2 W hs (by omega) (by omega))
  have N2 : Hid (∀ W, Calls Try.prog 43 #[.string s, .int .i64 0, .int .i64 4] W fun e w' => e = .returned (.int .i64 (hdW s : Nat)) ∧ Below W.heap.size W w') := Lib.hid (fun W => rnumber_any s 0 4 W hs (by omega) (by omega))
  have m6 : ((hdW s : Int) / 268435456 != 6) = false := by rw [h6]; rfl
  clear hnib h6
  have HCh : Hid (∀ (W : World) (b : Nat), b < W.heap.size → Calls Try.prog 24 #[.int .i64 ((s[6].toNat : Nat) : Int), .string (s.extract 40 (40 + hdL s))] W fun e w' => ∃ v, e = .returned (.tuple #[v, .int .i64 (prC s).proto, .string (prC s).rest, .int .i64 (prC s).code]) ∧ w'.ownsRow (b + 1) 40 2 v (prC s).exts.length (extV (prC s).exts) ∧ Below W.heap.size W w') := Lib.hid (fun W b hb => by
    rw [← byN_at s 6 (by omega)]
    refine (rchain_any (byN s 6 : Nat) (s.extract 40 (40 + hdL s)) W (by simp; omega)).mono ?_
    rintro e w' ⟨v, rfl, hown, hbl⟩
    exact ⟨v, rfl, own_le hown hb, hbl⟩)
  obtain ⟨VL, hVL⟩ : ∃ VL : Nat → List Value, VL = fun k => (pkL s k).vals (.slice none 0 0) := ⟨_, rfl⟩
  obtain ⟨VB, hVB⟩ : ∃ VB, VB = VL 0 := ⟨_, rfl⟩
  obtain ⟨VH, hVH⟩ : ∃ VH, VH = (hdP s h40).vals (.slice none 0 0) := ⟨_, rfl⟩
  have HEB : Hid (∀ (a : Act) (t0 t1 t2 : Nat) (d : Option Tmp) (ty : TypeId) (ps : String) (af : Array Edge) (W : World), a.eval (.tmp t0) = .int .i64 ((hdW s : Int) / 1048576 % 256) → a.eval (.tmp t1) = .int .i64 ((hdW s : Int) % 1048576) → a.eval (.tmp t2) = .int .i64 ((s[7].toNat : Nat) : Int) → (execOp a.eval { dst := d, op := .build 31 #[(0, .tmp t0), (1, .tmp t1), (2, .tmp t2)], type := ty, pos := ps, after := af, guard := none }).run Try.prog W = .ok (.value (.agg VB.toArray)) W) := Lib.hid (fun a t0 t1 t2 d ty ps af W e0 e1 e2 => by
    have h := Try.execB6 a t0 t1 t2 _ _ _ d ty ps af W e0 e1 e2
    rw [h, hVB, hVL, ← byN_at s 7 (by omega)]
    rfl)
  have HS3 : Hid (∀ (k : Nat) (hk : k < 16), ((VL k).set (3 + k) (.int .u8 ((s[8 + k]'(by omega)).toNat : Int))).set (19 + k) (.int .u8 ((s[24 + k]'(by omega)).toNat : Int)) = VL (k + 1)) := Lib.hid (fun k hk => by rw [hVL]; exact pkL_step s k hk h40)
  have HC3 : Hid (∀ (k : Nat) (i : Nat), i < 42 → ∃ x, (VL k)[i]? = some x) := Lib.hid (fun k i hi => by rw [hVL]; exact vals_some _ _ i hi)
  have HC19 : Hid (∀ (k : Nat) (y : Value), k < 16 → ∃ x, ((VL k).set (3 + k) y)[19 + k]? = some x) := Lib.hid (fun k y hk => by rw [List.getElem?_set_ne (by omega), hVL]; exact vals_some _ _ (19 + k) (by omega))
  have HE16 : Hid (VL 16 = VH) := Lib.hid (by rw [hVL, hVH]; exact pkL_end s h40)
  have HVH := Lib.hid hVH
  have HVB0 := Lib.hid (show ∃ q : Pk6, VB = q.vals (.slice none 0 0) from ⟨pkL s 0, by rw [hVB, hVL]⟩)
  have HVBL := Lib.hid hVB
  clear hVH hVL hVB
  obtain ⟨Z, hZ⟩ : ∃ Z, Z = pk0.vals (.slice none 0 0) := ⟨_, rfl⟩
  obtain ⟨VN, hVN⟩ : ∃ VN, VN = Z := ⟨_, rfl⟩
  have HEX : Hid (∀ (ρ : Operand → Value) (d : Option Tmp) (ty : TypeId) (ps : String) (af : Array Edge) (W : World), (execOp ρ { dst := d, op := .build 31 #[], type := ty, pos := ps, after := af, guard := none }).run Try.prog W = .ok (.value (.agg VN.toArray)) W) := Lib.hid (fun ρ d ty ps af W => by rw [hVN, hZ]; exact Try.execZ6 ρ d ty ps af W)
  have HIVN : Hid ((Try.prog.info? 31).map (·.size) = some VN.length) := Lib.hid (by rw [hVN, hZ]; exact Try.info6 _ _)
  have HOVN : Hid (VN.toArray.all (·.oneCell') = true) := Lib.hid (by rw [hVN, hZ]; exact vals_one _ _ rfl)
  have HLVN : Hid (VN.length = Z.toArray.size) := Lib.hid (by rw [hVN, hZ, List.size_toArray, vals_len])
  have hz0 : Z.toArray = #[.int .i64 0, .int .i64 0, .int .i64 0, .int .u8 0, .int .u8 0, .int .u8 0, .int .u8 0, .int .u8 0, .int .u8 0, .int .u8 0, .int .u8 0, .int .u8 0, .int .u8 0, .int .u8 0, .int .u8 0, .int .u8 0, .int .u8 0, .int .u8 0, .int .u8 0, .int .u8 0, .int .u8 0, .int .u8 0, .int .u8 0, .int .u8 0, .int .u8 0, .int .u8 0, .int .u8 0, .int .u8 0, .int .u8 0, .int .u8 0, .int .u8 0, .int .u8 0, .int .u8 0, .int .u8 0, .int .u8 0, .slice none 0 0, .bool false, .int .u32 0, .int .i64 0, .bool false, .int .i64 0, .string ⟨#[]⟩] := by rw [hZ]; exact pk0_vals
  have HZ := Lib.hid hZ
  have HZ0 := Lib.hid hz0
  have HVN := Lib.hid hVN
  clear hZ hVN
  have HK1 := Lib.hid ((Kp.start w).new 31 Z)
  generalize hw1 : w.alloc (.cells Z.toArray 31) = w1 at *
  rw [hz0] at hw1
  go_enter Try.func22, Try.ntmps22
  go_upto_region 1 with (fail)
  clear hw1 hz0
  have HK2 := Lib.hid (HK1.out.put 31 Z.toArray VN HLVN.out)
  have ht : (w1.alloc (.cells Z.toArray 31)).there w1.heap.size 0 VN.toArray.size := (bk_new w1 31 Z.toArray).there _ (by rw [List.size_toArray, HLVN.out]; exact Nat.le_refl _)
  generalize hwn : (w1.alloc (.cells Z.toArray 31)).setCells w1.heap.size 0 VN = w2 at *
  rw [HZ0.out] at hwn ht
  go_upto_region 2 with (first | (refine Great.wpList_readTo rfl _ rfl (.agg VN.toArray) (HEX.out _ _ _ _ _ _) ?_) | (refine wpList_store_mid rfl 31 _ _ rfl w1.heap.size 0 VN.toArray rfl rfl ht HIVN.out HOVN.out ?_))
  try rw [hwn]
  clear hwn ht HK1 HEX
  generalize w1.heap.size = b4 at *
  obtain ⟨qB, hqB⟩ := HVB0.out
  have HIVB : Hid ((Try.prog.info? 31).map (·.size) = some VB.length) := Lib.hid (by rw [hqB]; exact Try.info6 _ _)
  have HOVB : Hid (VB.toArray.all (·.oneCell') = true) := Lib.hid (by rw [hqB]; exact vals_one _ _ rfl)
  have HLVB : Hid (VB.length = Z.toArray.size) := Lib.hid (by rw [hqB, List.size_toArray, HZ.out, vals_len, vals_len])
  clear hqB qB HVB0
  go_wp2_with fail
  refine (N1.out _).mono ?_
  rintro e w3 ⟨rfl, b1⟩
  have HK3 := Lib.hid (HK2.out.below b1 (Nat.le_refl _))
  clear b1 HK2 N1 m6 k16 k17 u0
  have ka : IntKind.i64.wrap (40 + (hdL s : Int)) = 40 + (hdL s : Int) := IntWalk.i64_in _ (by omega)
  have kl : ¬ (s.size : Int) < 40 + (hdL s : Int) := by omega
  go_wp2_with fail
  refine (N2.out _).mono ?_
  rintro e w4 ⟨rfl, b1⟩
  have HK4 := Lib.hid (HK3.out.below b1 (Nat.le_refl _))
  clear b1 HK3 N2
  have x1 : (hdW s : Int).tdiv 1048576 = (hdW s : Int) / 1048576 := Int.tdiv_eq_ediv_of_nonneg (by omega)
  have x2 : IntKind.i64.wrap ((hdW s : Int) / 1048576) = (hdW s : Int) / 1048576 := IntWalk.i64_in _ (by omega)
  have x3 : ((hdW s : Int) / 1048576).tmod 256 = (hdW s : Int) / 1048576 % 256 := Int.tmod_eq_emod_of_nonneg (by omega)
  have x4 : IntKind.i64.wrap ((hdW s : Int) / 1048576 % 256) = (hdW s : Int) / 1048576 % 256 := IntWalk.i64_in _ (by omega)
  have x5 : (hdW s : Int).tmod 1048576 = (hdW s : Int) % 1048576 := Int.tmod_eq_emod_of_nonneg (by omega)
  have x6 : IntKind.i64.wrap ((hdW s : Int) % 1048576) = (hdW s : Int) % 1048576 := IntWalk.i64_in _ (by omega)
  have HK5 := Lib.hid (HK4.out.put 31 Z.toArray VB HLVB.out)
  have ht : (w4.alloc (.cells Z.toArray 31)).there w4.heap.size 0 VB.toArray.size := (bk_new w4 31 Z.toArray).there _ (by rw [List.size_toArray, HLVB.out]; exact Nat.le_refl _)
  generalize hwn : (w4.alloc (.cells Z.toArray 31)).setCells w4.heap.size 0 VB = w5 at *
  rw [HZ0.out] at hwn ht
  have HNE7 := Lib.hid (fun x hx => HK4.out.ne x hx)
  have HL7 := Lib.hid HK4.out.2.2
  go_upto_region 11 with (first | (refine Great.wpList_readTo rfl _ rfl (.agg VB.toArray) (HEB.out _ _ _ _ _ _ _ _ _ rfl rfl rfl) ?_) | (refine wpList_store_mid rfl 31 _ _ rfl w4.heap.size 0 VB.toArray rfl rfl ht HIVB.out HOVB.out ?_))
  try rw [hwn]
  clear hwn ht HK4 HEB HIVB HOVB HLVB x1 x2 x3 x4 x5 x6
  generalize w4.heap.size = b7 at *
  go_wp2_with fail
  go_loopw [8] (fun i wr => ∃ k : Nat, k ≤ 16 ∧ i = .int .i64 k ∧ Kp w w.heap.size [(b7, 31, VL k), (b4, 31, VN), (w.heap.size, 31, Z)] wr) (fun i _ => 16 - (intOf i).toNat)
  case atStart => exact ⟨0, by omega, rfl, by rw [← HVBL.out]; exact HK5.out⟩
  case round =>
    obtain ⟨k, hk, rfl, hq⟩ := hrel
    have HKr := Lib.hid hq
    clear hq
    by_cases hlt : k < 16
    · have hlt2 : (k : Int) < 16 := by omega
      obtain ⟨y3, hy3⟩ := HC3.out k (3 + k) (by omega)
      have c3 := HKr.out.hd.at hy3
      have z3 := HKr.out.hd.z (3 + k)
      have q1 : IntKind.i64.wrap (8 + (k : Int)) = 8 + (k : Int) := IntWalk.i64_in _ (by omega)
      have q2 : IntKind.i64.wrap (24 + (k : Int)) = 24 + (k : Int) := IntWalk.i64_in _ (by omega)
      have q3 : 8 + (k : Int) < (s.size : Int) := by omega
      have q4 : 24 + (k : Int) < (s.size : Int) := by omega
      have q5 : (8 + (k : Int)).toNat = 8 + k := by omega
      have q6 : (24 + (k : Int)).toNat = 24 + k := by omega
      have q7 : (0 : Int) ≤ 8 + (k : Int) := by omega
      have q8 : (0 : Int) ≤ 24 + (k : Int) := by omega
      have q9 : 8 + k < s.size := by omega
      have q10 : 24 + k < s.size := by omega
      have HSk := Lib.hid (HS3.out k hlt)
      clear hy3
      go_upto_region 15 with (fail)
      have HKa := Lib.hid (HKr.out.set1 HNE7.out HL7.out (3 + k) (.int .u8 ((s[8 + k].toNat : Nat) : Int)))
      obtain ⟨y19, hy19⟩ := HC19.out k (.int .u8 ((s[8 + k].toNat : Nat) : Int)) hlt
      clear c3 z3
      generalize wr.setCell ⟨b7, 3 + k, none⟩ (.int .u8 ((s[8 + k].toNat : Nat) : Int)) = wa at *
      have c19 := HKa.out.hd.at hy19
      have z19 := HKa.out.hd.z (19 + k)
      have HKb := Lib.hid (HKa.out.set1 HNE7.out HL7.out (19 + k) (.int .u8 ((s[24 + k].toNat : Nat) : Int)))
      clear hy19
      go_wp2_with fail
      go_roundw
      case rel => exact ⟨k + 1, by omega, by go_num, by rw [← HSk.out]; exact HKb.out⟩
      case measure => simp [intOf]; omega
    · obtain rfl : k = 16 := by omega
      clear hlt hk HK5
      have hkr := HKr.out
      rw [HE16.out] at hkr
      have HKh := Lib.hid hkr
      clear hkr HKr
      simp only [Int.cast_ofNat_Int]
      have j1 : (40 : Int) ≤ 40 + (hdL s : Int) := by omega
      have j2 : 40 + (hdL s : Int) ≤ (s.size : Int) := by omega
      have j3 : (0 : Int) ≤ 40 + (hdL s : Int) := by omega
      go_upto_region 16 with (fail)
      refine wp_region_noPanic ?_
      refine wp_region_held_drew (S := fun w' => Kp w w.heap.size [(b7, 31, VH), (b4, 31, VN), (w.heap.size, 31, Z)] w') (by kernel_rfl) (HKh.out.drew) (fun hHeld => ?_)
      refine wpAnyH_take (i := 0) (oi := { dst := some 61, op := Op.move (Operand.tmp 0), type := 9, pos := "ref.go:78", after := #[], guard := none }) (v := ?_) rfl (by kernel_rfl) (by kernel_rfl) (by kernel_rfl) (fun _ _ _ h => h) (Or.inl ⟨by rfl, ?_⟩) (by assumption) ?_
      rotate_left
      · (intro ww hSw; (try dsimp only at hSw); go_simp; try with_reducible rfl)
      (try simp only [Act.put, List.setIfInBounds_toArray, List.set_cons_zero, List.set_cons_succ])
      refine wpAnyH_take (i := 1) (oi := { dst := some 62, op := Op.index 9 (Operand.tmp 61) (Operand.const (Value.int IntKind.i64 6)), type := 5, pos := "ref.go:78", after := #[{ on := 0, ground := Ground.data }], guard := none }) (v := ?_) rfl (by kernel_rfl) (by kernel_rfl) (by kernel_rfl) (fun _ _ _ h => h) (Or.inl ⟨by rfl, ?_⟩) (by assumption) ?_
      rotate_left
      · (intro ww hSw; (try dsimp only at hSw); go_simp; try with_reducible rfl)
      (try simp only [Act.put, List.setIfInBounds_toArray, List.set_cons_zero, List.set_cons_succ])
      refine wpAnyH_take (i := 2) (oi := { dst := some 63, op := Op.convert 5 3 (Operand.tmp 62), type := 3, pos := "ref.go:78", after := #[{ on := 1, ground := Ground.data }], guard := none }) (v := ?_) rfl (by kernel_rfl) (by kernel_rfl) (by kernel_rfl) (fun _ _ _ h => h) (Or.inl ⟨by rfl, ?_⟩) (by assumption) ?_
      rotate_left
      · (intro ww hSw; (try dsimp only at hSw); go_simp; try with_reducible rfl)
      (try simp only [Act.put, List.setIfInBounds_toArray, List.set_cons_zero, List.set_cons_succ])
      refine wpAnyH_take (i := 3) (oi := { dst := some 64, op := Op.move (Operand.tmp 0), type := 9, pos := "ref.go:78", after := #[], guard := none }) (v := ?_) rfl (by kernel_rfl) (by kernel_rfl) (by kernel_rfl) (fun _ _ _ h => h) (Or.inl ⟨by rfl, ?_⟩) (by assumption) ?_
      rotate_left
      · (intro ww hSw; (try dsimp only at hSw); go_simp; try with_reducible rfl)
      (try simp only [Act.put, List.setIfInBounds_toArray, List.set_cons_zero, List.set_cons_succ])
      refine wpAnyH_take (i := 4) (oi := { dst := some 65, op := Op.move (Operand.tmp 5), type := 3, pos := "ref.go:78", after := #[], guard := none }) (v := ?_) rfl (by kernel_rfl) (by kernel_rfl) (by kernel_rfl) (fun _ _ _ h => h) (Or.inl ⟨by rfl, ?_⟩) (by assumption) ?_
      rotate_left
      · (intro ww hSw; (try dsimp only at hSw); go_simp; try with_reducible rfl)
      (try simp only [Act.put, List.setIfInBounds_toArray, List.set_cons_zero, List.set_cons_succ])
      refine wpAnyH_take (i := 5) (oi := { dst := some 66, op := Op.binOp BinOp.add 3 (Operand.const (Value.int IntKind.i64 40)) (Operand.tmp 65) 3, type := 3, pos := "ref.go:78", after := #[{ on := 4, ground := Ground.data }], guard := none }) (v := ?_) rfl (by kernel_rfl) (by kernel_rfl) (by kernel_rfl) (fun _ _ _ h => h) (Or.inl ⟨by rfl, ?_⟩) (by assumption) ?_
      rotate_left
      · (intro ww hSw; (try dsimp only at hSw); go_simp; try with_reducible rfl)
      (try simp only [Act.put, List.setIfInBounds_toArray, List.set_cons_zero, List.set_cons_succ])
      refine wpAnyH_take (i := 6) (oi := { dst := some 67, op := Op.slice 9 (Operand.tmp 64) (some (Operand.const (Value.int IntKind.i64 40))) (some (Operand.tmp 66)) none, type := 9, pos := "ref.go:78", after := #[{ on := 3, ground := Ground.data }, { on := 5, ground := Ground.data }], guard := none }) (v := ?_) rfl (by kernel_rfl) (by kernel_rfl) (by kernel_rfl) (fun _ _ _ h => h) (Or.inl ⟨by rfl, ?_⟩) (by assumption) ?_
      rotate_left
      · (intro ww hSw; (try dsimp only at hSw); go_simp; try with_reducible rfl)
      (try simp only [Act.put, List.setIfInBounds_toArray, List.set_cons_zero, List.set_cons_succ])
      refine wpAnyH_ready (rs := [7]) (by kernel_rfl) (by simp) ?_
      refine AllReadyH.cons (o := { dst := some 68, op := Op.call { callee := Callee.value (Operand.func 24), args := #[Operand.tmp 63, Operand.tmp 67], argTypes := #[3, 9] }, type := 50, pos := "ref.go:78", after := #[{ on := 2, ground := Ground.data }, { on := 6, ground := Ground.data }], guard := none }) rfl (fun K hK => ?_) AllReadyH.nil
      go_simp
      ((with_reducible refine (HCh.out _ b7 hHeld.hd.lt).mono ?_); rintro e w9 ⟨v, rfl, hown, hb9⟩)
      refine hK.out _ _ (hHeld.below hb9 (Nat.le_refl _)) (fun hHeld => ?_)
      clear hK K
      (try simp only [Act.put, List.setIfInBounds_toArray, List.set_cons_zero, List.set_cons_succ])
      refine wpAnyH_take (i := 8) (oi := { dst := some 60, op := Op.move (Operand.tmp 68), type := 50, pos := "ref.go:78", after := #[{ on := 7, ground := Ground.data }], guard := none }) (v := ?_) rfl (by kernel_rfl) (by kernel_rfl) (by kernel_rfl) (fun _ _ _ h => h) (Or.inl ⟨by rfl, ?_⟩) (by assumption) ?_
      rotate_left
      · (intro ww hSw; (try dsimp only at hSw); go_simp; try with_reducible rfl)
      (try simp only [Act.put, List.setIfInBounds_toArray, List.set_cons_zero, List.set_cons_succ])
      refine wpAnyH_take (i := 9) (oi := { dst := some 69, op := Op.extract (Operand.tmp 60) 0, type := 22, pos := "ref.go:78", after := #[{ on := 8, ground := Ground.data }], guard := none }) (v := ?_) rfl (by kernel_rfl) (by kernel_rfl) (by kernel_rfl) (fun _ _ _ h => h) (Or.inl ⟨by rfl, ?_⟩) (by assumption) ?_
      rotate_left
      · (intro ww hSw; (try dsimp only at hSw); go_simp; try with_reducible rfl)
      (try simp only [Act.put, List.setIfInBounds_toArray, List.set_cons_zero, List.set_cons_succ])
      refine wpAnyH_take (i := 10) (oi := { dst := some 70, op := Op.extract (Operand.tmp 60) 1, type := 3, pos := "ref.go:78", after := #[{ on := 8, ground := Ground.data }, { on := 13, ground := Ground.gcOnly Departure.lateStores }], guard := none }) (v := ?_) rfl (by kernel_rfl) (by kernel_rfl) (by kernel_rfl) (fun _ _ _ h => h) (Or.inl ⟨by rfl, ?_⟩) (by assumption) ?_
      rotate_left
      · (intro ww hSw; (try dsimp only at hSw); go_simp; try with_reducible rfl)
      (try simp only [Act.put, List.setIfInBounds_toArray, List.set_cons_zero, List.set_cons_succ])
      refine wpAnyH_take (i := 11) (oi := { dst := some 71, op := Op.extract (Operand.tmp 60) 2, type := 9, pos := "ref.go:78", after := #[{ on := 8, ground := Ground.data }, { on := 14, ground := Ground.gcOnly Departure.lateStores }], guard := none }) (v := ?_) rfl (by kernel_rfl) (by kernel_rfl) (by kernel_rfl) (fun _ _ _ h => h) (Or.inl ⟨by rfl, ?_⟩) (by assumption) ?_
      rotate_left
      · (intro ww hSw; (try dsimp only at hSw); go_simp; try with_reducible rfl)
      (try simp only [Act.put, List.setIfInBounds_toArray, List.set_cons_zero, List.set_cons_succ])
      refine wpAnyH_take (i := 12) (oi := { dst := some 72, op := Op.extract (Operand.tmp 60) 3, type := 3, pos := "ref.go:78", after := #[{ on := 8, ground := Ground.data }, { on := 15, ground := Ground.gcOnly Departure.lateStores }], guard := none }) (v := ?_) rfl (by kernel_rfl) (by kernel_rfl) (by kernel_rfl) (fun _ _ _ h => h) (Or.inl ⟨by rfl, ?_⟩) (by assumption) ?_
      rotate_left
      · (intro ww hSw; (try dsimp only at hSw); go_simp; try with_reducible rfl)
      (try simp only [Act.put, List.setIfInBounds_toArray, List.set_cons_zero, List.set_cons_succ])
      refine wpAnyH_take (i := 13) (oi := { dst := some 9, op := Op.assign (Operand.tmp 69), type := 22, pos := "ref.go:78", after := #[{ on := 9, ground := Ground.data }, { on := 7, ground := Ground.chain }, { on := 0, ground := Ground.phase }, { on := 1, ground := Ground.phase }, { on := 2, ground := Ground.phase }, { on := 3, ground := Ground.phase }, { on := 4, ground := Ground.phase }, { on := 5, ground := Ground.phase }, { on := 6, ground := Ground.phase }, { on := 7, ground := Ground.phase }, { on := 8, ground := Ground.phase }, { on := 9, ground := Ground.phase }, { on := 10, ground := Ground.textOnly Departure.lateStores }, { on := 11, ground := Ground.textOnly Departure.lateStores }, { on := 12, ground := Ground.textOnly Departure.lateStores }], guard := none }) (v := ?_) rfl (by kernel_rfl) (by kernel_rfl) (by kernel_rfl) (fun _ _ _ h => h) (Or.inl ⟨by rfl, ?_⟩) (by assumption) ?_
      rotate_left
      · (intro ww hSw; (try dsimp only at hSw); go_simp; try with_reducible rfl)
      (try simp only [Act.put, List.setIfInBounds_toArray, List.set_cons_zero, List.set_cons_succ])
      refine wpAnyH_take (i := 14) (oi := { dst := some 10, op := Op.assign (Operand.tmp 70), type := 3, pos := "ref.go:78", after := #[{ on := 10, ground := Ground.data }, { on := 13, ground := Ground.chain }, { on := 0, ground := Ground.phase }, { on := 1, ground := Ground.phase }, { on := 2, ground := Ground.phase }, { on := 3, ground := Ground.phase }, { on := 4, ground := Ground.phase }, { on := 5, ground := Ground.phase }, { on := 6, ground := Ground.phase }, { on := 7, ground := Ground.phase }, { on := 8, ground := Ground.phase }, { on := 9, ground := Ground.phase }, { on := 10, ground := Ground.phase }, { on := 11, ground := Ground.textOnly Departure.lateStores }, { on := 12, ground := Ground.textOnly Departure.lateStores }, { on := 13, ground := Ground.phase }], guard := none }) (v := ?_) rfl (by kernel_rfl) (by kernel_rfl) (by kernel_rfl) (fun _ _ _ h => h) (Or.inl ⟨by rfl, ?_⟩) (by assumption) ?_
      rotate_left
      · (intro ww hSw; (try dsimp only at hSw); go_simp; try with_reducible rfl)
      (try simp only [Act.put, List.setIfInBounds_toArray, List.set_cons_zero, List.set_cons_succ])
      refine wpAnyH_take (i := 15) (oi := { dst := some 11, op := Op.assign (Operand.tmp 71), type := 9, pos := "ref.go:78", after := #[{ on := 11, ground := Ground.data }, { on := 14, ground := Ground.chain }, { on := 0, ground := Ground.phase }, { on := 1, ground := Ground.phase }, { on := 2, ground := Ground.phase }, { on := 3, ground := Ground.phase }, { on := 4, ground := Ground.phase }, { on := 5, ground := Ground.phase }, { on := 6, ground := Ground.phase }, { on := 7, ground := Ground.phase }, { on := 8, ground := Ground.phase }, { on := 9, ground := Ground.phase }, { on := 10, ground := Ground.phase }, { on := 11, ground := Ground.phase }, { on := 12, ground := Ground.textOnly Departure.lateStores }, { on := 13, ground := Ground.phase }, { on := 14, ground := Ground.phase }], guard := none }) (v := ?_) rfl (by kernel_rfl) (by kernel_rfl) (by kernel_rfl) (fun _ _ _ h => h) (Or.inl ⟨by rfl, ?_⟩) (by assumption) ?_
      rotate_left
      · (intro ww hSw; (try dsimp only at hSw); go_simp; try with_reducible rfl)
      (try simp only [Act.put, List.setIfInBounds_toArray, List.set_cons_zero, List.set_cons_succ])
      refine wpAnyH_take (i := 16) (oi := { dst := some 12, op := Op.assign (Operand.tmp 72), type := 3, pos := "ref.go:78", after := #[{ on := 12, ground := Ground.data }, { on := 15, ground := Ground.chain }, { on := 0, ground := Ground.phase }, { on := 1, ground := Ground.phase }, { on := 2, ground := Ground.phase }, { on := 3, ground := Ground.phase }, { on := 4, ground := Ground.phase }, { on := 5, ground := Ground.phase }, { on := 6, ground := Ground.phase }, { on := 7, ground := Ground.phase }, { on := 8, ground := Ground.phase }, { on := 9, ground := Ground.phase }, { on := 10, ground := Ground.phase }, { on := 11, ground := Ground.phase }, { on := 12, ground := Ground.phase }, { on := 13, ground := Ground.phase }, { on := 14, ground := Ground.phase }, { on := 15, ground := Ground.phase }], guard := none }) (v := ?_) rfl (by kernel_rfl) (by kernel_rfl) (by kernel_rfl) (fun _ _ _ h => h) (Or.inl ⟨by rfl, ?_⟩) (by assumption) ?_
      rotate_left
      · (intro ww hSw; (try dsimp only at hSw); go_simp; try with_reducible rfl)
      (try simp only [Act.put, List.setIfInBounds_toArray, List.set_cons_zero, List.set_cons_succ])
      refine wpAnyH_done (by kernel_rfl) ?_ _
      refine NoPanic.normal ?_
      have HKi := Lib.hid hHeld
      have HOw := Lib.hid hown
      clear hHeld hown j1 j2 j3 ka kl HCh
      have m7 : ((prC s).code != 0) = true := by rw [bne_iff_ne]; exact hc
      generalize prC s = R at *
      have hrg : w9.rangeAt b4 0 VN := (HKi.out.1 (b4, 31, VN) (by simp)).range
      have htf : w9.there w.heap.size 0 VN.toArray.size := (HKi.out.1 (w.heap.size, 31, Z) (by simp)).there _ (by rw [List.size_toArray, HLVN.out]; exact Nat.le_refl _)
      go_wp2_with (first | (refine wpList_load_mid rfl 31 _ rfl b4 0 rfl VN _ hrg Try.underlying31 rfl HIVN.out ?_) | (refine wpList_store_mid rfl 31 _ _ rfl w.heap.size 0 VN.toArray rfl rfl htf HIVN.out HOVN.out ?_))
      have hk5 := Bk.sets VN 0 _ _ (HKi.out.1 (w.heap.size, 31, Z) (by simp))
      rw [puts_whole Z.toArray VN HLVN.out] at hk5
      refine bodyPost_ret (v := .tuple #[.agg VN.toArray, .int .i64 R.code]) ?_ rfl ?_
      · exact results_cell2 rfl rfl rfl (run_loadVar_mid _ w.heap.size 0 31 VN _ hk5.range Try.underlying31 rfl HIVN.out)
      · exact ⟨.slice none 0 0, by rw [HVN.out, HZ.out], own_nil _ _ _, below_sets _ (Nat.le_refl _) 0 _ HKi.out.2.1⟩
set_option maxRecDepth 100000 in
set_option maxHeartbeats 3000000 in
theorem rparse_whole (s : ByteArray) (w : World) (hs : s.size ≤ 70000) (h40 : 40 ≤ s.size) (h6 : (hdW s : Int) / 268435456 = 6) (hb : ¬ s.size < 40 + hdL s) (hc : (prC s).code = 0) (hp : (prC s).proto ≠ 44) :
    Calls Try.prog 22 #[.string s] w (RPar (prP s h40) 0 w) := by
  have hge : ¬ (s.size : Int) < 40 := by omega
  have h0s : 0 < s.size := by omega
  have i6 : (6 : Int) < (s.size : Int) := by omega
  have i7 : (7 : Int) < (s.size : Int) := by omega
  have u0 := s[0].toNat_lt
  have u6 := s[6].toNat_lt
  have u7 := s[7].toNat_lt
  have w7 : wrap64 ((s[7].toNat : Nat) : Int) = ((s[7].toNat : Nat) : Int) := by unfold wrap64; omega
  have w6 : IntKind.i64.wrap ((s[6].toNat : Nat) : Int) = ((s[6].toNat : Nat) : Int) := IntWalk.i64_in _ (by omega)
  have t40 : ((40 : Int) + (hdL s : Int)).toNat = 40 + hdL s := by omega
  have hnib := first_nib s h0s (by omega)
  have k16 : ((s[0].toNat : Nat) : Int).tdiv 16 = (hdW s : Int) / 268435456 := by rw [Int.tdiv_eq_ediv_of_nonneg (by omega)]; exact hnib
  have k17 : IntKind.u8.wrap ((hdW s : Int) / 268435456) = (hdW s : Int) / 268435456 := IntWalk.u8_in _ (by omega)
  have hll := hdL_lt s
  have hwl := hdW_lt s
  have N1 : Hid (∀ W, Calls Try.prog 43 #[.string s, .int .i64 4, .int .i64 2] W fun e w' => e = .returned (.int .i64 (hdL s : Nat)) ∧ Below W.heap.size W w') := Lib.hid (fun W => rnumber_any s 4 2 W hs (by omega) (by omega))
  have N2 : Hid (∀ W, Calls Try.prog 43 #[.string s, .int .i64 0, .int .i64 4] W fun e w' => e = .returned (.int .i64 (hdW s : Nat)) ∧ Below W.heap.size W w') := Lib.hid (fun W => rnumber_any s 0 4 W hs (by omega) (by omega))
  have m6 : ((hdW s : Int) / 268435456 != 6) = false := by rw [h6]; rfl
  clear hnib h6
  have HCh : Hid (∀ (W : World) (b : Nat), b < W.heap.size → Calls Try.prog 24 #[.int .i64 ((s[6].toNat : Nat) : Int), .string (s.extract 40 (40 + hdL s))] W fun e w' => ∃ v, e = .returned (.tuple #[v, .int .i64 (prC s).proto, .string (prC s).rest, .int .i64 (prC s).code]) ∧ w'.ownsRow (b + 1) 40 2 v (prC s).exts.length (extV (prC s).exts) ∧ Below W.heap.size W w') := Lib.hid (fun W b hb => by
    rw [← byN_at s 6 (by omega)]
    refine (rchain_any (byN s 6 : Nat) (s.extract 40 (40 + hdL s)) W (by simp; omega)).mono ?_
    rintro e w' ⟨v, rfl, hown, hbl⟩
    exact ⟨v, rfl, own_le hown hb, hbl⟩)
  obtain ⟨VL, hVL⟩ : ∃ VL : Nat → List Value, VL = fun k => (pkL s k).vals (.slice none 0 0) := ⟨_, rfl⟩
  obtain ⟨VB, hVB⟩ : ∃ VB, VB = VL 0 := ⟨_, rfl⟩
  obtain ⟨VH, hVH⟩ : ∃ VH, VH = (hdP s h40).vals (.slice none 0 0) := ⟨_, rfl⟩
  have HEB : Hid (∀ (a : Act) (t0 t1 t2 : Nat) (d : Option Tmp) (ty : TypeId) (ps : String) (af : Array Edge) (W : World), a.eval (.tmp t0) = .int .i64 ((hdW s : Int) / 1048576 % 256) → a.eval (.tmp t1) = .int .i64 ((hdW s : Int) % 1048576) → a.eval (.tmp t2) = .int .i64 ((s[7].toNat : Nat) : Int) → (execOp a.eval { dst := d, op := .build 31 #[(0, .tmp t0), (1, .tmp t1), (2, .tmp t2)], type := ty, pos := ps, after := af, guard := none }).run Try.prog W = .ok (.value (.agg VB.toArray)) W) := Lib.hid (fun a t0 t1 t2 d ty ps af W e0 e1 e2 => by
    have h := Try.execB6 a t0 t1 t2 _ _ _ d ty ps af W e0 e1 e2
    rw [h, hVB, hVL, ← byN_at s 7 (by omega)]
    rfl)
  have HS3 : Hid (∀ (k : Nat) (hk : k < 16), ((VL k).set (3 + k) (.int .u8 ((s[8 + k]'(by omega)).toNat : Int))).set (19 + k) (.int .u8 ((s[24 + k]'(by omega)).toNat : Int)) = VL (k + 1)) := Lib.hid (fun k hk => by rw [hVL]; exact pkL_step s k hk h40)
  have HC3 : Hid (∀ (k : Nat) (i : Nat), i < 42 → ∃ x, (VL k)[i]? = some x) := Lib.hid (fun k i hi => by rw [hVL]; exact vals_some _ _ i hi)
  have HC19 : Hid (∀ (k : Nat) (y : Value), k < 16 → ∃ x, ((VL k).set (3 + k) y)[19 + k]? = some x) := Lib.hid (fun k y hk => by rw [List.getElem?_set_ne (by omega), hVL]; exact vals_some _ _ (19 + k) (by omega))
  have HE16 : Hid (VL 16 = VH) := Lib.hid (by rw [hVL, hVH]; exact pkL_end s h40)
  have HVH := Lib.hid hVH
  have HVB0 := Lib.hid (show ∃ q : Pk6, VB = q.vals (.slice none 0 0) from ⟨pkL s 0, by rw [hVB, hVL]⟩)
  have HVBL := Lib.hid hVB
  clear hVH hVL hVB
  obtain ⟨Z, hZ⟩ : ∃ Z, Z = pk0.vals (.slice none 0 0) := ⟨_, rfl⟩
  obtain ⟨VN, hVN⟩ : ∃ VN, VN = Z := ⟨_, rfl⟩
  have HEX : Hid (∀ (ρ : Operand → Value) (d : Option Tmp) (ty : TypeId) (ps : String) (af : Array Edge) (W : World), (execOp ρ { dst := d, op := .build 31 #[], type := ty, pos := ps, after := af, guard := none }).run Try.prog W = .ok (.value (.agg VN.toArray)) W) := Lib.hid (fun ρ d ty ps af W => by rw [hVN, hZ]; exact Try.execZ6 ρ d ty ps af W)
  have HIVN : Hid ((Try.prog.info? 31).map (·.size) = some VN.length) := Lib.hid (by rw [hVN, hZ]; exact Try.info6 _ _)
  have HOVN : Hid (VN.toArray.all (·.oneCell') = true) := Lib.hid (by rw [hVN, hZ]; exact vals_one _ _ rfl)
  have HLVN : Hid (VN.length = Z.toArray.size) := Lib.hid (by rw [hVN, hZ, List.size_toArray, vals_len])
  have hz0 : Z.toArray = #[.int .i64 0, .int .i64 0, .int .i64 0, .int .u8 0, .int .u8 0, .int .u8 0, .int .u8 0, .int .u8 0, .int .u8 0, .int .u8 0, .int .u8 0, .int .u8 0, .int .u8 0, .int .u8 0, .int .u8 0, .int .u8 0, .int .u8 0, .int .u8 0, .int .u8 0, .int .u8 0, .int .u8 0, .int .u8 0, .int .u8 0, .int .u8 0, .int .u8 0, .int .u8 0, .int .u8 0, .int .u8 0, .int .u8 0, .int .u8 0, .int .u8 0, .int .u8 0, .int .u8 0, .int .u8 0, .int .u8 0, .slice none 0 0, .bool false, .int .u32 0, .int .i64 0, .bool false, .int .i64 0, .string ⟨#[]⟩] := by rw [hZ]; exact pk0_vals
  have HZ := Lib.hid hZ
  have HZ0 := Lib.hid hz0
  have HVN := Lib.hid hVN
  clear hZ hVN
  have HK1 := Lib.hid ((Kp.start w).new 31 Z)
  generalize hw1 : w.alloc (.cells Z.toArray 31) = w1 at *
  rw [hz0] at hw1
  go_enter Try.func22, Try.ntmps22
  go_upto_region 1 with (fail)
  clear hw1 hz0
  have HK2 := Lib.hid (HK1.out.put 31 Z.toArray VN HLVN.out)
  have ht : (w1.alloc (.cells Z.toArray 31)).there w1.heap.size 0 VN.toArray.size := (bk_new w1 31 Z.toArray).there _ (by rw [List.size_toArray, HLVN.out]; exact Nat.le_refl _)
  generalize hwn : (w1.alloc (.cells Z.toArray 31)).setCells w1.heap.size 0 VN = w2 at *
  rw [HZ0.out] at hwn ht
  go_upto_region 2 with (first | (refine Great.wpList_readTo rfl _ rfl (.agg VN.toArray) (HEX.out _ _ _ _ _ _) ?_) | (refine wpList_store_mid rfl 31 _ _ rfl w1.heap.size 0 VN.toArray rfl rfl ht HIVN.out HOVN.out ?_))
  try rw [hwn]
  clear hwn ht HK1 HEX
  generalize w1.heap.size = b4 at *
  obtain ⟨qB, hqB⟩ := HVB0.out
  have HIVB : Hid ((Try.prog.info? 31).map (·.size) = some VB.length) := Lib.hid (by rw [hqB]; exact Try.info6 _ _)
  have HOVB : Hid (VB.toArray.all (·.oneCell') = true) := Lib.hid (by rw [hqB]; exact vals_one _ _ rfl)
  have HLVB : Hid (VB.length = Z.toArray.size) := Lib.hid (by rw [hqB, List.size_toArray, HZ.out, vals_len, vals_len])
  clear hqB qB HVB0
  go_wp2_with fail
  refine (N1.out _).mono ?_
  rintro e w3 ⟨rfl, b1⟩
  have HK3 := Lib.hid (HK2.out.below b1 (Nat.le_refl _))
  clear b1 HK2 N1 m6 k16 k17 u0
  have ka : IntKind.i64.wrap (40 + (hdL s : Int)) = 40 + (hdL s : Int) := IntWalk.i64_in _ (by omega)
  have kl : ¬ (s.size : Int) < 40 + (hdL s : Int) := by omega
  go_wp2_with fail
  refine (N2.out _).mono ?_
  rintro e w4 ⟨rfl, b1⟩
  have HK4 := Lib.hid (HK3.out.below b1 (Nat.le_refl _))
  clear b1 HK3 N2
  have x1 : (hdW s : Int).tdiv 1048576 = (hdW s : Int) / 1048576 := Int.tdiv_eq_ediv_of_nonneg (by omega)
  have x2 : IntKind.i64.wrap ((hdW s : Int) / 1048576) = (hdW s : Int) / 1048576 := IntWalk.i64_in _ (by omega)
  have x3 : ((hdW s : Int) / 1048576).tmod 256 = (hdW s : Int) / 1048576 % 256 := Int.tmod_eq_emod_of_nonneg (by omega)
  have x4 : IntKind.i64.wrap ((hdW s : Int) / 1048576 % 256) = (hdW s : Int) / 1048576 % 256 := IntWalk.i64_in _ (by omega)
  have x5 : (hdW s : Int).tmod 1048576 = (hdW s : Int) % 1048576 := Int.tmod_eq_emod_of_nonneg (by omega)
  have x6 : IntKind.i64.wrap ((hdW s : Int) % 1048576) = (hdW s : Int) % 1048576 := IntWalk.i64_in _ (by omega)
  have HK5 := Lib.hid (HK4.out.put 31 Z.toArray VB HLVB.out)
  have ht : (w4.alloc (.cells Z.toArray 31)).there w4.heap.size 0 VB.toArray.size := (bk_new w4 31 Z.toArray).there _ (by rw [List.size_toArray, HLVB.out]; exact Nat.le_refl _)
  generalize hwn : (w4.alloc (.cells Z.toArray 31)).setCells w4.heap.size 0 VB = w5 at *
  rw [HZ0.out] at hwn ht
  have HNE7 := Lib.hid (fun x hx => HK4.out.ne x hx)
  have HL7 := Lib.hid HK4.out.2.2
  go_upto_region 11 with (first | (refine Great.wpList_readTo rfl _ rfl (.agg VB.toArray) (HEB.out _ _ _ _ _ _ _ _ _ rfl rfl rfl) ?_) | (refine wpList_store_mid rfl 31 _ _ rfl w4.heap.size 0 VB.toArray rfl rfl ht HIVB.out HOVB.out ?_))
  try rw [hwn]
  clear hwn ht HK4 HEB HIVB HOVB HLVB x1 x2 x3 x4 x5 x6
  generalize w4.heap.size = b7 at *
  go_wp2_with fail
  go_loopw [8] (fun i wr => ∃ k : Nat, k ≤ 16 ∧ i = .int .i64 k ∧ Kp w w.heap.size [(b7, 31, VL k), (b4, 31, VN), (w.heap.size, 31, Z)] wr) (fun i _ => 16 - (intOf i).toNat)
  case atStart => exact ⟨0, by omega, rfl, by rw [← HVBL.out]; exact HK5.out⟩
  case round =>
    obtain ⟨k, hk, rfl, hq⟩ := hrel
    have HKr := Lib.hid hq
    clear hq
    by_cases hlt : k < 16
    · have hlt2 : (k : Int) < 16 := by omega
      obtain ⟨y3, hy3⟩ := HC3.out k (3 + k) (by omega)
      have c3 := HKr.out.hd.at hy3
      have z3 := HKr.out.hd.z (3 + k)
      have q1 : IntKind.i64.wrap (8 + (k : Int)) = 8 + (k : Int) := IntWalk.i64_in _ (by omega)
      have q2 : IntKind.i64.wrap (24 + (k : Int)) = 24 + (k : Int) := IntWalk.i64_in _ (by omega)
      have q3 : 8 + (k : Int) < (s.size : Int) := by omega
      have q4 : 24 + (k : Int) < (s.size : Int) := by omega
      have q5 : (8 + (k : Int)).toNat = 8 + k := by omega
      have q6 : (24 + (k : Int)).toNat = 24 + k := by omega
      have q7 : (0 : Int) ≤ 8 + (k : Int) := by omega
      have q8 : (0 : Int) ≤ 24 + (k : Int) := by omega
      have q9 : 8 + k < s.size := by omega
      have q10 : 24 + k < s.size := by omega
      have HSk := Lib.hid (HS3.out k hlt)
      clear hy3
      go_upto_region 15 with (fail)
      have HKa := Lib.hid (HKr.out.set1 HNE7.out HL7.out (3 + k) (.int .u8 ((s[8 + k].toNat : Nat) : Int)))
      obtain ⟨y19, hy19⟩ := HC19.out k (.int .u8 ((s[8 + k].toNat : Nat) : Int)) hlt
      clear c3 z3
      generalize wr.setCell ⟨b7, 3 + k, none⟩ (.int .u8 ((s[8 + k].toNat : Nat) : Int)) = wa at *
      have c19 := HKa.out.hd.at hy19
      have z19 := HKa.out.hd.z (19 + k)
      have HKb := Lib.hid (HKa.out.set1 HNE7.out HL7.out (19 + k) (.int .u8 ((s[24 + k].toNat : Nat) : Int)))
      clear hy19
      go_wp2_with fail
      go_roundw
      case rel => exact ⟨k + 1, by omega, by go_num, by rw [← HSk.out]; exact HKb.out⟩
      case measure => simp [intOf]; omega
    · obtain rfl : k = 16 := by omega
      clear hlt hk HK5
      have hkr := HKr.out
      rw [HE16.out] at hkr
      have HKh := Lib.hid hkr
      clear hkr HKr
      simp only [Int.cast_ofNat_Int]
      have j1 : (40 : Int) ≤ 40 + (hdL s : Int) := by omega
      have j2 : 40 + (hdL s : Int) ≤ (s.size : Int) := by omega
      have j3 : (0 : Int) ≤ 40 + (hdL s : Int) := by omega
      go_upto_region 16 with (fail)
      refine wp_region_noPanic ?_
      refine wp_region_held_drew (S := fun w' => Kp w w.heap.size [(b7, 31, VH), (b4, 31, VN), (w.heap.size, 31, Z)] w') (by kernel_rfl) (HKh.out.drew) (fun hHeld => ?_)
      refine wpAnyH_take (i := 0) (oi := { dst := some 61, op := Op.move (Operand.tmp 0), type := 9, pos := "ref.go:78", after := #[], guard := none }) (v := ?_) rfl (by kernel_rfl) (by kernel_rfl) (by kernel_rfl) (fun _ _ _ h => h) (Or.inl ⟨by rfl, ?_⟩) (by assumption) ?_
      rotate_left
      · (intro ww hSw; (try dsimp only at hSw); go_simp; try with_reducible rfl)
      (try simp only [Act.put, List.setIfInBounds_toArray, List.set_cons_zero, List.set_cons_succ])
      refine wpAnyH_take (i := 1) (oi := { dst := some 62, op := Op.index 9 (Operand.tmp 61) (Operand.const (Value.int IntKind.i64 6)), type := 5, pos := "ref.go:78", after := #[{ on := 0, ground := Ground.data }], guard := none }) (v := ?_) rfl (by kernel_rfl) (by kernel_rfl) (by kernel_rfl) (fun _ _ _ h => h) (Or.inl ⟨by rfl, ?_⟩) (by assumption) ?_
      rotate_left
      · (intro ww hSw; (try dsimp only at hSw); go_simp; try with_reducible rfl)
      (try simp only [Act.put, List.setIfInBounds_toArray, List.set_cons_zero, List.set_cons_succ])
      refine wpAnyH_take (i := 2) (oi := { dst := some 63, op := Op.convert 5 3 (Operand.tmp 62), type := 3, pos := "ref.go:78", after := #[{ on := 1, ground := Ground.data }], guard := none }) (v := ?_) rfl (by kernel_rfl) (by kernel_rfl) (by kernel_rfl) (fun _ _ _ h => h) (Or.inl ⟨by rfl, ?_⟩) (by assumption) ?_
      rotate_left
      · (intro ww hSw; (try dsimp only at hSw); go_simp; try with_reducible rfl)
      (try simp only [Act.put, List.setIfInBounds_toArray, List.set_cons_zero, List.set_cons_succ])
      refine wpAnyH_take (i := 3) (oi := { dst := some 64, op := Op.move (Operand.tmp 0), type := 9, pos := "ref.go:78", after := #[], guard := none }) (v := ?_) rfl (by kernel_rfl) (by kernel_rfl) (by kernel_rfl) (fun _ _ _ h => h) (Or.inl ⟨by rfl, ?_⟩) (by assumption) ?_
      rotate_left
      · (intro ww hSw; (try dsimp only at hSw); go_simp; try with_reducible rfl)
      (try simp only [Act.put, List.setIfInBounds_toArray, List.set_cons_zero, List.set_cons_succ])
      refine wpAnyH_take (i := 4) (oi := { dst := some 65, op := Op.move (Operand.tmp 5), type := 3, pos := "ref.go:78", after := #[], guard := none }) (v := ?_) rfl (by kernel_rfl) (by kernel_rfl) (by kernel_rfl) (fun _ _ _ h => h) (Or.inl ⟨by rfl, ?_⟩) (by assumption) ?_
      rotate_left
      · (intro ww hSw; (try dsimp only at hSw); go_simp; try with_reducible rfl)
      (try simp only [Act.put, List.setIfInBounds_toArray, List.set_cons_zero, List.set_cons_succ])
      refine wpAnyH_take (i := 5) (oi := { dst := some 66, op := Op.binOp BinOp.add 3 (Operand.const (Value.int IntKind.i64 40)) (Operand.tmp 65) 3, type := 3, pos := "ref.go:78", after := #[{ on := 4, ground := Ground.data }], guard := none }) (v := ?_) rfl (by kernel_rfl) (by kernel_rfl) (by kernel_rfl) (fun _ _ _ h => h) (Or.inl ⟨by rfl, ?_⟩) (by assumption) ?_
      rotate_left
      · (intro ww hSw; (try dsimp only at hSw); go_simp; try with_reducible rfl)
      (try simp only [Act.put, List.setIfInBounds_toArray, List.set_cons_zero, List.set_cons_succ])
      refine wpAnyH_take (i := 6) (oi := { dst := some 67, op := Op.slice 9 (Operand.tmp 64) (some (Operand.const (Value.int IntKind.i64 40))) (some (Operand.tmp 66)) none, type := 9, pos := "ref.go:78", after := #[{ on := 3, ground := Ground.data }, { on := 5, ground := Ground.data }], guard := none }) (v := ?_) rfl (by kernel_rfl) (by kernel_rfl) (by kernel_rfl) (fun _ _ _ h => h) (Or.inl ⟨by rfl, ?_⟩) (by assumption) ?_
      rotate_left
      · (intro ww hSw; (try dsimp only at hSw); go_simp; try with_reducible rfl)
      (try simp only [Act.put, List.setIfInBounds_toArray, List.set_cons_zero, List.set_cons_succ])
      refine wpAnyH_ready (rs := [7]) (by kernel_rfl) (by simp) ?_
      refine AllReadyH.cons (o := { dst := some 68, op := Op.call { callee := Callee.value (Operand.func 24), args := #[Operand.tmp 63, Operand.tmp 67], argTypes := #[3, 9] }, type := 50, pos := "ref.go:78", after := #[{ on := 2, ground := Ground.data }, { on := 6, ground := Ground.data }], guard := none }) rfl (fun K hK => ?_) AllReadyH.nil
      go_simp
      ((with_reducible refine (HCh.out _ b7 hHeld.hd.lt).mono ?_); rintro e w9 ⟨v, rfl, hown, hb9⟩)
      refine hK.out _ _ (hHeld.below hb9 (Nat.le_refl _)) (fun hHeld => ?_)
      clear hK K
      (try simp only [Act.put, List.setIfInBounds_toArray, List.set_cons_zero, List.set_cons_succ])
      refine wpAnyH_take (i := 8) (oi := { dst := some 60, op := Op.move (Operand.tmp 68), type := 50, pos := "ref.go:78", after := #[{ on := 7, ground := Ground.data }], guard := none }) (v := ?_) rfl (by kernel_rfl) (by kernel_rfl) (by kernel_rfl) (fun _ _ _ h => h) (Or.inl ⟨by rfl, ?_⟩) (by assumption) ?_
      rotate_left
      · (intro ww hSw; (try dsimp only at hSw); go_simp; try with_reducible rfl)
      (try simp only [Act.put, List.setIfInBounds_toArray, List.set_cons_zero, List.set_cons_succ])
      refine wpAnyH_take (i := 9) (oi := { dst := some 69, op := Op.extract (Operand.tmp 60) 0, type := 22, pos := "ref.go:78", after := #[{ on := 8, ground := Ground.data }], guard := none }) (v := ?_) rfl (by kernel_rfl) (by kernel_rfl) (by kernel_rfl) (fun _ _ _ h => h) (Or.inl ⟨by rfl, ?_⟩) (by assumption) ?_
      rotate_left
      · (intro ww hSw; (try dsimp only at hSw); go_simp; try with_reducible rfl)
      (try simp only [Act.put, List.setIfInBounds_toArray, List.set_cons_zero, List.set_cons_succ])
      refine wpAnyH_take (i := 10) (oi := { dst := some 70, op := Op.extract (Operand.tmp 60) 1, type := 3, pos := "ref.go:78", after := #[{ on := 8, ground := Ground.data }, { on := 13, ground := Ground.gcOnly Departure.lateStores }], guard := none }) (v := ?_) rfl (by kernel_rfl) (by kernel_rfl) (by kernel_rfl) (fun _ _ _ h => h) (Or.inl ⟨by rfl, ?_⟩) (by assumption) ?_
      rotate_left
      · (intro ww hSw; (try dsimp only at hSw); go_simp; try with_reducible rfl)
      (try simp only [Act.put, List.setIfInBounds_toArray, List.set_cons_zero, List.set_cons_succ])
      refine wpAnyH_take (i := 11) (oi := { dst := some 71, op := Op.extract (Operand.tmp 60) 2, type := 9, pos := "ref.go:78", after := #[{ on := 8, ground := Ground.data }, { on := 14, ground := Ground.gcOnly Departure.lateStores }], guard := none }) (v := ?_) rfl (by kernel_rfl) (by kernel_rfl) (by kernel_rfl) (fun _ _ _ h => h) (Or.inl ⟨by rfl, ?_⟩) (by assumption) ?_
      rotate_left
      · (intro ww hSw; (try dsimp only at hSw); go_simp; try with_reducible rfl)
      (try simp only [Act.put, List.setIfInBounds_toArray, List.set_cons_zero, List.set_cons_succ])
      refine wpAnyH_take (i := 12) (oi := { dst := some 72, op := Op.extract (Operand.tmp 60) 3, type := 3, pos := "ref.go:78", after := #[{ on := 8, ground := Ground.data }, { on := 15, ground := Ground.gcOnly Departure.lateStores }], guard := none }) (v := ?_) rfl (by kernel_rfl) (by kernel_rfl) (by kernel_rfl) (fun _ _ _ h => h) (Or.inl ⟨by rfl, ?_⟩) (by assumption) ?_
      rotate_left
      · (intro ww hSw; (try dsimp only at hSw); go_simp; try with_reducible rfl)
      (try simp only [Act.put, List.setIfInBounds_toArray, List.set_cons_zero, List.set_cons_succ])
      refine wpAnyH_take (i := 13) (oi := { dst := some 9, op := Op.assign (Operand.tmp 69), type := 22, pos := "ref.go:78", after := #[{ on := 9, ground := Ground.data }, { on := 7, ground := Ground.chain }, { on := 0, ground := Ground.phase }, { on := 1, ground := Ground.phase }, { on := 2, ground := Ground.phase }, { on := 3, ground := Ground.phase }, { on := 4, ground := Ground.phase }, { on := 5, ground := Ground.phase }, { on := 6, ground := Ground.phase }, { on := 7, ground := Ground.phase }, { on := 8, ground := Ground.phase }, { on := 9, ground := Ground.phase }, { on := 10, ground := Ground.textOnly Departure.lateStores }, { on := 11, ground := Ground.textOnly Departure.lateStores }, { on := 12, ground := Ground.textOnly Departure.lateStores }], guard := none }) (v := ?_) rfl (by kernel_rfl) (by kernel_rfl) (by kernel_rfl) (fun _ _ _ h => h) (Or.inl ⟨by rfl, ?_⟩) (by assumption) ?_
      rotate_left
      · (intro ww hSw; (try dsimp only at hSw); go_simp; try with_reducible rfl)
      (try simp only [Act.put, List.setIfInBounds_toArray, List.set_cons_zero, List.set_cons_succ])
      refine wpAnyH_take (i := 14) (oi := { dst := some 10, op := Op.assign (Operand.tmp 70), type := 3, pos := "ref.go:78", after := #[{ on := 10, ground := Ground.data }, { on := 13, ground := Ground.chain }, { on := 0, ground := Ground.phase }, { on := 1, ground := Ground.phase }, { on := 2, ground := Ground.phase }, { on := 3, ground := Ground.phase }, { on := 4, ground := Ground.phase }, { on := 5, ground := Ground.phase }, { on := 6, ground := Ground.phase }, { on := 7, ground := Ground.phase }, { on := 8, ground := Ground.phase }, { on := 9, ground := Ground.phase }, { on := 10, ground := Ground.phase }, { on := 11, ground := Ground.textOnly Departure.lateStores }, { on := 12, ground := Ground.textOnly Departure.lateStores }, { on := 13, ground := Ground.phase }], guard := none }) (v := ?_) rfl (by kernel_rfl) (by kernel_rfl) (by kernel_rfl) (fun _ _ _ h => h) (Or.inl ⟨by rfl, ?_⟩) (by assumption) ?_
      rotate_left
      · (intro ww hSw; (try dsimp only at hSw); go_simp; try with_reducible rfl)
      (try simp only [Act.put, List.setIfInBounds_toArray, List.set_cons_zero, List.set_cons_succ])
      refine wpAnyH_take (i := 15) (oi := { dst := some 11, op := Op.assign (Operand.tmp 71), type := 9, pos := "ref.go:78", after := #[{ on := 11, ground := Ground.data }, { on := 14, ground := Ground.chain }, { on := 0, ground := Ground.phase }, { on := 1, ground := Ground.phase }, { on := 2, ground := Ground.phase }, { on := 3, ground := Ground.phase }, { on := 4, ground := Ground.phase }, { on := 5, ground := Ground.phase }, { on := 6, ground := Ground.phase }, { on := 7, ground := Ground.phase }, { on := 8, ground := Ground.phase }, { on := 9, ground := Ground.phase }, { on := 10, ground := Ground.phase }, { on := 11, ground := Ground.phase }, { on := 12, ground := Ground.textOnly Departure.lateStores }, { on := 13, ground := Ground.phase }, { on := 14, ground := Ground.phase }], guard := none }) (v := ?_) rfl (by kernel_rfl) (by kernel_rfl) (by kernel_rfl) (fun _ _ _ h => h) (Or.inl ⟨by rfl, ?_⟩) (by assumption) ?_
      rotate_left
      · (intro ww hSw; (try dsimp only at hSw); go_simp; try with_reducible rfl)
      (try simp only [Act.put, List.setIfInBounds_toArray, List.set_cons_zero, List.set_cons_succ])
      refine wpAnyH_take (i := 16) (oi := { dst := some 12, op := Op.assign (Operand.tmp 72), type := 3, pos := "ref.go:78", after := #[{ on := 12, ground := Ground.data }, { on := 15, ground := Ground.chain }, { on := 0, ground := Ground.phase }, { on := 1, ground := Ground.phase }, { on := 2, ground := Ground.phase }, { on := 3, ground := Ground.phase }, { on := 4, ground := Ground.phase }, { on := 5, ground := Ground.phase }, { on := 6, ground := Ground.phase }, { on := 7, ground := Ground.phase }, { on := 8, ground := Ground.phase }, { on := 9, ground := Ground.phase }, { on := 10, ground := Ground.phase }, { on := 11, ground := Ground.phase }, { on := 12, ground := Ground.phase }, { on := 13, ground := Ground.phase }, { on := 14, ground := Ground.phase }, { on := 15, ground := Ground.phase }], guard := none }) (v := ?_) rfl (by kernel_rfl) (by kernel_rfl) (by kernel_rfl) (fun _ _ _ h => h) (Or.inl ⟨by rfl, ?_⟩) (by assumption) ?_
      rotate_left
      · (intro ww hSw; (try dsimp only at hSw); go_simp; try with_reducible rfl)
      (try simp only [Act.put, List.setIfInBounds_toArray, List.set_cons_zero, List.set_cons_succ])
      refine wpAnyH_done (by kernel_rfl) ?_ _
      refine NoPanic.normal ?_
      have HKi := Lib.hid hHeld
      have HOw := Lib.hid hown
      clear hHeld hown j1 j2 j3 ka kl HCh
      have m7 : ((prC s).code != 0) = false := by rw [hc]; rfl
      have hPV : ∀ v, (prP s h40).vals v = ((VH.set 35 v).set 40 (.int .i64 (prC s).proto)).set 41 (.string (prC s).rest) := fun v => by rw [HVH.out]; exact vset_chain _ _ v _ _ _
      have HPV := Lib.hid hPV
      have HPe := Lib.hid (show (prP s h40).exts = (prC s).exts from rfl)
      have HPd := Lib.hid (show (prP s h40).data = (prC s).rest from rfl)
      have hrr := prC_rest s
      have HO1 := Lib.hid (own_one HOw.out)
      have c35 := HKi.out.hd.at (show VH[35]? = some (.slice none 0 0) by rw [HVH.out]; exact vals_tail _ _ 0)
      have c40 := HKi.out.hd.at (show VH[40]? = some (.int .i64 0) by rw [HVH.out]; exact vals_tail _ _ 5)
      have c41 := HKi.out.hd.at (show VH[41]? = some (.string ⟨#[]⟩) by rw [HVH.out]; exact vals_tail _ _ 6)
      have z35 := HKi.out.hd.z 35
      have z40 := HKi.out.hd.z 40
      have z41 := HKi.out.hd.z 41
      have HVHx := HVH
      clear hPV HVH
      generalize prP s h40 = P at *
      generalize prC s = R at *
      obtain ⟨ao, cap, rfl, _⟩ := exs_own HOw.out
      obtain ⟨VP, hVP⟩ : ∃ VP, VP = P.vals (.slice ao R.exts.length cap) := ⟨_, rfl⟩
      have hK5 : Kp w w.heap.size [(b7, 31, VP), (b4, 31, VN), (w.heap.size, 31, Z)] (((w9.setCell ⟨b7, 35, none⟩ (.slice ao R.exts.length cap)).setCell ⟨b7, 40, none⟩ (.int .i64 R.proto)).setCell ⟨b7, 41, none⟩ (.string R.rest)) := by
        have e : VP = ((VH.set 35 (.slice ao R.exts.length cap)).set 40 (.int .i64 R.proto)).set 41 (.string R.rest) := by rw [hVP, HPV.out]
        rw [e]
        exact ((HKi.out.set1 HNE7.out HL7.out 35 _).set1 HNE7.out HL7.out 40 _).set1 HNE7.out HL7.out 41 _
      have HOw5 := Lib.hid (own_set (own_set (own_set HOw.out (Nat.lt_succ_self b7) 35 (.slice ao R.exts.length cap)) (Nat.lt_succ_self b7) 40 (.int .i64 R.proto)) (Nat.lt_succ_self b7) 41 (.string R.rest))
      have HVP := Lib.hid hVP
      have HIVP : Hid ((Try.prog.info? 31).map (·.size) = some VP.length) := Lib.hid (by rw [hVP]; exact Try.info6 _ _)
      have HOVP : Hid (VP.toArray.all (·.oneCell') = true) := Lib.hid (by rw [hVP]; exact vals_one _ _ HO1.out)
      have HLVP : Hid (VP.length = Z.toArray.size) := Lib.hid (by rw [hVP, List.size_toArray, HZ.out, vals_len, vals_len])
      have HK5 := Lib.hid hK5
      clear hVP hK5 HKi HOw HVHx
      go_upto_region 22 with (fail)
      clear c35 c40 c41 z35 z40 z41 m7
      generalize (((w9.setCell ⟨b7, 35, none⟩ (.slice ao R.exts.length cap)).setCell ⟨b7, 40, none⟩ (.int .i64 R.proto)).setCell ⟨b7, 41, none⟩ (.string R.rest)) = w10 at *
      have kp : (R.proto != 44) = true := by rw [bne_iff_ne]; exact hp
      have hrg := HK5.out.hd.range
      have htf : w10.there w.heap.size 0 VP.toArray.size := (HK5.out.1 (w.heap.size, 31, Z) (by simp)).there _ (by rw [List.size_toArray, HLVP.out]; exact Nat.le_refl _)
      go_wp2_with (first | (refine wpList_load_mid rfl 31 _ rfl b7 0 rfl VP _ hrg Try.underlying31 rfl HIVP.out ?_) | (refine wpList_store_mid rfl 31 _ _ rfl w.heap.size 0 VP.toArray rfl rfl htf HIVP.out HOVP.out ?_))
      have hk5 := Bk.sets VP 0 _ _ (HK5.out.1 (w.heap.size, 31, Z) (by simp))
      rw [puts_whole Z.toArray VP HLVP.out] at hk5
      refine bodyPost_ret (v := .tuple #[.agg VP.toArray, .int .i64 0]) ?_ rfl ?_
      · exact results_cell2 rfl rfl rfl (run_loadVar_mid _ w.heap.size 0 31 VP _ hk5.range Try.underlying31 rfl HIVP.out)
      · refine ⟨_, by rw [HVP.out], ?_, below_sets _ (Nat.le_refl _) 0 _ HK5.out.2.1⟩
        rw [HPe.out]
        have hl7 := HL7.out
        exact own_le (own_sets HOw5.out (by omega) VP 0) (by omega)
end Go.Proofs.Ytphemimpkbjfoaa
