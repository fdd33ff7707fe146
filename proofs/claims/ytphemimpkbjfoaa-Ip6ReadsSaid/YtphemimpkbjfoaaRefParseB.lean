/-
  Proved here: what the document's Parse answers, of texts with a fragment's head.
  Conditions: texts of at most 70000 bytes.
-/
import Derived.Test.YtphemimpkbjfoaaRefParsePlain
namespace Go.Proofs.Ytphemimpkbjfoaa
open Go.RowKit

set_option maxRecDepth 100000 in
set_option maxHeartbeats 3000000 in
theorem rparse_fshort (s : ByteArray) (w : World) (hs : s.size ≤ 70000) (h40 : 40 ≤ s.size) (h6 : (hdW s : Int) / 268435456 = 6) (hb : ¬ s.size < 40 + hdL s) (hc : (prC s).code = 0) (hp : (prC s).proto = 44) (h8 : (prC s).rest.size < 8) :
    Calls Try.prog 22 #[.string s] w (RPar pk0 7 w) := by
  have HP44 := Lib.hid hp
  clear hp
  have hge : ¬ (s.size : Int) < 40 := by omega
  have h0s : 0 < s.size := by omega
  have i6 : (6 : Int) < (s.size : Int) := by omega
  have i7 : (7 : Int) < (s.size : Int) := by omega
  have u0 := s[0].toNat_lt
  have u6 := s[6].toNat_lt
  have u7 := s[7].toNat_lt
  have w7 : wrap64 ((s[7].toNat : Nat) : Int) = ((s[7].toNat : Nat) : Int) := by unfold wrap64; omega
  have w6 : IntKind.i64.wrap ((s[6].toNat : Nat) : Int) = ((s[6].toNat : Nat) : Int) := IntWalk.i64_in _ (by omega)
  have t40 : ((40 : Int) + (hdL s : Int)).toNat = 40 + hdL s := by omega
  have hnib := first_nib s h0s (by omega)
  have k16 : ((s[0].toNat : Nat) : Int).tdiv 16 = (hdW s : Int) / 268435456 := by rw [Int.tdiv_eq_ediv_of_nonneg (by omega)]; exact hnib
  have k17 : IntKind.u8.wrap ((hdW s : Int) / 268435456) = (hdW s : Int) / 268435456 := IntWalk.u8_in _ (by omega)
  have hll := hdL_lt s
  have hwl := hdW_lt s
  have N1 : Hid (∀ W, Calls Try.prog 43 #[.string s, .int .i64 4, .int .i64 2] W fun e w' => e = .returned (.int .i64 (hdL s : Nat)) ∧ Below W.heap.size W w') := Lib.hid (fun W => rnumber_any s 4 2 W hs (by omega) (by omega))
  have N2 : Hid (∀ W, Calls Try.prog 43 #[.string s, .int .i64 0, .int .i64 4] W fun e w' => e = .returned (.int .i64 (hdW s : Nat)) ∧ Below W.heap.size W w') := Lib.hid (fun W => rnumber_any s 0 4 W hs (by omega) (by omega))
  have m6 : ((hdW s : Int) / 268435456 != 6) = false := by rw [h6]; rfl
  clear hnib h6
  have HCh : Hid (∀ (W : World) (b : Nat), b < W.heap.size → Calls Try.prog 24 #[.int .i64 ((s[6].toNat : Nat) : Int), .string (s.extract 40 (40 + hdL s))] W fun e w' => ∃ v, e = .returned (.tuple #[v, .int .i64 (prC s).proto, .string (prC s).rest, .int .i64 (prC s).code]) ∧ w'.ownsRow (b + 1) 40 2 v (prC s).exts.length (extV (prC s).exts) ∧ Below W.heap.size W w') := Lib.hid (fun W b hb => by
    rw [← byN_at s 6 (by omega)]
    refine (rchain_any (byN s 6 : Nat) (s.extract 40 (40 + hdL s)) W (by simp; omega)).mono ?_
    rintro e w' ⟨v, rfl, hown, hbl⟩
    exact ⟨v, rfl, own_le hown hb, hbl⟩)
  obtain ⟨VL, hVL⟩ : ∃ VL : Nat → List Value, VL = fun k => (pkL s k).vals (.slice none 0 0) := ⟨_, rfl⟩
  obtain ⟨VB, hVB⟩ : ∃ VB, VB = VL 0 := ⟨_, rfl⟩
  obtain ⟨VH, hVH⟩ : ∃ VH, VH = (hdP s h40).vals (.slice none 0 0) := ⟨_, rfl⟩
  have HEB : Hid (∀ (a : Act) (t0 t1 t2 : Nat) (d : Option Tmp) (ty : TypeId) (ps : String) (af : Array Edge) (W : World), a.eval (.tmp t0) = .int .i64 ((hdW s : Int) / 1048576 % 256) → a.eval (.tmp t1) = .int .i64 ((hdW s : Int) % 1048576) → a.eval (.tmp t2) = .int .i64 ((s[7].toNat : Nat) : Int) → (execOp a.eval { dst := d, op := .build 31 #[(0, .tmp t0), (1, .tmp t1), (2, .tmp t2)], type := ty, pos := ps, after := af, guard := none }).run Try.prog W = .ok (.value (.agg VB.toArray)) W) := Lib.hid (fun a t0 t1 t2 d ty ps af W e0 e1 e2 => by
    have h := Try.execB6 a t0 t1 t2 _ _ _ d ty ps af W e0 e1 e2
    rw [h, hVB, hVL, ← byN_at s 7 (by omega)]
    rfl)
  have HS3 : Hid (∀ (k : Nat) (hk : k < 16), ((VL k).set (3 + k) (.int .u8 ((s[8 + k]'(by omega)).toNat : Int))).set (19 + k) (.int .u8 ((s[24 + k]'(by omega)).toNat : Int)) = VL (k + 1)) := Lib.hid (fun k hk => by rw [hVL]; exact pkL_step s k hk h40)
  have HC3 : Hid (∀ (k : Nat) (i : Nat), i < 42 → ∃ x, (VL k)[i]? = some x) := Lib.hid (fun k i hi => by rw [hVL]; exact vals_some _ _ i hi)
  have HC19 : Hid (∀ (k : Nat) (y : Value), k < 16 → ∃ x, ((VL k).set (3 + k) y)[19 + k]? = some x) := Lib.hid (fun k y hk => by rw [List.getElem?_set_ne (by omega), hVL]; exact vals_some _ _ (19 + k) (by omega))
  have HE16 : Hid (VL 16 = VH) := Lib.hid (by rw [hVL, hVH]; exact pkL_end s h40)
  have HVH := Lib.hid hVH
  have HVB0 := Lib.hid (show ∃ q : Pk6, VB = q.vals (.slice none 0 0) from ⟨pkL s 0, by rw [hVB, hVL]⟩)
  have HVBL := Lib.hid hVB
  clear hVH hVL hVB
  obtain ⟨Z, hZ⟩ : ∃ Z, Z = pk0.vals (.slice none 0 0) := ⟨_, rfl⟩
  obtain ⟨VN, hVN⟩ : ∃ VN, VN = Z := ⟨_, rfl⟩
  have HEX : Hid (∀ (ρ : Operand → Value) (d : Option Tmp) (ty : TypeId) (ps : String) (af : Array Edge) (W : World), (execOp ρ { dst := d, op := .build 31 #[], type := ty, pos := ps, after := af, guard := none }).run Try.prog W = .ok (.value (.agg VN.toArray)) W) := Lib.hid (fun ρ d ty ps af W => by rw [hVN, hZ]; exact Try.execZ6 ρ d ty ps af W)
  have HIVN : Hid ((Try.prog.info? 31).map (·.size) = some VN.length) := Lib.hid (by rw [hVN, hZ]; exact Try.info6 _ _)
  have HOVN : Hid (VN.toArray.all (·.oneCell') = true) := Lib.hid (by rw [hVN, hZ]; exact vals_one _ _ rfl)
  have HLVN : Hid (VN.length = Z.toArray.size) := Lib.hid (by rw [hVN, hZ, List.size_toArray, vals_len])
  have hz0 : Z.toArray = #[.int .i64 0, .int .i64 0, .int .i64 0, .int .u8 0, .int .u8 0, .int .u8 0, .int .u8 0, .int .u8 0, .int .u8 0, .int .u8 0, .int .u8 0, .int .u8 0, .int .u8 0, .int .u8 0, .int .u8 0, .int .u8 0, .int .u8 0, .int .u8 0, .int .u8 0, .int .u8 0, .int .u8 0, .int .u8 0, .int .u8 0, .int .u8 0, .int .u8 0, .int .u8 0, .int .u8 0, .int .u8 0, .int .u8 0, .int .u8 0, .int .u8 0, .int .u8 0, .int .u8 0, .int .u8 0, .int .u8 0, .slice none 0 0, .bool false, .int .u32 0, .int .i64 0, .bool false, .int .i64 0, .string ⟨#[]⟩] := by rw [hZ]; exact pk0_vals
  have HZ := Lib.hid hZ
  have HZ0 := Lib.hid hz0
  have HVN := Lib.hid hVN
  clear hZ hVN
  have HK1 := Lib.hid ((Kp.start w).new 31 Z)
  generalize hw1 : w.alloc (.cells Z.toArray 31) = w1 at *
  rw [hz0] at hw1
  go_enter Try.func22, Try.ntmps22
  go_upto_region 1 with (fail)
  clear hw1 hz0
  have HK2 := Lib.hid (HK1.out.put 31 Z.toArray VN HLVN.out)
  have ht : (w1.alloc (.cells Z.toArray 31)).there w1.heap.size 0 VN.toArray.size := (bk_new w1 31 Z.toArray).there _ (by rw [List.size_toArray, HLVN.out]; exact Nat.le_refl _)
  generalize hwn : (w1.alloc (.cells Z.toArray 31)).setCells w1.heap.size 0 VN = w2 at *
  rw [HZ0.out] at hwn ht
  go_upto_region 2 with (first | (refine Great.wpList_readTo rfl _ rfl (.agg VN.toArray) (HEX.out _ _ _ _ _ _) ?_) | (refine wpList_store_mid rfl 31 _ _ rfl w1.heap.size 0 VN.toArray rfl rfl ht HIVN.out HOVN.out ?_))
  try rw [hwn]
  clear hwn ht HK1 HEX
  generalize w1.heap.size = b4 at *
  obtain ⟨qB, hqB⟩ := HVB0.out
  have HIVB : Hid ((Try.prog.info? 31).map (·.size) = some VB.length) := Lib.hid (by rw [hqB]; exact Try.info6 _ _)
  have HOVB : Hid (VB.toArray.all (·.oneCell') = true) := Lib.hid (by rw [hqB]; exact vals_one _ _ rfl)
  have HLVB : Hid (VB.length = Z.toArray.size) := Lib.hid (by rw [hqB, List.size_toArray, HZ.out, vals_len, vals_len])
  clear hqB qB HVB0
  go_wp2_with fail
  refine (N1.out _).mono ?_
  rintro e w3 ⟨rfl, b1⟩
  have HK3 := Lib.hid (HK2.out.below b1 (Nat.le_refl _))
  clear b1 HK2 N1 m6 k16 k17 u0
  have ka : IntKind.i64.wrap (40 + (hdL s : Int)) = 40 + (hdL s : Int) := IntWalk.i64_in _ (by omega)
  have kl : ¬ (s.size : Int) < 40 + (hdL s : Int) := by omega
  go_wp2_with fail
  refine (N2.out _).mono ?_
  rintro e w4 ⟨rfl, b1⟩
  have HK4 := Lib.hid (HK3.out.below b1 (Nat.le_refl _))
  clear b1 HK3 N2
  have x1 : (hdW s : Int).tdiv 1048576 = (hdW s : Int) / 1048576 := Int.tdiv_eq_ediv_of_nonneg (by omega)
  have x2 : IntKind.i64.wrap ((hdW s : Int) / 1048576) = (hdW s : Int) / 1048576 := IntWalk.i64_in _ (by omega)
  have x3 : ((hdW s : Int) / 1048576).tmod 256 = (hdW s : Int) / 1048576 % 256 := Int.tmod_eq_emod_of_nonneg (by omega)
  have x4 : IntKind.i64.wrap ((hdW s : Int) / 1048576 % 256) = (hdW s : Int) / 1048576 % 256 := IntWalk.i64_in _ (by omega)
  have x5 : (hdW s : Int).tmod 1048576 = (hdW s : Int) % 1048576 := Int.tmod_eq_emod_of_nonneg (by omega)
  have x6 : IntKind.i64.wrap ((hdW s : Int) % 1048576) = (hdW s : Int) % 1048576 := IntWalk.i64_in _ (by omega)
  have HK5 := Lib.hid (HK4.out.put 31 Z.toArray VB HLVB.out)
  have ht : (w4.alloc (.cells Z.toArray 31)).there w4.heap.size 0 VB.toArray.size := (bk_new w4 31 Z.toArray).there _ (by rw [List.size_toArray, HLVB.out]; exact Nat.le_refl _)
  generalize hwn : (w4.alloc (.cells Z.toArray 31)).setCells w4.heap.size 0 VB = w5 at *
  rw [HZ0.out] at hwn ht
  have HNE7 := Lib.hid (fun x hx => HK4.out.ne x hx)
  have HL7 := Lib.hid HK4.out.2.2
  go_upto_region 11 with (first | (refine Great.wpList_readTo rfl _ rfl (.agg VB.toArray) (HEB.out _ _ _ _ _ _ _ _ _ rfl rfl rfl) ?_) | (refine wpList_store_mid rfl 31 _ _ rfl w4.heap.size 0 VB.toArray rfl rfl ht HIVB.out HOVB.out ?_))
  try rw [hwn]
  clear hwn ht HK4 HEB HIVB HOVB HLVB x1 x2 x3 x4 x5 x6
  generalize w4.heap.size = b7 at *
  go_wp2_with fail
  go_loopw [8] (fun i wr => ∃ k : Nat, k ≤ 16 ∧ i = .int .i64 k ∧ Kp w w.heap.size [(b7, 31, VL k), (b4, 31, VN), (w.heap.size, 31, Z)] wr) (fun i _ => 16 - (intOf i).toNat)
  case atStart => exact ⟨0, by omega, rfl, by rw [← HVBL.out]; exact HK5.out⟩
  case round =>
    obtain ⟨k, hk, rfl, hq⟩ := hrel
    have HKr := Lib.hid hq
    clear hq
    by_cases hlt : k < 16
    · have hlt2 : (k : Int) < 16 := by omega
      obtain ⟨y3, hy3⟩ := HC3.out k (3 + k) (by omega)
      have c3 := HKr.out.hd.at hy3
      have z3 := HKr.out.hd.z (3 + k)
      have q1 : IntKind.i64.wrap (8 + (k : Int)) = 8 + (k : Int) := IntWalk.i64_in _ (by omega)
      have q2 : IntKind.i64.wrap (24 + (k : Int)) = 24 + (k : Int) := IntWalk.i64_in _ (by omega)
      have q3 : 8 + (k : Int) < (s.size : Int) := by omega
      have q4 : 24 + (k : Int) < (s.size : Int) := by omega
      have q5 : (8 + (k : Int)).toNat = 8 + k := by omega
      have q6 : (24 + (k : Int)).toNat = 24 + k := by omega
      have q7 : (0 : Int) ≤ 8 + (k : Int) := by omega
      have q8 : (0 : Int) ≤ 24 + (k : Int) := by omega
      have q9 : 8 + k < s.size := by omega
      have q10 : 24 + k < s.size := by omega
      have HSk := Lib.hid (HS3.out k hlt)
      clear hy3
      go_upto_region 15 with (fail)
      have HKa := Lib.hid (HKr.out.set1 HNE7.out HL7.out (3 + k) (.int .u8 ((s[8 + k].toNat : Nat) : Int)))
      obtain ⟨y19, hy19⟩ := HC19.out k (.int .u8 ((s[8 + k].toNat : Nat) : Int)) hlt
      clear c3 z3
      generalize wr.setCell ⟨b7, 3 + k, none⟩ (.int .u8 ((s[8 + k].toNat : Nat) : Int)) = wa at *
      have c19 := HKa.out.hd.at hy19
      have z19 := HKa.out.hd.z (19 + k)
      have HKb := Lib.hid (HKa.out.set1 HNE7.out HL7.out (19 + k) (.int .u8 ((s[24 + k].toNat : Nat) : Int)))
      clear hy19
      go_wp2_with fail
      go_roundw
      case rel => exact ⟨k + 1, by omega, by go_num, by rw [← HSk.out]; exact HKb.out⟩
      case measure => simp [intOf]; omega
    · obtain rfl : k = 16 := by omega
      clear hlt hk HK5
      have hkr := HKr.out
      rw [HE16.out] at hkr
      have HKh := Lib.hid hkr
      clear hkr HKr
      simp only [Int.cast_ofNat_Int]
      have j1 : (40 : Int) ≤ 40 + (hdL s : Int) := by omega
      have j2 : 40 + (hdL s : Int) ≤ (s.size : Int) := by omega
      have j3 : (0 : Int) ≤ 40 + (hdL s : Int) := by omega
      go_upto_region 16 with (fail)
      refine wp_region_noPanic ?_
      refine wp_region_held_drew (S := fun w' => Kp w w.heap.size [(b7, 31, VH), (b4, 31, VN), (w.heap.size, 31, Z)] w') (by kernel_rfl) (HKh.out.drew) (fun hHeld => ?_)
      refine wpAnyH_take (i := 0) (oi := { dst := some 61, op := Op.move (Operand.tmp 0), type := 9, pos := "ref.go:78", after := #[], guard := none }) (v := ?_) rfl (by kernel_rfl) (by kernel_rfl) (by kernel_rfl) (fun _ _ _ h => h) (Or.inl ⟨by rfl, ?_⟩) (by assumption) ?_
      rotate_left
      · (intro ww hSw; (try dsimp only at hSw); go_simp; try with_reducible rfl)
      (try simp only [Act.put, List.setIfInBounds_toArray, List.set_cons_zero, List.set_cons_succ])
      refine wpAnyH_take (i := 1) (oi := { dst := some 62, op := Op.index 9 (Operand.tmp 61) (Operand.const (Value.int IntKind.i64 6)), type := 5, pos := "ref.go:78", after := #[{ on := 0, ground := Ground.data }], guard := none }) (v := ?_) rfl (by kernel_rfl) (by kernel_rfl) (by kernel_rfl) (fun _ _ _ h => h) (Or.inl ⟨by rfl, ?_⟩) (by assumption) ?_
      rotate_left
      · (intro ww hSw; (try dsimp only at hSw); go_simp; try with_reducible rfl)
      (try simp only [Act.put, List.setIfInBounds_toArray, List.set_cons_zero, List.set_cons_succ])
      refine wpAnyH_take (i := 2) (oi := { dst := some 63, op := Op.convert 5 3 (Operand.tmp 62), type := 3, pos := "ref.go:78", after := #[{ on := 1, ground := Ground.data }], guard := none }) (v := ?_) rfl (by kernel_rfl) (by kernel_rfl) (by kernel_rfl) (fun _ _ _ h => h) (Or.inl ⟨by rfl, ?_⟩) (by assumption) ?_
      rotate_left
      · (intro ww hSw; (try dsimp only at hSw); go_simp; try with_reducible rfl)
      (try simp only [Act.put, List.setIfInBounds_toArray, List.set_cons_zero, List.set_cons_succ])
      refine wpAnyH_take (i := 3) (oi := { dst := some 64, op := Op.move (Operand.tmp 0), type := 9, pos := "ref.go:78", after := #[], guard := none }) (v := ?_) rfl (by kernel_rfl) (by kernel_rfl) (by kernel_rfl) (fun _ _ _ h => h) (Or.inl ⟨by rfl, ?_⟩) (by assumption) ?_
      rotate_left
      · (intro ww hSw; (try dsimp only at hSw); go_simp; try with_reducible rfl)
      (try simp only [Act.put, List.setIfInBounds_toArray, List.set_cons_zero, List.set_cons_succ])
      refine wpAnyH_take (i := 4) (oi := { dst := some 65, op := Op.move (Operand.tmp 5), type := 3, pos := "ref.go:78", after := #[], guard := none }) (v := ?_) rfl (by kernel_rfl) (by kernel_rfl) (by kernel_rfl) (fun _ _ _ h => h) (Or.inl ⟨by rfl, ?_⟩) (by assumption) ?_
      rotate_left
      · (intro ww hSw; (try dsimp only at hSw); go_simp; try with_reducible rfl)
      (try simp only [Act.put, List.setIfInBounds_toArray, List.set_cons_zero, List.set_cons_succ])
      refine wpAnyH_take (i := 5) (oi := { dst := some 66, op := Op.binOp BinOp.add 3 (Operand.const (Value.int IntKind.i64 40)) (Operand.tmp 65) 3, type := 3, pos := "ref.go:78", after := #[{ on := 4, ground := Ground.data }], guard := none }) (v := ?_) rfl (by kernel_rfl) (by kernel_rfl) (by kernel_rfl) (fun _ _ _ h => h) (Or.inl ⟨by rfl, ?_⟩) (by assumption) ?_
      rotate_left
      · (intro ww hSw; (try dsimp only at hSw); go_simp; try with_reducible rfl)
      (try simp only [Act.put, List.setIfInBounds_toArray, List.set_cons_zero, List.set_cons_succ])
      refine wpAnyH_take (i := 6) (oi := { dst := some 67, op := Op.slice 9 (Operand.tmp 64) (some (Operand.const (Value.int IntKind.i64 40))) (some (Operand.tmp 66)) none, type := 9, pos := "ref.go:78", after := #[{ on := 3, ground := Ground.data }, { on := 5, ground := Ground.data }], guard := none }) (v := ?_) rfl (by kernel_rfl) (by kernel_rfl) (by kernel_rfl) (fun _ _ _ h => h) (Or.inl ⟨by rfl, ?_⟩) (by assumption) ?_
      rotate_left
      · (intro ww hSw; (try dsimp only at hSw); go_simp; try with_reducible rfl)
      (try simp only [Act.put, List.setIfInBounds_toArray, List.set_cons_zero, List.set_cons_succ])
      refine wpAnyH_ready (rs := [7]) (by kernel_rfl) (by simp) ?_
      refine AllReadyH.cons (o := { dst := some 68, op := Op.call { callee := Callee.value (Operand.func 24), args := #[Operand.tmp 63, Operand.tmp 67], argTypes := #[3, 9] }, type := 50, pos := "ref.go:78", after := #[{ on := 2, ground := Ground.data }, { on := 6, ground := Ground.data }], guard := none }) rfl (fun K hK => ?_) AllReadyH.nil
      go_simp
      ((with_reducible refine (HCh.out _ b7 hHeld.hd.lt).mono ?_); rintro e w9 ⟨v, rfl, hown, hb9⟩)
      refine hK.out _ _ (hHeld.below hb9 (Nat.le_refl _)) (fun hHeld => ?_)
      clear hK K
      (try simp only [Act.put, List.setIfInBounds_toArray, List.set_cons_zero, List.set_cons_succ])
      refine wpAnyH_take (i := 8) (oi := { dst := some 60, op := Op.move (Operand.tmp 68), type := 50, pos := "ref.go:78", after := #[{ on := 7, ground := Ground.data }], guard := none }) (v := ?_) rfl (by kernel_rfl) (by kernel_rfl) (by kernel_rfl) (fun _ _ _ h => h) (Or.inl ⟨by rfl, ?_⟩) (by assumption) ?_
      rotate_left
      · (intro ww hSw; (try dsimp only at hSw); go_simp; try with_reducible rfl)
      (try simp only [Act.put, List.setIfInBounds_toArray, List.set_cons_zero, List.set_cons_succ])
      refine wpAnyH_take (i := 9) (oi := { dst := some 69, op := Op.extract (Operand.tmp 60) 0, type := 22, pos := "ref.go:78", after := #[{ on := 8, ground := Ground.data }], guard := none }) (v := ?_) rfl (by kernel_rfl) (by kernel_rfl) (by kernel_rfl) (fun _ _ _ h => h) (Or.inl ⟨by rfl, ?_⟩) (by assumption) ?_
      rotate_left
      · (intro ww hSw; (try dsimp only at hSw); go_simp; try with_reducible rfl)
      (try simp only [Act.put, List.setIfInBounds_toArray, List.set_cons_zero, List.set_cons_succ])
      refine wpAnyH_take (i := 10) (oi := { dst := some 70, op := Op.extract (Operand.tmp 60) 1, type := 3, pos := "ref.go:78", after := #[{ on := 8, ground := Ground.data }, { on := 13, ground := Ground.gcOnly Departure.lateStores }], guard := none }) (v := ?_) rfl (by kernel_rfl) (by kernel_rfl) (by kernel_rfl) (fun _ _ _ h => h) (Or.inl ⟨by rfl, ?_⟩) (by assumption) ?_
      rotate_left
      · (intro ww hSw; (try dsimp only at hSw); go_simp; try with_reducible rfl)
      (try simp only [Act.put, List.setIfInBounds_toArray, List.set_cons_zero, List.set_cons_succ])
      refine wpAnyH_take (i := 11) (oi := { dst := some 71, op := Op.extract (Operand.tmp 60) 2, type := 9, pos := "ref.go:78", after := #[{ on := 8, ground := Ground.data }, { on := 14, ground := Ground.gcOnly Departure.lateStores }], guard := none }) (v := ?_) rfl (by kernel_rfl) (by kernel_rfl) (by kernel_rfl) (fun _ _ _ h => h) (Or.inl ⟨by rfl, ?_⟩) (by assumption) ?_
      rotate_left
      · (intro ww hSw; (try dsimp only at hSw); go_simp; try with_reducible rfl)
      (try simp only [Act.put, List.setIfInBounds_toArray, List.set_cons_zero, List.set_cons_succ])
      refine wpAnyH_take (i := 12) (oi := { dst := some 72, op := Op.extract (Operand.tmp 60) 3, type := 3, pos := "ref.go:78", after := #[{ on := 8, ground := Ground.data }, { on := 15, ground := Ground.gcOnly Departure.lateStores }], guard := none }) (v := ?_) rfl (by kernel_rfl) (by kernel_rfl) (by kernel_rfl) (fun _ _ _ h => h) (Or.inl ⟨by rfl, ?_⟩) (by assumption) ?_
      rotate_left
      · (intro ww hSw; (try dsimp only at hSw); go_simp; try with_reducible rfl)
      (try simp only [Act.put, List.setIfInBounds_toArray, List.set_cons_zero, List.set_cons_succ])
      refine wpAnyH_take (i := 13) (oi := { dst := some 9, op := Op.assign (Operand.tmp 69), type := 22, pos := "ref.go:78", after := #[{ on := 9, ground := Ground.data }, { on := 7, ground := Ground.chain }, { on := 0, ground := Ground.phase }, { on := 1, ground := Ground.phase }, { on := 2, ground := Ground.phase }, { on := 3, ground := Ground.phase }, { on := 4, ground := Ground.phase }, { on := 5, ground := Ground.phase }, { on := 6, ground := Ground.phase }, { on := 7, ground := Ground.phase }, { on := 8, ground := Ground.phase }, { on := 9, ground := Ground.phase }, { on := 10, ground := Ground.textOnly Departure.lateStores }, { on := 11, ground := Ground.textOnly Departure.lateStores }, { on := 12, ground := Ground.textOnly Departure.lateStores }], guard := none }) (v := ?_) rfl (by kernel_rfl) (by kernel_rfl) (by kernel_rfl) (fun _ _ _ h => h) (Or.inl ⟨by rfl, ?_⟩) (by assumption) ?_
      rotate_left
      · (intro ww hSw; (try dsimp only at hSw); go_simp; try with_reducible rfl)
      (try simp only [Act.put, List.setIfInBounds_toArray, List.set_cons_zero, List.set_cons_succ])
      refine wpAnyH_take (i := 14) (oi := { dst := some 10, op := Op.assign (Operand.tmp 70), type := 3, pos := "ref.go:78", after := #[{ on := 10, ground := Ground.data }, { on := 13, ground := Ground.chain }, { on := 0, ground := Ground.phase }, { on := 1, ground := Ground.phase }, { on := 2, ground := Ground.phase }, { on := 3, ground := Ground.phase }, { on := 4, ground := Ground.phase }, { on := 5, ground := Ground.phase }, { on := 6, ground := Ground.phase }, { on := 7, ground := Ground.phase }, { on := 8, ground := Ground.phase }, { on := 9, ground := Ground.phase }, { on := 10, ground := Ground.phase }, { on := 11, ground := Ground.textOnly Departure.lateStores }, { on := 12, ground := Ground.textOnly Departure.lateStores }, { on := 13, ground := Ground.phase }], guard := none }) (v := ?_) rfl (by kernel_rfl) (by kernel_rfl) (by kernel_rfl) (fun _ _ _ h => h) (Or.inl ⟨by rfl, ?_⟩) (by assumption) ?_
      rotate_left
      · (intro ww hSw; (try dsimp only at hSw); go_simp; try with_reducible rfl)
      (try simp only [Act.put, List.setIfInBounds_toArray, List.set_cons_zero, List.set_cons_succ])
      refine wpAnyH_take (i := 15) (oi := { dst := some 11, op := Op.assign (Operand.tmp 71), type := 9, pos := "ref.go:78", after := #[{ on := 11, ground := Ground.data }, { on := 14, ground := Ground.chain }, { on := 0, ground := Ground.phase }, { on := 1, ground := Ground.phase }, { on := 2, ground := Ground.phase }, { on := 3, ground := Ground.phase }, { on := 4, ground := Ground.phase }, { on := 5, ground := Ground.phase }, { on := 6, ground := Ground.phase }, { on := 7, ground := Ground.phase }, { on := 8, ground := Ground.phase }, { on := 9, ground := Ground.phase }, { on := 10, ground := Ground.phase }, { on := 11, ground := Ground.phase }, { on := 12, ground := Ground.textOnly Departure.lateStores }, { on := 13, ground := Ground.phase }, { on := 14, ground := Ground.phase }], guard := none }) (v := ?_) rfl (by kernel_rfl) (by kernel_rfl) (by kernel_rfl) (fun _ _ _ h => h) (Or.inl ⟨by rfl, ?_⟩) (by assumption) ?_
      rotate_left
      · (intro ww hSw; (try dsimp only at hSw); go_simp; try with_reducible rfl)
      (try simp only [Act.put, List.setIfInBounds_toArray, List.set_cons_zero, List.set_cons_succ])
      refine wpAnyH_take (i := 16) (oi := { dst := some 12, op := Op.assign (Operand.tmp 72), type := 3, pos := "ref.go:78", after := #[{ on := 12, ground := Ground.data }, { on := 15, ground := Ground.chain }, { on := 0, ground := Ground.phase }, { on := 1, ground := Ground.phase }, { on := 2, ground := Ground.phase }, { on := 3, ground := Ground.phase }, { on := 4, ground := Ground.phase }, { on := 5, ground := Ground.phase }, { on := 6, ground := Ground.phase }, { on := 7, ground := Ground.phase }, { on := 8, ground := Ground.phase }, { on := 9, ground := Ground.phase }, { on := 10, ground := Ground.phase }, { on := 11, ground := Ground.phase }, { on := 12, ground := Ground.phase }, { on := 13, ground := Ground.phase }, { on := 14, ground := Ground.phase }, { on := 15, ground := Ground.phase }], guard := none }) (v := ?_) rfl (by kernel_rfl) (by kernel_rfl) (by kernel_rfl) (fun _ _ _ h => h) (Or.inl ⟨by rfl, ?_⟩) (by assumption) ?_
      rotate_left
      · (intro ww hSw; (try dsimp only at hSw); go_simp; try with_reducible rfl)
      (try simp only [Act.put, List.setIfInBounds_toArray, List.set_cons_zero, List.set_cons_succ])
      refine wpAnyH_done (by kernel_rfl) ?_ _
      refine NoPanic.normal ?_
      have HKi := Lib.hid hHeld
      have HOw := Lib.hid hown
      clear hHeld hown j1 j2 j3 ka kl HCh
      have m7 : ((prC s).code != 0) = false := by rw [hc]; rfl
      have hPV : ∀ v, (prP s h40).vals v = ((VH.set 35 v).set 40 (.int .i64 (prC s).proto)).set 41 (.string (prC s).rest) := fun v => by rw [HVH.out]; exact vset_chain _ _ v _ _ _
      have HPV := Lib.hid hPV
      have HPe := Lib.hid (show (prP s h40).exts = (prC s).exts from rfl)
      have HPd := Lib.hid (show (prP s h40).data = (prC s).rest from rfl)
      have hrr := prC_rest s
      have HO1 := Lib.hid (own_one HOw.out)
      have c35 := HKi.out.hd.at (show VH[35]? = some (.slice none 0 0) by rw [HVH.out]; exact vals_tail _ _ 0)
      have c40 := HKi.out.hd.at (show VH[40]? = some (.int .i64 0) by rw [HVH.out]; exact vals_tail _ _ 5)
      have c41 := HKi.out.hd.at (show VH[41]? = some (.string ⟨#[]⟩) by rw [HVH.out]; exact vals_tail _ _ 6)
      have z35 := HKi.out.hd.z 35
      have z40 := HKi.out.hd.z 40
      have z41 := HKi.out.hd.z 41
      have HVHx := HVH
      clear hPV HVH
      generalize prP s h40 = P at *
      generalize prC s = R at *
      obtain ⟨ao, cap, rfl, _⟩ := exs_own HOw.out
      obtain ⟨VP, hVP⟩ : ∃ VP, VP = P.vals (.slice ao R.exts.length cap) := ⟨_, rfl⟩
      have hK5 : Kp w w.heap.size [(b7, 31, VP), (b4, 31, VN), (w.heap.size, 31, Z)] (((w9.setCell ⟨b7, 35, none⟩ (.slice ao R.exts.length cap)).setCell ⟨b7, 40, none⟩ (.int .i64 R.proto)).setCell ⟨b7, 41, none⟩ (.string R.rest)) := by
        have e : VP = ((VH.set 35 (.slice ao R.exts.length cap)).set 40 (.int .i64 R.proto)).set 41 (.string R.rest) := by rw [hVP, HPV.out]
        rw [e]
        exact ((HKi.out.set1 HNE7.out HL7.out 35 _).set1 HNE7.out HL7.out 40 _).set1 HNE7.out HL7.out 41 _
      have HOw5 := Lib.hid (own_set (own_set (own_set HOw.out (Nat.lt_succ_self b7) 35 (.slice ao R.exts.length cap)) (Nat.lt_succ_self b7) 40 (.int .i64 R.proto)) (Nat.lt_succ_self b7) 41 (.string R.rest))
      have HVP := Lib.hid hVP
      have HIVP : Hid ((Try.prog.info? 31).map (·.size) = some VP.length) := Lib.hid (by rw [hVP]; exact Try.info6 _ _)
      have HOVP : Hid (VP.toArray.all (·.oneCell') = true) := Lib.hid (by rw [hVP]; exact vals_one _ _ HO1.out)
      have HLVP : Hid (VP.length = Z.toArray.size) := Lib.hid (by rw [hVP, List.size_toArray, HZ.out, vals_len, vals_len])
      have HK5 := Lib.hid hK5
      clear hVP hK5 HKi HOw HVHx
      go_upto_region 22 with (fail)
      clear c35 c40 c41 z35 z40 z41 m7
      generalize (((w9.setCell ⟨b7, 35, none⟩ (.slice ao R.exts.length cap)).setCell ⟨b7, 40, none⟩ (.int .i64 R.proto)).setCell ⟨b7, 41, none⟩ (.string R.rest)) = w10 at *
      have kp : (R.proto != 44) = false := by rw [HP44.out]; rfl
      have k8 : (R.rest.size : Int) < 8 := by omega
      have hrg : w10.rangeAt b4 0 VN := (HK5.out.1 (b4, 31, VN) (by simp)).range
      have htf : w10.there w.heap.size 0 VN.toArray.size := (HK5.out.1 (w.heap.size, 31, Z) (by simp)).there _ (by rw [List.size_toArray, HLVN.out]; exact Nat.le_refl _)
      go_wp2_with (first | (refine wpList_load_mid rfl 31 _ rfl b4 0 rfl VN _ hrg Try.underlying31 rfl HIVN.out ?_) | (refine wpList_store_mid rfl 31 _ _ rfl w.heap.size 0 VN.toArray rfl rfl htf HIVN.out HOVN.out ?_))
      have hk5 := Bk.sets VN 0 _ _ (HK5.out.1 (w.heap.size, 31, Z) (by simp))
      rw [puts_whole Z.toArray VN HLVN.out] at hk5
      refine bodyPost_ret (v := .tuple #[.agg VN.toArray, .int .i64 7]) ?_ rfl ?_
      · exact results_cell2 rfl rfl rfl (run_loadVar_mid _ w.heap.size 0 31 VN _ hk5.range Try.underlying31 rfl HIVN.out)
      · exact ⟨.slice none 0 0, by rw [HVN.out, HZ.out], own_nil _ _ _, below_sets _ (Nat.le_refl _) 0 _ HK5.out.2.1⟩
set_option maxRecDepth 100000 in
set_option maxHeartbeats 3000000 in
theorem rparse_fok (s : ByteArray) (w : World) (hs : s.size ≤ 70000) (h40 : 40 ≤ s.size) (h6 : (hdW s : Int) / 268435456 = 6) (hb : ¬ s.size < 40 + hdL s) (hc : (prC s).code = 0) (hp : (prC s).proto = 44) (h8 : ¬ (prC s).rest.size < 8) (hpc : (frP (prP s h40)).piece = true) (hrc : (frP (prP s h40)).rch = true) :
    Calls Try.prog 22 #[.string s] w (RPar (frP (prP s h40)) 0 w) := by
  have HP44 := Lib.hid hp
  clear hp
  have hge : ¬ (s.size : Int) < 40 := by omega
  have h0s : 0 < s.size := by omega
  have i6 : (6 : Int) < (s.size : Int) := by omega
  have i7 : (7 : Int) < (s.size : Int) := by omega
  have u0 := s[0].toNat_lt
  have u6 := s[6].toNat_lt
  have u7 := s[7].toNat_lt
  have w7 : wrap64 ((s[7].toNat : Nat) : Int) = ((s[7].toNat : Nat) : Int) := by unfold wrap64; omega
  have w6 : IntKind.i64.wrap ((s[6].toNat : Nat) : Int) = ((s[6].toNat : Nat) : Int) := IntWalk.i64_in _ (by omega)
  have t40 : ((40 : Int) + (hdL s : Int)).toNat = 40 + hdL s := by omega
  have hnib := first_nib s h0s (by omega)
  have k16 : ((s[0].toNat : Nat) : Int).tdiv 16 = (hdW s : Int) / 268435456 := by rw [Int.tdiv_eq_ediv_of_nonneg (by omega)]; exact hnib
  have k17 : IntKind.u8.wrap ((hdW s : Int) / 268435456) = (hdW s : Int) / 268435456 := IntWalk.u8_in _ (by omega)
  have hll := hdL_lt s
  have hwl := hdW_lt s
  have N1 : Hid (∀ W, Calls Try.prog 43 #[.string s, .int .i64 4, .int .i64 2] W fun e w' => e = .returned (.int .i64 (hdL s : Nat)) ∧ Below W.heap.size W w') := Lib.hid (fun W => rnumber_any s 4 2 W hs (by omega) (by omega))
  have N2 : Hid (∀ W, Calls Try.prog 43 #[.string s, .int .i64 0, .int .i64 4] W fun e w' => e = .returned (.int .i64 (hdW s : Nat)) ∧ Below W.heap.size W w') := Lib.hid (fun W => rnumber_any s 0 4 W hs (by omega) (by omega))
  have m6 : ((hdW s : Int) / 268435456 != 6) = false := by rw [h6]; rfl
  clear hnib h6
  have HCh : Hid (∀ (W : World) (b : Nat), b < W.heap.size → Calls Try.prog 24 #[.int .i64 ((s[6].toNat : Nat) : Int), .string (s.extract 40 (40 + hdL s))] W fun e w' => ∃ v, e = .returned (.tuple #[v, .int .i64 (prC s).proto, .string (prC s).rest, .int .i64 (prC s).code]) ∧ w'.ownsRow (b + 1) 40 2 v (prC s).exts.length (extV (prC s).exts) ∧ Below W.heap.size W w') := Lib.hid (fun W b hb => by
    rw [← byN_at s 6 (by omega)]
    refine (rchain_any (byN s 6 : Nat) (s.extract 40 (40 + hdL s)) W (by simp; omega)).mono ?_
    rintro e w' ⟨v, rfl, hown, hbl⟩
    exact ⟨v, rfl, own_le hown hb, hbl⟩)
  obtain ⟨VL, hVL⟩ : ∃ VL : Nat → List Value, VL = fun k => (pkL s k).vals (.slice none 0 0) := ⟨_, rfl⟩
  obtain ⟨VB, hVB⟩ : ∃ VB, VB = VL 0 := ⟨_, rfl⟩
  obtain ⟨VH, hVH⟩ : ∃ VH, VH = (hdP s h40).vals (.slice none 0 0) := ⟨_, rfl⟩
  have HEB : Hid (∀ (a : Act) (t0 t1 t2 : Nat) (d : Option Tmp) (ty : TypeId) (ps : String) (af : Array Edge) (W : World), a.eval (.tmp t0) = .int .i64 ((hdW s : Int) / 1048576 % 256) → a.eval (.tmp t1) = .int .i64 ((hdW s : Int) % 1048576) → a.eval (.tmp t2) = .int .i64 ((s[7].toNat : Nat) : Int) → (execOp a.eval { dst := d, op := .build 31 #[(0, .tmp t0), (1, .tmp t1), (2, .tmp t2)], type := ty, pos := ps, after := af, guard := none }).run Try.prog W = .ok (.value (.agg VB.toArray)) W) := Lib.hid (fun a t0 t1 t2 d ty ps af W e0 e1 e2 => by
    have h := Try.execB6 a t0 t1 t2 _ _ _ d ty ps af W e0 e1 e2
    rw [h, hVB, hVL, ← byN_at s 7 (by omega)]
    rfl)
  have HS3 : Hid (∀ (k : Nat) (hk : k < 16), ((VL k).set (3 + k) (.int .u8 ((s[8 + k]'(by omega)).toNat : Int))).set (19 + k) (.int .u8 ((s[24 + k]'(by omega)).toNat : Int)) = VL (k + 1)) := Lib.hid (fun k hk => by rw [hVL]; exact pkL_step s k hk h40)
  have HC3 : Hid (∀ (k : Nat) (i : Nat), i < 42 → ∃ x, (VL k)[i]? = some x) := Lib.hid (fun k i hi => by rw [hVL]; exact vals_some _ _ i hi)
  have HC19 : Hid (∀ (k : Nat) (y : Value), k < 16 → ∃ x, ((VL k).set (3 + k) y)[19 + k]? = some x) := Lib.hid (fun k y hk => by rw [List.getElem?_set_ne (by omega), hVL]; exact vals_some _ _ (19 + k) (by omega))
  have HE16 : Hid (VL 16 = VH) := Lib.hid (by rw [hVL, hVH]; exact pkL_end s h40)
  have HVH := Lib.hid hVH
  have HVB0 := Lib.hid (show ∃ q : Pk6, VB = q.vals (.slice none 0 0) from ⟨pkL s 0, by rw [hVB, hVL]⟩)
  have HVBL := Lib.hid hVB
  clear hVH hVL hVB
  obtain ⟨Z, hZ⟩ : ∃ Z, Z = pk0.vals (.slice none 0 0) := ⟨_, rfl⟩
  obtain ⟨VN, hVN⟩ : ∃ VN, VN = Z := ⟨_, rfl⟩
  have HEX : Hid (∀ (ρ : Operand → Value) (d : Option Tmp) (ty : TypeId) (ps : String) (af : Array Edge) (W : World), (execOp ρ { dst := d, op := .build 31 #[], type := ty, pos := ps, after := af, guard := none }).run Try.prog W = .ok (.value (.agg VN.toArray)) W) := Lib.hid (fun ρ d ty ps af W => by rw [hVN, hZ]; exact Try.execZ6 ρ d ty ps af W)
  have HIVN : Hid ((Try.prog.info? 31).map (·.size) = some VN.length) := Lib.hid (by rw [hVN, hZ]; exact Try.info6 _ _)
  have HOVN : Hid (VN.toArray.all (·.oneCell') = true) := Lib.hid (by rw [hVN, hZ]; exact vals_one _ _ rfl)
  have HLVN : Hid (VN.length = Z.toArray.size) := Lib.hid (by rw [hVN, hZ, List.size_toArray, vals_len])
  have hz0 : Z.toArray = #[.int .i64 0, .int .i64 0, .int .i64 0, .int .u8 0, .int .u8 0, .int .u8 0, .int .u8 0, .int .u8 0, .int .u8 0, .int .u8 0, .int .u8 0, .int .u8 0, .int .u8 0, .int .u8 0, .int .u8 0, .int .u8 0, .int .u8 0, .int .u8 0, .int .u8 0, .int .u8 0, .int .u8 0, .int .u8 0, .int .u8 0, .int .u8 0, .int .u8 0, .int .u8 0, .int .u8 0, .int .u8 0, .int .u8 0, .int .u8 0, .int .u8 0, .int .u8 0, .int .u8 0, .int .u8 0, .int .u8 0, .slice none 0 0, .bool false, .int .u32 0, .int .i64 0, .bool false, .int .i64 0, .string ⟨#[]⟩] := by rw [hZ]; exact pk0_vals
  have HZ := Lib.hid hZ
  have HZ0 := Lib.hid hz0
  have HVN := Lib.hid hVN
  clear hZ hVN
  have HK1 := Lib.hid ((Kp.start w).new 31 Z)
  generalize hw1 : w.alloc (.cells Z.toArray 31) = w1 at *
  rw [hz0] at hw1
  go_enter Try.func22, Try.ntmps22
  go_upto_region 1 with (fail)
  clear hw1 hz0
  have HK2 := Lib.hid (HK1.out.put 31 Z.toArray VN HLVN.out)
  have ht : (w1.alloc (.cells Z.toArray 31)).there w1.heap.size 0 VN.toArray.size := (bk_new w1 31 Z.toArray).there _ (by rw [List.size_toArray, HLVN.out]; exact Nat.le_refl _)
  generalize hwn : (w1.alloc (.cells Z.toArray 31)).setCells w1.heap.size 0 VN = w2 at *
  rw [HZ0.out] at hwn ht
  go_upto_region 2 with (first | (refine Great.wpList_readTo rfl _ rfl (.agg VN.toArray) (HEX.out _ _ _ _ _ _) ?_) | (refine wpList_store_mid rfl 31 _ _ rfl w1.heap.size 0 VN.toArray rfl rfl ht HIVN.out HOVN.out ?_))
  try rw [hwn]
  clear hwn ht HK1 HEX
  generalize w1.heap.size = b4 at *
  obtain ⟨qB, hqB⟩ := HVB0.out
  have HIVB : Hid ((Try.prog.info? 31).map (·.size) = some VB.length) := Lib.hid (by rw [hqB]; exact Try.info6 _ _)
  have HOVB : Hid (VB.toArray.all (·.oneCell') = true) := Lib.hid (by rw [hqB]; exact vals_one _ _ rfl)
  have HLVB : Hid (VB.length = Z.toArray.size) := Lib.hid (by rw [hqB, List.size_toArray, HZ.out, vals_len, vals_len])
  clear hqB qB HVB0
  go_wp2_with fail
  refine (N1.out _).mono ?_
  rintro e w3 ⟨rfl, b1⟩
  have HK3 := Lib.hid (HK2.out.below b1 (Nat.le_refl _))
  clear b1 HK2 N1 m6 k16 k17 u0
  have ka : IntKind.i64.wrap (40 + (hdL s : Int)) = 40 + (hdL s : Int) := IntWalk.i64_in _ (by omega)
  have kl : ¬ (s.size : Int) < 40 + (hdL s : Int) := by omega
  go_wp2_with fail
  refine (N2.out _).mono ?_
  rintro e w4 ⟨rfl, b1⟩
  have HK4 := Lib.hid (HK3.out.below b1 (Nat.le_refl _))
  clear b1 HK3 N2
  have x1 : (hdW s : Int).tdiv 1048576 = (hdW s : Int) / 1048576 := Int.tdiv_eq_ediv_of_nonneg (by omega)
  have x2 : IntKind.i64.wrap ((hdW s : Int) / 1048576) = (hdW s : Int) / 1048576 := IntWalk.i64_in _ (by omega)
  have x3 : ((hdW s : Int) / 1048576).tmod 256 = (hdW s : Int) / 1048576 % 256 := Int.tmod_eq_emod_of_nonneg (by omega)
  have x4 : IntKind.i64.wrap ((hdW s : Int) / 1048576 % 256) = (hdW s : Int) / 1048576 % 256 := IntWalk.i64_in _ (by omega)
  have x5 : (hdW s : Int).tmod 1048576 = (hdW s : Int) % 1048576 := Int.tmod_eq_emod_of_nonneg (by omega)
  have x6 : IntKind.i64.wrap ((hdW s : Int) % 1048576) = (hdW s : Int) % 1048576 := IntWalk.i64_in _ (by omega)
  have HK5 := Lib.hid (HK4.out.put 31 Z.toArray VB HLVB.out)
  have ht : (w4.alloc (.cells Z.toArray 31)).there w4.heap.size 0 VB.toArray.size := (bk_new w4 31 Z.toArray).there _ (by rw [List.size_toArray, HLVB.out]; exact Nat.le_refl _)
  generalize hwn : (w4.alloc (.cells Z.toArray 31)).setCells w4.heap.size 0 VB = w5 at *
  rw [HZ0.out] at hwn ht
  have HNE7 := Lib.hid (fun x hx => HK4.out.ne x hx)
  have HL7 := Lib.hid HK4.out.2.2
  go_upto_region 11 with (first | (refine Great.wpList_readTo rfl _ rfl (.agg VB.toArray) (HEB.out _ _ _ _ _ _ _ _ _ rfl rfl rfl) ?_) | (refine wpList_store_mid rfl 31 _ _ rfl w4.heap.size 0 VB.toArray rfl rfl ht HIVB.out HOVB.out ?_))
  try rw [hwn]
  clear hwn ht HK4 HEB HIVB HOVB HLVB x1 x2 x3 x4 x5 x6
  generalize w4.heap.size = b7 at *
  go_wp2_with fail
  go_loopw [8] (fun i wr => ∃ k : Nat, k ≤ 16 ∧ i = .int .i64 k ∧ Kp w w.heap.size [(b7, 31, VL k), (b4, 31, VN), (w.heap.size, 31, Z)] wr) (fun i _ => 16 - (intOf i).toNat)
  case atStart => exact ⟨0, by omega, rfl, by rw [← HVBL.out]; exact HK5.out⟩
  case round =>
    obtain ⟨k, hk, rfl, hq⟩ := hrel
    have HKr := Lib.hid hq
    clear hq
    by_cases hlt : k < 16
    · have hlt2 : (k : Int) < 16 := by omega
      obtain ⟨y3, hy3⟩ := HC3.out k (3 + k) (by omega)
      have c3 := HKr.out.hd.at hy3
      have z3 := HKr.out.hd.z (3 + k)
      have q1 : IntKind.i64.wrap (8 + (k : Int)) = 8 + (k : Int) := IntWalk.i64_in _ (by omega)
      have q2 : IntKind.i64.wrap (24 + (k : Int)) = 24 + (k : Int) := IntWalk.i64_in _ (by omega)
      have q3 : 8 + (k : Int) < (s.size : Int) := by omega
      have q4 : 24 + (k : Int) < (s.size : Int) := by omega
      have q5 : (8 + (k : Int)).toNat = 8 + k := by omega
      have q6 : (24 + (k : Int)).toNat = 24 + k := by omega
      have q7 : (0 : Int) ≤ 8 + (k : Int) := by omega
      have q8 : (0 : Int) ≤ 24 + (k : Int) := by omega
      have q9 : 8 + k < s.size := by omega
      have q10 : 24 + k < s.size := by omega
      have HSk := Lib.hid (HS3.out k hlt)
      clear hy3
      go_upto_region 15 with (fail)
      have HKa := Lib.hid (HKr.out.set1 HNE7.out HL7.out (3 + k) (.int .u8 ((s[8 + k].toNat : Nat) : Int)))
      obtain ⟨y19, hy19⟩ := HC19.out k (.int .u8 ((s[8 + k].toNat : Nat) : Int)) hlt
      clear c3 z3
      generalize wr.setCell ⟨b7, 3 + k, none⟩ (.int .u8 ((s[8 + k].toNat : Nat) : Int)) = wa at *
      have c19 := HKa.out.hd.at hy19
      have z19 := HKa.out.hd.z (19 + k)
      have HKb := Lib.hid (HKa.out.set1 HNE7.out HL7.out (19 + k) (.int .u8 ((s[24 + k].toNat : Nat) : Int)))
      clear hy19
      go_wp2_with fail
      go_roundw
      case rel => exact ⟨k + 1, by omega, by go_num, by rw [← HSk.out]; exact HKb.out⟩
      case measure => simp [intOf]; omega
    · obtain rfl : k = 16 := by omega
      clear hlt hk HK5
      have hkr := HKr.out
      rw [HE16.out] at hkr
      have HKh := Lib.hid hkr
      clear hkr HKr
      simp only [Int.cast_ofNat_Int]
      have j1 : (40 : Int) ≤ 40 + (hdL s : Int) := by omega
      have j2 : 40 + (hdL s : Int) ≤ (s.size : Int) := by omega
      have j3 : (0 : Int) ≤ 40 + (hdL s : Int) := by omega
      go_upto_region 16 with (fail)
      refine wp_region_noPanic ?_
      refine wp_region_held_drew (S := fun w' => Kp w w.heap.size [(b7, 31, VH), (b4, 31, VN), (w.heap.size, 31, Z)] w') (by kernel_rfl) (HKh.out.drew) (fun hHeld => ?_)
      refine wpAnyH_take (i := 0) (oi := { dst := some 61, op := Op.move (Operand.tmp 0), type := 9, pos := "ref.go:78", after := #[], guard := none }) (v := ?_) rfl (by kernel_rfl) (by kernel_rfl) (by kernel_rfl) (fun _ _ _ h => h) (Or.inl ⟨by rfl, ?_⟩) (by assumption) ?_
      rotate_left
      · (intro ww hSw; (try dsimp only at hSw); go_simp; try with_reducible rfl)
      (try simp only [Act.put, List.setIfInBounds_toArray, List.set_cons_zero, List.set_cons_succ])
      refine wpAnyH_take (i := 1) (oi := { dst := some 62, op := Op.index 9 (Operand.tmp 61) (Operand.const (Value.int IntKind.i64 6)), type := 5, pos := "ref.go:78", after := #[{ on := 0, ground := Ground.data }], guard := none }) (v := ?_) rfl (by kernel_rfl) (by kernel_rfl) (by kernel_rfl) (fun _ _ _ h => h) (Or.inl ⟨by rfl, ?_⟩) (by assumption) ?_
      rotate_left
      · (intro ww hSw; (try dsimp only at hSw); go_simp; try with_reducible rfl)
      (try simp only [Act.put, List.setIfInBounds_toArray, List.set_cons_zero, List.set_cons_succ])
      refine wpAnyH_take (i := 2) (oi := { dst := some 63, op := Op.convert 5 3 (Operand.tmp 62), type := 3, pos := "ref.go:78", after := #[{ on := 1, ground := Ground.data }], guard := none }) (v := ?_) rfl (by kernel_rfl) (by kernel_rfl) (by kernel_rfl) (fun _ _ _ h => h) (Or.inl ⟨by rfl, ?_⟩) (by assumption) ?_
      rotate_left
      · (intro ww hSw; (try dsimp only at hSw); go_simp; try with_reducible rfl)
      (try simp only [Act.put, List.setIfInBounds_toArray, List.set_cons_zero, List.set_cons_succ])
      refine wpAnyH_take (i := 3) (oi := { dst := some 64, op := Op.move (Operand.tmp 0), type := 9, pos := "ref.go:78", after := #[], guard := none }) (v := ?_) rfl (by kernel_rfl) (by kernel_rfl) (by kernel_rfl) (fun _ _ _ h => h) (Or.inl ⟨by rfl, ?_⟩) (by assumption) ?_
      rotate_left
      · (intro ww hSw; (try dsimp only at hSw); go_simp; try with_reducible rfl)
      (try simp only [Act.put, List.setIfInBounds_toArray, List.set_cons_zero, List.set_cons_succ])
      refine wpAnyH_take (i := 4) (oi := { dst := some 65, op := Op.move (Operand.tmp 5), type := 3, pos := "ref.go:78", after := #[], guard := none }) (v := ?_) rfl (by kernel_rfl) (by kernel_rfl) (by kernel_rfl) (fun _ _ _ h => h) (Or.inl ⟨by rfl, ?_⟩) (by assumption) ?_
      rotate_left
      · (intro ww hSw; (try dsimp only at hSw); go_simp; try with_reducible rfl)
      (try simp only [Act.put, List.setIfInBounds_toArray, List.set_cons_zero, List.set_cons_succ])
      refine wpAnyH_take (i := 5) (oi := { dst := some 66, op := Op.binOp BinOp.add 3 (Operand.const (Value.int IntKind.i64 40)) (Operand.tmp 65) 3, type := 3, pos := "ref.go:78", after := #[{ on := 4, ground := Ground.data }], guard := none }) (v := ?_) rfl (by kernel_rfl) (by kernel_rfl) (by kernel_rfl) (fun _ _ _ h => h) (Or.inl ⟨by rfl, ?_⟩) (by assumption) ?_
      rotate_left
      · (intro ww hSw; (try dsimp only at hSw); go_simp; try with_reducible rfl)
      (try simp only [Act.put, List.setIfInBounds_toArray, List.set_cons_zero, List.set_cons_succ])
      refine wpAnyH_take (i := 6) (oi := { dst := some 67, op := Op.slice 9 (Operand.tmp 64) (some (Operand.const (Value.int IntKind.i64 40))) (some (Operand.tmp 66)) none, type := 9, pos := "ref.go:78", after := #[{ on := 3, ground := Ground.data }, { on := 5, ground := Ground.data }], guard := none }) (v := ?_) rfl (by kernel_rfl) (by kernel_rfl) (by kernel_rfl) (fun _ _ _ h => h) (Or.inl ⟨by rfl, ?_⟩) (by assumption) ?_
      rotate_left
      · (intro ww hSw; (try dsimp only at hSw); go_simp; try with_reducible rfl)
      (try simp only [Act.put, List.setIfInBounds_toArray, List.set_cons_zero, List.set_cons_succ])
      refine wpAnyH_ready (rs := [7]) (by kernel_rfl) (by simp) ?_
      refine AllReadyH.cons (o := { dst := some 68, op := Op.call { callee := Callee.value (Operand.func 24), args := #[Operand.tmp 63, Operand.tmp 67], argTypes := #[3, 9] }, type := 50, pos := "ref.go:78", after := #[{ on := 2, ground := Ground.data }, { on := 6, ground := Ground.data }], guard := none }) rfl (fun K hK => ?_) AllReadyH.nil
      go_simp
      ((with_reducible refine (HCh.out _ b7 hHeld.hd.lt).mono ?_); rintro e w9 ⟨v, rfl, hown, hb9⟩)
      refine hK.out _ _ (hHeld.below hb9 (Nat.le_refl _)) (fun hHeld => ?_)
      clear hK K
      (try simp only [Act.put, List.setIfInBounds_toArray, List.set_cons_zero, List.set_cons_succ])
      refine wpAnyH_take (i := 8) (oi := { dst := some 60, op := Op.move (Operand.tmp 68), type := 50, pos := "ref.go:78", after := #[{ on := 7, ground := Ground.data }], guard := none }) (v := ?_) rfl (by kernel_rfl) (by kernel_rfl) (by kernel_rfl) (fun _ _ _ h => h) (Or.inl ⟨by rfl, ?_⟩) (by assumption) ?_
      rotate_left
      · (intro ww hSw; (try dsimp only at hSw); go_simp; try with_reducible rfl)
      (try simp only [Act.put, List.setIfInBounds_toArray, List.set_cons_zero, List.set_cons_succ])
      refine wpAnyH_take (i := 9) (oi := { dst := some 69, op := Op.extract (Operand.tmp 60) 0, type := 22, pos := "ref.go:78", after := #[{ on := 8, ground := Ground.data }], guard := none }) (v := ?_) rfl (by kernel_rfl) (by kernel_rfl) (by kernel_rfl) (fun _ _ _ h => h) (Or.inl ⟨by rfl, ?_⟩) (by assumption) ?_
      rotate_left
      · (intro ww hSw; (try dsimp only at hSw); go_simp; try with_reducible rfl)
      (try simp only [Act.put, List.setIfInBounds_toArray, List.set_cons_zero, List.set_cons_succ])
      refine wpAnyH_take (i := 10) (oi := { dst := some 70, op := Op.extract (Operand.tmp 60) 1, type := 3, pos := "ref.go:78", after := #[{ on := 8, ground := Ground.data }, { on := 13, ground := Ground.gcOnly Departure.lateStores }], guard := none }) (v := ?_) rfl (by kernel_rfl) (by kernel_rfl) (by kernel_rfl) (fun _ _ _ h => h) (Or.inl ⟨by rfl, ?_⟩) (by assumption) ?_
      rotate_left
      · (intro ww hSw; (try dsimp only at hSw); go_simp; try with_reducible rfl)
      (try simp only [Act.put, List.setIfInBounds_toArray, List.set_cons_zero, List.set_cons_succ])
      refine wpAnyH_take (i := 11) (oi := { dst := some 71, op := Op.extract (Operand.tmp 60) 2, type := 9, pos := "ref.go:78", after := #[{ on := 8, ground := Ground.data }, { on := 14, ground := Ground.gcOnly Departure.lateStores }], guard := none }) (v := ?_) rfl (by kernel_rfl) (by kernel_rfl) (by kernel_rfl) (fun _ _ _ h => h) (Or.inl ⟨by rfl, ?_⟩) (by assumption) ?_
      rotate_left
      · (intro ww hSw; (try dsimp only at hSw); go_simp; try with_reducible rfl)
      (try simp only [Act.put, List.setIfInBounds_toArray, List.set_cons_zero, List.set_cons_succ])
      refine wpAnyH_take (i := 12) (oi := { dst := some 72, op := Op.extract (Operand.tmp 60) 3, type := 3, pos := "ref.go:78", after := #[{ on := 8, ground := Ground.data }, { on := 15, ground := Ground.gcOnly Departure.lateStores }], guard := none }) (v := ?_) rfl (by kernel_rfl) (by kernel_rfl) (by kernel_rfl) (fun _ _ _ h => h) (Or.inl ⟨by rfl, ?_⟩) (by assumption) ?_
      rotate_left
      · (intro ww hSw; (try dsimp only at hSw); go_simp; try with_reducible rfl)
      (try simp only [Act.put, List.setIfInBounds_toArray, List.set_cons_zero, List.set_cons_succ])
      refine wpAnyH_take (i := 13) (oi := { dst := some 9, op := Op.assign (Operand.tmp 69), type := 22, pos := "ref.go:78", after := #[{ on := 9, ground := Ground.data }, { on := 7, ground := Ground.chain }, { on := 0, ground := Ground.phase }, { on := 1, ground := Ground.phase }, { on := 2, ground := Ground.phase }, { on := 3, ground := Ground.phase }, { on := 4, ground := Ground.phase }, { on := 5, ground := Ground.phase }, { on := 6, ground := Ground.phase }, { on := 7, ground := Ground.phase }, { on := 8, ground := Ground.phase }, { on := 9, ground := Ground.phase }, { on := 10, ground := Ground.textOnly Departure.lateStores }, { on := 11, ground := Ground.textOnly Departure.lateStores }, { on := 12, ground := Ground.textOnly Departure.lateStores }], guard := none }) (v := ?_) rfl (by kernel_rfl) (by kernel_rfl) (by kernel_rfl) (fun _ _ _ h => h) (Or.inl ⟨by rfl, ?_⟩) (by assumption) ?_
      rotate_left
      · (intro ww hSw; (try dsimp only at hSw); go_simp; try with_reducible rfl)
      (try simp only [Act.put, List.setIfInBounds_toArray, List.set_cons_zero, List.set_cons_succ])
      refine wpAnyH_take (i := 14) (oi := { dst := some 10, op := Op.assign (Operand.tmp 70), type := 3, pos := "ref.go:78", after := #[{ on := 10, ground := Ground.data }, { on := 13, ground := Ground.chain }, { on := 0, ground := Ground.phase }, { on := 1, ground := Ground.phase }, { on := 2, ground := Ground.phase }, { on := 3, ground := Ground.phase }, { on := 4, ground := Ground.phase }, { on := 5, ground := Ground.phase }, { on := 6, ground := Ground.phase }, { on := 7, ground := Ground.phase }, { on := 8, ground := Ground.phase }, { on := 9, ground := Ground.phase }, { on := 10, ground := Ground.phase }, { on := 11, ground := Ground.textOnly Departure.lateStores }, { on := 12, ground := Ground.textOnly Departure.lateStores }, { on := 13, ground := Ground.phase }], guard := none }) (v := ?_) rfl (by kernel_rfl) (by kernel_rfl) (by kernel_rfl) (fun _ _ _ h => h) (Or.inl ⟨by rfl, ?_⟩) (by assumption) ?_
      rotate_left
      · (intro ww hSw; (try dsimp only at hSw); go_simp; try with_reducible rfl)
      (try simp only [Act.put, List.setIfInBounds_toArray, List.set_cons_zero, List.set_cons_succ])
      refine wpAnyH_take (i := 15) (oi := { dst := some 11, op := Op.assign (Operand.tmp 71), type := 9, pos := "ref.go:78", after := #[{ on := 11, ground := Ground.data }, { on := 14, ground := Ground.chain }, { on := 0, ground := Ground.phase }, { on := 1, ground := Ground.phase }, { on := 2, ground := Ground.phase }, { on := 3, ground := Ground.phase }, { on := 4, ground := Ground.phase }, { on := 5, ground := Ground.phase }, { on := 6, ground := Ground.phase }, { on := 7, ground := Ground.phase }, { on := 8, ground := Ground.phase }, { on := 9, ground := Ground.phase }, { on := 10, ground := Ground.phase }, { on := 11, ground := Ground.phase }, { on := 12, ground := Ground.textOnly Departure.lateStores }, { on := 13, ground := Ground.phase }, { on := 14, ground := Ground.phase }], guard := none }) (v := ?_) rfl (by kernel_rfl) (by kernel_rfl) (by kernel_rfl) (fun _ _ _ h => h) (Or.inl ⟨by rfl, ?_⟩) (by assumption) ?_
      rotate_left
      · (intro ww hSw; (try dsimp only at hSw); go_simp; try with_reducible rfl)
      (try simp only [Act.put, List.setIfInBounds_toArray, List.set_cons_zero, List.set_cons_succ])
      refine wpAnyH_take (i := 16) (oi := { dst := some 12, op := Op.assign (Operand.tmp 72), type := 3, pos := "ref.go:78", after := #[{ on := 12, ground := Ground.data }, { on := 15, ground := Ground.chain }, { on := 0, ground := Ground.phase }, { on := 1, ground := Ground.phase }, { on := 2, ground := Ground.phase }, { on := 3, ground := Ground.phase }, { on := 4, ground := Ground.phase }, { on := 5, ground := Ground.phase }, { on := 6, ground := Ground.phase }, { on := 7, ground := Ground.phase }, { on := 8, ground := Ground.phase }, { on := 9, ground := Ground.phase }, { on := 10, ground := Ground.phase }, { on := 11, ground := Ground.phase }, { on := 12, ground := Ground.phase }, { on := 13, ground := Ground.phase }, { on := 14, ground := Ground.phase }, { on := 15, ground := Ground.phase }], guard := none }) (v := ?_) rfl (by kernel_rfl) (by kernel_rfl) (by kernel_rfl) (fun _ _ _ h => h) (Or.inl ⟨by rfl, ?_⟩) (by assumption) ?_
      rotate_left
      · (intro ww hSw; (try dsimp only at hSw); go_simp; try with_reducible rfl)
      (try simp only [Act.put, List.setIfInBounds_toArray, List.set_cons_zero, List.set_cons_succ])
      refine wpAnyH_done (by kernel_rfl) ?_ _
      refine NoPanic.normal ?_
      have HKi := Lib.hid hHeld
      have HOw := Lib.hid hown
      clear hHeld hown j1 j2 j3 ka kl HCh
      have m7 : ((prC s).code != 0) = false := by rw [hc]; rfl
      have hPV : ∀ v, (prP s h40).vals v = ((VH.set 35 v).set 40 (.int .i64 (prC s).proto)).set 41 (.string (prC s).rest) := fun v => by rw [HVH.out]; exact vset_chain _ _ v _ _ _
      have HPV := Lib.hid hPV
      have HPe := Lib.hid (show (prP s h40).exts = (prC s).exts from rfl)
      have HPd := Lib.hid (show (prP s h40).data = (prC s).rest from rfl)
      have hrr := prC_rest s
      have HO1 := Lib.hid (own_one HOw.out)
      have c35 := HKi.out.hd.at (show VH[35]? = some (.slice none 0 0) by rw [HVH.out]; exact vals_tail _ _ 0)
      have c40 := HKi.out.hd.at (show VH[40]? = some (.int .i64 0) by rw [HVH.out]; exact vals_tail _ _ 5)
      have c41 := HKi.out.hd.at (show VH[41]? = some (.string ⟨#[]⟩) by rw [HVH.out]; exact vals_tail _ _ 6)
      have z35 := HKi.out.hd.z 35
      have z40 := HKi.out.hd.z 40
      have z41 := HKi.out.hd.z 41
      have HVHx := HVH
      clear hPV HVH
      generalize prP s h40 = P at *
      generalize prC s = R at *
      obtain ⟨ao, cap, rfl, _⟩ := exs_own HOw.out
      obtain ⟨VP, hVP⟩ : ∃ VP, VP = P.vals (.slice ao R.exts.length cap) := ⟨_, rfl⟩
      have hK5 : Kp w w.heap.size [(b7, 31, VP), (b4, 31, VN), (w.heap.size, 31, Z)] (((w9.setCell ⟨b7, 35, none⟩ (.slice ao R.exts.length cap)).setCell ⟨b7, 40, none⟩ (.int .i64 R.proto)).setCell ⟨b7, 41, none⟩ (.string R.rest)) := by
        have e : VP = ((VH.set 35 (.slice ao R.exts.length cap)).set 40 (.int .i64 R.proto)).set 41 (.string R.rest) := by rw [hVP, HPV.out]
        rw [e]
        exact ((HKi.out.set1 HNE7.out HL7.out 35 _).set1 HNE7.out HL7.out 40 _).set1 HNE7.out HL7.out 41 _
      have HOw5 := Lib.hid (own_set (own_set (own_set HOw.out (Nat.lt_succ_self b7) 35 (.slice ao R.exts.length cap)) (Nat.lt_succ_self b7) 40 (.int .i64 R.proto)) (Nat.lt_succ_self b7) 41 (.string R.rest))
      have HVP := Lib.hid hVP
      have HIVP : Hid ((Try.prog.info? 31).map (·.size) = some VP.length) := Lib.hid (by rw [hVP]; exact Try.info6 _ _)
      have HOVP : Hid (VP.toArray.all (·.oneCell') = true) := Lib.hid (by rw [hVP]; exact vals_one _ _ HO1.out)
      have HLVP : Hid (VP.length = Z.toArray.size) := Lib.hid (by rw [hVP, List.size_toArray, HZ.out, vals_len, vals_len])
      have HK5 := Lib.hid hK5
      clear hVP hK5 HKi HOw HVHx
      go_upto_region 22 with (fail)
      clear c35 c40 c41 z35 z40 z41 m7
      generalize (((w9.setCell ⟨b7, 35, none⟩ (.slice ao R.exts.length cap)).setCell ⟨b7, 40, none⟩ (.int .i64 R.proto)).setCell ⟨b7, 41, none⟩ (.string R.rest)) = w10 at *
      have kp : (R.proto != 44) = false := by rw [HP44.out]; rfl
      have k8 : ¬ (R.rest.size : Int) < 8 := by omega
      have hdd := HPd.out
      generalize R.rest = RT at *
      have HPd2 := Lib.hid hdd
      have g0 : 0 < RT.size := by omega
      have g3 : (3 : Int) < (RT.size : Int) := by omega
      have g8 : (8 : Int) ≤ (RT.size : Int) := by omega
      have N3 : Hid (∀ W, Calls Try.prog 43 #[.string RT, .int .i64 2, .int .i64 2] W fun e w' => e = .returned (.int .i64 (frW RT : Nat)) ∧ Below W.heap.size W w') := Lib.hid (fun W => rnumber_any RT 2 2 W (by omega) (by omega) (by omega))
      have N4 : Hid (∀ W, Calls Try.prog 43 #[.string RT, .int .i64 4, .int .i64 4] W fun e w' => e = .returned (.int .i64 (frI RT : Nat)) ∧ Below W.heap.size W w') := Lib.hid (fun W => rnumber_any RT 4 4 W (by omega) (by omega) (by omega))
      have wr0 := byte_wrap RT[0]
      have wr1 := byte_i64 RT[0]
      have hfw := frW_lt RT
      have hfi := frI_lt RT
      obtain ⟨v1, v2, v3, v5⟩ := div_facts (frW RT) hfw
      have v4 := odd_rem RT (by omega)
      have v6 := u32_wrap (frI RT) hfi
      obtain ⟨mo, hmo⟩ : ∃ mo, mo = ((frW RT : Int) % 2 != 0) := ⟨_, rfl⟩
      have v7 : ((frW RT : Int) % 2 == 1) = mo := by rw [hmo]; exact odd_bit _
      obtain ⟨V1, hV1⟩ : ∃ V1, V1 = (VP.set 36 (.bool true)).set 40 (.int .i64 ((RT[0].toNat : Nat) : Int)) := ⟨_, rfl⟩
      obtain ⟨V2, hV2⟩ : ∃ V2, V2 = (V1.set 38 (.int .i64 ((frW RT : Int) / 8 * 8))).set 39 (.bool mo) := ⟨_, rfl⟩
      obtain ⟨V3, hV3⟩ : ∃ V3, V3 = (V2.set 37 (.int .u32 (frI RT : Nat))).set 41 (.string (RT.extract 8 RT.size)) := ⟨_, rfl⟩
      have hVF : V3 = (frP P).vals (.slice ao R.exts.length cap) := by
        have e1 : VP.set 36 (.bool true) = ({ P with frag := true } : Pk6).vals (.slice ao R.exts.length cap) := by rw [HVP.out]; exact vtail_list P (.slice ao R.exts.length cap) 1 _ _ (.slice ao R.exts.length cap) rfl rfl
        have e2 : V1 = ({ P with frag := true, proto := (byN RT 0 : Nat) } : Pk6).vals (.slice ao R.exts.length cap) := by rw [hV1, e1, ← byN_at RT 0 g0]; exact vtail_list _ (.slice ao R.exts.length cap) 5 _ _ (.slice ao R.exts.length cap) rfl rfl
        have e3 : V1.set 38 (.int .i64 ((frW RT : Int) / 8 * 8)) = ({ P with frag := true, proto := (byN RT 0 : Nat), pl := (frW RT : Int) / 8 * 8 } : Pk6).vals (.slice ao R.exts.length cap) := by rw [e2]; exact vtail_list _ (.slice ao R.exts.length cap) 3 _ _ (.slice ao R.exts.length cap) rfl rfl
        have e4 : V2 = ({ P with frag := true, proto := (byN RT 0 : Nat), pl := (frW RT : Int) / 8 * 8, more := mo } : Pk6).vals (.slice ao R.exts.length cap) := by rw [hV2, e3]; exact vtail_list _ (.slice ao R.exts.length cap) 4 _ _ (.slice ao R.exts.length cap) rfl rfl
        have e5 : V2.set 37 (.int .u32 (frI RT : Nat)) = ({ P with frag := true, proto := (byN RT 0 : Nat), pl := (frW RT : Int) / 8 * 8, more := mo, id := (frI RT : Nat) } : Pk6).vals (.slice ao R.exts.length cap) := by rw [e4]; exact vtail_list _ (.slice ao R.exts.length cap) 2 _ _ (.slice ao R.exts.length cap) rfl rfl
        rw [hV3, e5]
        have e6 : (({ P with frag := true, proto := (byN RT 0 : Nat), pl := (frW RT : Int) / 8 * 8, more := mo, id := (frI RT : Nat) } : Pk6).vals (.slice ao R.exts.length cap)).set 41 (.string (RT.extract 8 RT.size)) = ({ P with frag := true, proto := (byN RT 0 : Nat), pl := (frW RT : Int) / 8 * 8, more := mo, id := (frI RT : Nat), data := RT.extract 8 RT.size } : Pk6).vals (.slice ao R.exts.length cap) := vtail_list _ (.slice ao R.exts.length cap) 6 _ _ (.slice ao R.exts.length cap) rfl rfl
        rw [e6]
        unfold frP
        rw [HPd2.out, hmo]
      have HIV3 : Hid ((Try.prog.info? 31).map (·.size) = some V3.length) := Lib.hid (by rw [hVF]; exact Try.info6 _ _)
      have HOV3 : Hid (V3.toArray.all (·.oneCell') = true) := Lib.hid (by rw [hVF]; exact vals_one _ _ HO1.out)
      have HLV3 : Hid (V3.length = Z.toArray.size) := Lib.hid (by rw [hVF, List.size_toArray, HZ.out, vals_len, vals_len])
      have HV3 := Lib.hid hVF
      have HVs := Lib.hid (And.intro hV1 (And.intro hV2 hV3))
      have HP36 := Lib.hid (show VP[36]? = some (.bool P.frag) by rw [HVP.out]; exact vals_tail _ _ 1)
      have HP37 := Lib.hid (show VP[37]? = some (.int .u32 P.id) by rw [HVP.out]; exact vals_tail _ _ 2)
      have HP38 := Lib.hid (show VP[38]? = some (.int .i64 P.pl) by rw [HVP.out]; exact vals_tail _ _ 3)
      have HP39 := Lib.hid (show VP[39]? = some (.bool P.more) by rw [HVP.out]; exact vals_tail _ _ 4)
      have HP40 := Lib.hid (show VP[40]? = some (.int .i64 P.proto) by rw [HVP.out]; exact vals_tail _ _ 5)
      have HP41 := Lib.hid (show VP[41]? = some (.string P.data) by rw [HVP.out]; exact vals_tail _ _ 6)
      have HQ38 := Lib.hid (show V1[38]? = some (.int .i64 P.pl) by rw [hV1, List.getElem?_set_ne (by decide), List.getElem?_set_ne (by decide)]; exact HP38.out)
      have HQ39 := Lib.hid (show V1[39]? = some (.bool P.more) by rw [hV1, List.getElem?_set_ne (by decide), List.getElem?_set_ne (by decide)]; exact HP39.out)
      have HQ37 := Lib.hid (show V2[37]? = some (.int .u32 P.id) by rw [hV2, hV1, List.getElem?_set_ne (by decide), List.getElem?_set_ne (by decide), List.getElem?_set_ne (by decide), List.getElem?_set_ne (by decide)]; exact HP37.out)
      have HQ41 := Lib.hid (show V2[41]? = some (.string P.data) by rw [hV2, hV1, List.getElem?_set_ne (by decide), List.getElem?_set_ne (by decide), List.getElem?_set_ne (by decide), List.getElem?_set_ne (by decide)]; exact HP41.out)
      have c36 := HK5.out.hd.at HP36.out
      have c40 := HK5.out.hd.at HP40.out
      have z36 := HK5.out.hd.z 36
      have z40 := HK5.out.hd.z 40
      have hK6 : Kp w w.heap.size [(b7, 31, V1), (b4, 31, VN), (w.heap.size, 31, Z)] ((w10.setCell ⟨b7, 36, none⟩ (.bool true)).setCell ⟨b7, 40, none⟩ (.int .i64 ((RT[0].toNat : Nat) : Int))) := by
        rw [hV1]
        exact (HK5.out.set1 HNE7.out HL7.out 36 _).set1 HNE7.out HL7.out 40 _
      have HK6 := Lib.hid hK6
      have HOw6 := Lib.hid (own_set (own_set HOw5.out (Nat.lt_succ_self b7) 36 (.bool true)) (Nat.lt_succ_self b7) 40 (.int .i64 ((RT[0].toNat : Nat) : Int)))
      have HMo := Lib.hid hmo
      clear hK6 hV1 hV2 hV3 hVF HK5 HOw5 hdd hmo
      go_wp2_with fail
      clear c36 c40 z36 z40
      generalize (w10.setCell ⟨b7, 36, none⟩ (.bool true)).setCell ⟨b7, 40, none⟩ (.int .i64 ((RT[0].toNat : Nat) : Int)) = w11 at *
      refine (N3.out _).mono ?_
      rintro e w12 ⟨rfl, b1⟩
      have HK7 := Lib.hid (HK6.out.below b1 (Nat.le_refl _))
      have HOw7 := Lib.hid (own_below HOw6.out b1 (Nat.le_refl _))
      clear b1 HK6 HOw6 N3
      have c38 := HK7.out.hd.at HQ38.out
      have c39 := HK7.out.hd.at HQ39.out
      have z38 := HK7.out.hd.z 38
      have z39 := HK7.out.hd.z 39
      have hK8 : Kp w w.heap.size [(b7, 31, V2), (b4, 31, VN), (w.heap.size, 31, Z)] ((w12.setCell ⟨b7, 38, none⟩ (.int .i64 ((frW RT : Int) / 8 * 8))).setCell ⟨b7, 39, none⟩ (.bool mo)) := by
        rw [HVs.out.2.1]
        exact (HK7.out.set1 HNE7.out HL7.out 38 _).set1 HNE7.out HL7.out 39 _
      have HK8 := Lib.hid hK8
      have HOw8 := Lib.hid (own_set (own_set HOw7.out (Nat.lt_succ_self b7) 38 (.int .i64 ((frW RT : Int) / 8 * 8))) (Nat.lt_succ_self b7) 39 (.bool mo))
      clear hK8 HK7 HOw7
      go_wp2_with fail
      clear c38 c39 z38 z39 v1 v2 v3 v4 v5 v7
      generalize (w12.setCell ⟨b7, 38, none⟩ (.int .i64 ((frW RT : Int) / 8 * 8))).setCell ⟨b7, 39, none⟩ (.bool mo) = w13 at *
      refine (N4.out _).mono ?_
      rintro e w14 ⟨rfl, b1⟩
      have HK9 := Lib.hid (HK8.out.below b1 (Nat.le_refl _))
      have HOw9 := Lib.hid (own_below HOw8.out b1 (Nat.le_refl _))
      clear b1 HK8 HOw8 N4
      have c37 := HK9.out.hd.at HQ37.out
      have c41 := HK9.out.hd.at HQ41.out
      have z37 := HK9.out.hd.z 37
      have z41 := HK9.out.hd.z 41
      have hK10 : Kp w w.heap.size [(b7, 31, V3), (b4, 31, VN), (w.heap.size, 31, Z)] ((w14.setCell ⟨b7, 37, none⟩ (.int .u32 (frI RT : Nat))).setCell ⟨b7, 41, none⟩ (.string (RT.extract 8 RT.size))) := by
        rw [HVs.out.2.2]
        exact (HK9.out.set1 HNE7.out HL7.out 37 _).set1 HNE7.out HL7.out 41 _
      have HK10 := Lib.hid hK10
      have HOw10 := Lib.hid (own_set (own_set HOw9.out (Nat.lt_succ_self b7) 37 (.int .u32 (frI RT : Nat))) (Nat.lt_succ_self b7) 41 (.string (RT.extract 8 RT.size)))
      clear hK10 HK9 HOw9
      go_upto_region 32 with (fail)
      clear c37 c41 z37 z41 v6
      generalize (w14.setCell ⟨b7, 37, none⟩ (.int .u32 (frI RT : Nat))).setCell ⟨b7, 41, none⟩ (.string (RT.extract 8 RT.size)) = w15 at *
      have e38 := HK10.out.hd.at (show V3[38]? = some (.int .i64 (frP P).pl) by rw [HV3.out]; exact vals_tail _ _ 3)
      have e39 := HK10.out.hd.at (show V3[39]? = some (.bool (frP P).more) by rw [HV3.out]; exact vals_tail _ _ 4)
      have e41 := HK10.out.hd.at (show V3[41]? = some (.string (frP P).data) by rw [HV3.out]; exact vals_tail _ _ 6)
      have hpl0 : 0 ≤ (frP P).pl ∧ (frP P).pl ≤ 65535 := by show 0 ≤ (frW P.data : Int) / 8 * 8 ∧ (frW P.data : Int) / 8 * 8 ≤ 65535; rw [HPd2.out]; omega
      have hds : (frP P).data.size ≤ 65535 := by show (P.data.extract 8 P.data.size).size ≤ 65535; rw [HPd2.out]; simp; omega
      have HPie := Lib.hid (show (frP P).piece = (!(frP P).more || (decide (0 < (frP P).data.size) && (frP P).data.size % 8 == 0)) from rfl)
      have HRch := Lib.hid (show (frP P).rch = decide ((frP P).pl + (frP P).data.size ≤ 65535) from rfl)
      have HFe := Lib.hid (show (frP P).exts = P.exts from rfl)
      generalize frP P = Q at *
      have n1 : IntKind.i64.wrap (Q.pl + (Q.data.size : Int)) = Q.pl + (Q.data.size : Int) := IntWalk.i64_in _ (by omega)
      have n2 : (Q.data.size : Int).tmod 8 = (Q.data.size : Int) % 8 := Int.tmod_eq_emod_of_nonneg (by omega)
      have n3 : IntKind.i64.wrap ((Q.data.size : Int) % 8) = (Q.data.size : Int) % 8 := IntWalk.i64_in _ (by omega)
      have hq : Q.pl + (Q.data.size : Int) ≤ 65535 := by have := hrc; rw [HRch.out] at this; exact of_decide_eq_true this
      have n4 : ¬ (65535 : Int) < Q.pl + (Q.data.size : Int) := by omega
      have n4' : decide ((65535 : Int) < Q.pl + (Q.data.size : Int)) = false := decide_eq_false n4
      cases hm : Q.more
      · rw [hm] at e39
        clear hm hpc hrc hq
        go_upto_region 34 with (fail)
        have hrg := HK10.out.hd.range
        have htf : w15.there w.heap.size 0 V3.toArray.size := (HK10.out.1 (w.heap.size, 31, Z) (by simp)).there _ (by rw [List.size_toArray, HLV3.out]; exact Nat.le_refl _)
        go_wp2_with (first | (refine wpList_load_mid rfl 31 _ rfl b7 0 rfl V3 _ hrg Try.underlying31 rfl HIV3.out ?_) | (refine wpList_store_mid rfl 31 _ _ rfl w.heap.size 0 V3.toArray rfl rfl htf HIV3.out HOV3.out ?_))
        have hk5 := Bk.sets V3 0 _ _ (HK10.out.1 (w.heap.size, 31, Z) (by simp))
        rw [puts_whole Z.toArray V3 HLV3.out] at hk5
        refine bodyPost_ret (v := .tuple #[.agg V3.toArray, .int .i64 0]) ?_ rfl ?_
        · exact results_cell2 rfl rfl rfl (run_loadVar_mid _ w.heap.size 0 31 V3 _ hk5.range Try.underlying31 rfl HIV3.out)
        · refine ⟨_, by rw [HV3.out], ?_, below_sets _ (Nat.le_refl _) 0 _ HK10.out.2.1⟩
          rw [HFe.out, HPe.out]
          have hl7 := HL7.out
          exact own_le (own_sets HOw10.out (by omega) V3 0) (by omega)
      · rw [hm] at e39
        rw [HPie.out, hm] at hpc
        have hz : 0 < Q.data.size ∧ Q.data.size % 8 = 0 := by simpa using hpc
        have n5 : ((Q.data.size : Int) == 0) = false := by rw [beq_eq_false_iff_ne]; omega
        have n6 : ((Q.data.size : Int) % 8 != 0) = false := by rw [show (Q.data.size : Int) % 8 = 0 by omega]; rfl
        clear hm hpc hrc hz hq
        go_upto_region 34 with (fail)
        have hrg := HK10.out.hd.range
        have htf : w15.there w.heap.size 0 V3.toArray.size := (HK10.out.1 (w.heap.size, 31, Z) (by simp)).there _ (by rw [List.size_toArray, HLV3.out]; exact Nat.le_refl _)
        go_wp2_with (first | (refine wpList_load_mid rfl 31 _ rfl b7 0 rfl V3 _ hrg Try.underlying31 rfl HIV3.out ?_) | (refine wpList_store_mid rfl 31 _ _ rfl w.heap.size 0 V3.toArray rfl rfl htf HIV3.out HOV3.out ?_))
        have hk5 := Bk.sets V3 0 _ _ (HK10.out.1 (w.heap.size, 31, Z) (by simp))
        rw [puts_whole Z.toArray V3 HLV3.out] at hk5
        refine bodyPost_ret (v := .tuple #[.agg V3.toArray, .int .i64 0]) ?_ rfl ?_
        · exact results_cell2 rfl rfl rfl (run_loadVar_mid _ w.heap.size 0 31 V3 _ hk5.range Try.underlying31 rfl HIV3.out)
        · refine ⟨_, by rw [HV3.out], ?_, below_sets _ (Nat.le_refl _) 0 _ HK10.out.2.1⟩
          rw [HFe.out, HPe.out]
          have hl7 := HL7.out
          exact own_le (own_sets HOw10.out (by omega) V3 0) (by omega)
end Go.Proofs.Ytphemimpkbjfoaa
