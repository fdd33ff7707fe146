/-
  Proved here: the law Ip6Again answers true, and leaves old memory as it was.
  Conditions: none.
-/
import Derived.Test.YtphemimpkbjfoaaParsed
namespace Go.Proofs.Ytphemimpkbjfoaa
open Go.RowKit

theorem two_loads {w0 w : World} {B b c : Nat} {T : TypeId} {V1 V2 : List Value} {d : ByteArray} (h41 : V1[41]? = some (.string d)) (h : Kp w0 B [(c, T, V2), (b, T, V1)] w) :
    Kp w0 B [(c, T, V2), (b, T, V1)] w ∧ w.rangeAt b 0 V1 ∧ w.rangeAt c 0 V2 ∧ w.cell? ⟨b, 41, none⟩ = some (.string d) :=
  ⟨h, (h.1 (b, T, V1) (by simp)).range, h.hd.range, (h.1 (b, T, V1) (by simp)).at h41⟩
set_option maxRecDepth 100000 in
set_option maxHeartbeats 400000 in
theorem ip6Again_long (s : ByteArray) (w : World) (h : 70000 < s.size) :
    Calls Try.prog 8 #[.string s] w fun e w' => e = .returned (.bool true) ∧ Below w.heap.size w w' := by
  have hI : (70000 : Int) < (s.size : Int) := by omega
  clear h
  go_enter Try.func8, Try.ntmps8
  go_wp2_with fail
  refine (awake_true w).mono ?_
  rintro e w1 ⟨rfl, b1⟩
  have HB := Lib.hid b1
  clear b1
  go_wp2_with fail
  go_ret
  exact ⟨rfl, HB.out⟩
set_option maxRecDepth 100000 in
set_option maxHeartbeats 1000000 in
theorem ip6Again_bad (s : ByteArray) (w : World) (h : ¬ 70000 < s.size) (hc : pcode s ≠ 0) :
    Calls Try.prog 8 #[.string s] w fun e w' => e = .returned (.bool true) ∧ Below w.heap.size w w' := by
  have hI : ¬ (70000 : Int) < (s.size : Int) := by omega
  have C1 := Lib.hid (fun W => parse_bad s W (by omega) hc)
  clear h hc
  generalize pcode s = c at *
  obtain ⟨Z, hZ⟩ : ∃ Z, Z = pk0.vals (.slice none 0 0) := ⟨_, rfl⟩
  have hz0 : Z.toArray = #[.int .i64 0, .int .i64 0, .int .i64 0, .int .u8 0, .int .u8 0, .int .u8 0, .int .u8 0, .int .u8 0, .int .u8 0, .int .u8 0, .int .u8 0, .int .u8 0, .int .u8 0, .int .u8 0, .int .u8 0, .int .u8 0, .int .u8 0, .int .u8 0, .int .u8 0, .int .u8 0, .int .u8 0, .int .u8 0, .int .u8 0, .int .u8 0, .int .u8 0, .int .u8 0, .int .u8 0, .int .u8 0, .int .u8 0, .int .u8 0, .int .u8 0, .int .u8 0, .int .u8 0, .int .u8 0, .int .u8 0, .slice none 0 0, .bool false, .int .u32 0, .int .i64 0, .bool false, .int .i64 0, .string ⟨#[]⟩] := by rw [hZ]; exact pk0_vals
  have HZ := Lib.hid hZ
  have HZ0 := Lib.hid hz0
  have HZl : Hid (∀ (p : Pk6) (v : Value), (p.vals v).length = Z.toArray.size) := Lib.hid (fun p v => by rw [List.size_toArray, hZ, vals_len, vals_len])
  have HEX : Hid (∀ (ρ : Operand → Value) (d : Option Tmp) (ty : TypeId) (ps : String) (af : Array Edge) (W : World), (execOp ρ { dst := d, op := .build 31 #[], type := ty, pos := ps, after := af, guard := none }).run Try.prog W = .ok (.value (.agg Z.toArray)) W) := Lib.hid (fun ρ d ty ps af W => by rw [hZ]; exact Try.execZ6 ρ d ty ps af W)
  have HIf : Hid ((Try.prog.info? 31).map (·.size) = some Z.length) := Lib.hid (by rw [hZ]; exact Try.info6 _ _)
  have HOf : Hid (Z.toArray.all (·.oneCell') = true) := Lib.hid (by rw [hZ]; exact vals_one _ _ rfl)
  have HS : Hid (∀ W, Calls Try.prog 23 #[.agg Z.toArray, .agg Z.toArray] W fun e w' => e = .returned (.bool true) ∧ Below W.heap.size W w') := Lib.hid (fun W => by rw [hZ]; exact rsame_true pk0 _ _ W (exs_nil W) (exs_nil W) (by decide))
  clear hZ hz0
  go_enter Try.func8, Try.ntmps8
  go_wp2_with fail
  refine (awake_true w).mono ?_
  rintro e w1 ⟨rfl, b1⟩
  have HK1 := Lib.hid ((Kp.start w).below b1 (Nat.le_refl _))
  clear b1
  go_wp2_with fail
  refine (C1.out w1).mono ?_
  rintro e w2 ⟨f, rfl, hfl, hle, b2⟩
  rw [← HZ.out]
  have HK2 := Lib.hid (HK1.out.below b2 (Nat.le_refl _))
  clear b2 hfl hle HK1
  obtain ⟨VF, hVF⟩ : ∃ VF, VF = Z := ⟨_, rfl⟩
  rw [← hVF]
  rw [← hVF] at HIf HOf
  have HVF := Lib.hid hVF
  clear hVF
  have HLf : Hid (VF.length = Z.toArray.size) := Lib.hid (by rw [HVF.out]; simp)
  have HK3 := Lib.hid (HK2.out.put 31 Z.toArray VF HLf.out)
  have ht : (w2.alloc (.cells Z.toArray 31)).there w2.heap.size 0 VF.toArray.size := (bk_new w2 31 Z.toArray).there _ (by rw [List.size_toArray, HLf.out]; exact Nat.le_refl _)
  have hbn : Below w2.heap.size w2 ((w2.alloc (.cells Z.toArray 31)).setCells w2.heap.size 0 VF) := below_sets _ (Nat.le_refl _) 0 _ ((Below.refl _ _).alloc (Nat.le_refl _) _)
  generalize hwn : (w2.alloc (.cells Z.toArray 31)).setCells w2.heap.size 0 VF = w3 at *
  rw [HZ0.out] at hwn ht
  clear HLf
  have hrg := HK3.out.hd.range
  go_upto_region 6 with (refine wpList_store_mid rfl 31 _ _ rfl w2.heap.size 0 VF.toArray rfl rfl ht HIf.out HOf.out ?_)
  try rw [hwn]
  clear hwn ht hbn
  go_wp2_with (first | (refine Great.wpList_readTo rfl _ rfl (.agg Z.toArray) (HEX.out _ _ _ _ _ _) ?_) | (refine wpList_load_mid rfl 31 _ rfl w2.heap.size 0 rfl VF _ hrg Try.underlying31 rfl HIf.out ?_))
  rw [HVF.out]
  refine (HS.out _).mono ?_
  rintro e w4 ⟨rfl, b4⟩
  have HB4 := Lib.hid (HK3.out.2.1.trans (b4.mono HK3.out.2.2))
  clear b4 HK3 hrg
  go_wp2_with fail
  go_ret
  exact ⟨rfl, HB4.out⟩
set_option maxRecDepth 100000 in
set_option maxHeartbeats 1000000 in
theorem ip6Again_main (s : ByteArray) (w : World) (h : ¬ 70000 < s.size) (hc : pcode s = 0) :
    Calls Try.prog 8 #[.string s] w fun e w' => e = .returned (.bool true) ∧ Below w.heap.size w w' := by
  have hI : ¬ (70000 : Int) < (s.size : Int) := by omega
  have C1 := Lib.hid (fun W => parse_ok s W (by omega) hc)
  have P := parsed s hc
  generalize ppkt s = p at *
  have hw := why_of P.ok
  have hpb := parse_back p hw P.id ⟨#[]⟩
  have hE : p.bytes ++ (⟨#[]⟩ : ByteArray) = p.bytes := by apply ba_ext; simp
  rw [hE] at hpb
  have hbz := bytes_size p
  have hft := P.fits
  have hal := P.all
  have hds : p.data.size ≤ p.behind := by unfold Pk6.behind; omega
  have C2 := Lib.hid (fun (W : World) (v : Value) (hx : Exs W v p.exts) => bytes_ok p v W hx P.small hw P.id)
  have C3 := Lib.hid (fun W => parse_ok p.bytes W (by omega) hpb.1)
  rw [hpb.2] at C3
  have h40 := P.h40
  have hE7 := first_seven P
  have hED := last_data p
  have hPl := P.ok.len
  have C4 := Lib.hid (fun (W : World) (v v' : Value) (hx : Exs W v p.exts) (hx' : Exs W v' p.exts) => rsame_true p v v' W hx hx' (by omega))
  obtain ⟨k, hk⟩ : ∃ k, k = p.bytes.size - p.data.size := ⟨_, rfl⟩
  rw [← hk] at hED
  have hle : (p.bytes.size : Int) ≤ (s.size : Int) := by omega
  have h7a : (7 : Int) ≤ (p.bytes.size : Int) := by omega
  have h7b : (7 : Int) ≤ (s.size : Int) := by omega
  have hkk : (p.bytes.size : Int) - (p.data.size : Int) = (k : Int) := by omega
  have hk1 : (k : Int) ≤ (p.bytes.size : Int) := by omega
  have hbs : p.bytes.size ≤ 70000 := by omega
  have hdz : p.data.size ≤ 70000 := by omega
  clear h hc P hw hpb hE hbz hft hal hds h40 hk hPl
  generalize hB : p.bytes = Bs at *
  clear hB
  obtain ⟨Z, hZ⟩ : ∃ Z, Z = pk0.vals (.slice none 0 0) := ⟨_, rfl⟩
  have hz0 : Z.toArray = #[.int .i64 0, .int .i64 0, .int .i64 0, .int .u8 0, .int .u8 0, .int .u8 0, .int .u8 0, .int .u8 0, .int .u8 0, .int .u8 0, .int .u8 0, .int .u8 0, .int .u8 0, .int .u8 0, .int .u8 0, .int .u8 0, .int .u8 0, .int .u8 0, .int .u8 0, .int .u8 0, .int .u8 0, .int .u8 0, .int .u8 0, .int .u8 0, .int .u8 0, .int .u8 0, .int .u8 0, .int .u8 0, .int .u8 0, .int .u8 0, .int .u8 0, .int .u8 0, .int .u8 0, .int .u8 0, .int .u8 0, .slice none 0 0, .bool false, .int .u32 0, .int .i64 0, .bool false, .int .i64 0, .string ⟨#[]⟩] := by rw [hZ]; exact pk0_vals
  have HZ := Lib.hid hZ
  have HZ0 := Lib.hid hz0
  have HZl : Hid (∀ (p : Pk6) (v : Value), (p.vals v).length = Z.toArray.size) := Lib.hid (fun p v => by rw [List.size_toArray, hZ, vals_len, vals_len])
  clear hZ hz0
  go_enter Try.func8, Try.ntmps8
  go_wp2_with fail
  refine (awake_true w).mono ?_
  rintro e w1 ⟨rfl, b1⟩
  have HK1 := Lib.hid ((Kp.start w).below b1 (Nat.le_refl _))
  clear b1
  go_wp2_with fail
  refine (C1.out w1).mono ?_
  rintro e w2 ⟨v, rfl, hown, b2⟩
  have HK2 := Lib.hid (HK1.out.below b2 (Nat.le_refl _))
  obtain ⟨VE, hVE⟩ : ∃ VE, VE = p.vals v := ⟨_, rfl⟩
  rw [← hVE]
  have HIe : Hid ((Try.prog.info? 31).map (·.size) = some VE.length) := Lib.hid (by rw [hVE]; exact Try.info6 _ _)
  have HOe : Hid (VE.toArray.all (·.oneCell') = true) := Lib.hid (by rw [hVE]; exact vals_one _ _ (own_one hown))
  have HX2 := Lib.hid (exs_own hown)
  have HVE := Lib.hid hVE
  clear hown b2 hVE HK1
  have HLf : Hid (VE.length = Z.toArray.size) := Lib.hid (by rw [HVE.out]; exact HZl.out _ _)
  have HK3 := Lib.hid (HK2.out.put 31 Z.toArray VE HLf.out)
  have ht : (w2.alloc (.cells Z.toArray 31)).there w2.heap.size 0 VE.toArray.size := (bk_new w2 31 Z.toArray).there _ (by rw [List.size_toArray, HLf.out]; exact Nat.le_refl _)
  have hbn : Below w2.heap.size w2 ((w2.alloc (.cells Z.toArray 31)).setCells w2.heap.size 0 VE) := below_sets _ (Nat.le_refl _) 0 _ ((Below.refl _ _).alloc (Nat.le_refl _) _)
  generalize hwn : (w2.alloc (.cells Z.toArray 31)).setCells w2.heap.size 0 VE = w3 at *
  rw [HZ0.out] at hwn ht
  clear HLf
  have HX3 := Lib.hid (HX2.out.below hbn (Nat.le_refl _))
  have hrg := HK3.out.hd.range
  go_upto_region 6 with (refine wpList_store_mid rfl 31 _ _ rfl w2.heap.size 0 VE.toArray rfl rfl ht HIe.out HOe.out ?_)
  try rw [hwn]
  clear hwn ht hbn HX2 HK2
  go_wp2_with (refine wpList_load_mid rfl 31 _ rfl w2.heap.size 0 rfl VE _ hrg Try.underlying31 rfl HIe.out ?_)
  rw [HVE.out]
  refine (C2.out w3 v HX3.out).mono ?_
  rintro e w4 ⟨rfl, b4⟩
  rw [← HVE.out]
  have HK4 := Lib.hid (HK3.out.below b4 (Nat.le_refl _))
  have HX4 := Lib.hid (HX3.out.below b4 (Nat.le_refl _))
  clear b4 HK3 HX3 hrg
  go_wp2_with fail
  refine (C3.out w4).mono ?_
  rintro e w5 ⟨v', rfl, hown, b5⟩
  have HK5 := Lib.hid (HK4.out.below b5 (Nat.le_refl _))
  have HX5 := Lib.hid (HX4.out.below b5 (Nat.le_refl _))
  obtain ⟨VF, hVF⟩ : ∃ VF, VF = p.vals v' := ⟨_, rfl⟩
  rw [← hVF]
  have HIf : Hid ((Try.prog.info? 31).map (·.size) = some VF.length) := Lib.hid (by rw [hVF]; exact Try.info6 _ _)
  have HOf : Hid (VF.toArray.all (·.oneCell') = true) := Lib.hid (by rw [hVF]; exact vals_one _ _ (own_one hown))
  have HY5 := Lib.hid (exs_own hown)
  have HVF := Lib.hid hVF
  clear hown b5 hVF HK4 HX4
  have HLf : Hid (VF.length = Z.toArray.size) := Lib.hid (by rw [HVF.out]; exact HZl.out _ _)
  have HK6 := Lib.hid (HK5.out.put 31 Z.toArray VF HLf.out)
  have ht : (w5.alloc (.cells Z.toArray 31)).there w5.heap.size 0 VF.toArray.size := (bk_new w5 31 Z.toArray).there _ (by rw [List.size_toArray, HLf.out]; exact Nat.le_refl _)
  have hbn : Below w5.heap.size w5 ((w5.alloc (.cells Z.toArray 31)).setCells w5.heap.size 0 VF) := below_sets _ (Nat.le_refl _) 0 _ ((Below.refl _ _).alloc (Nat.le_refl _) _)
  generalize hwn : (w5.alloc (.cells Z.toArray 31)).setCells w5.heap.size 0 VF = w6 at *
  rw [HZ0.out] at hwn ht
  clear HLf
  have HX6 := Lib.hid (HX5.out.below hbn (Nat.le_refl _))
  have HY6 := Lib.hid (HY5.out.below hbn (Nat.le_refl _))
  go_upto_region 10 with (refine wpList_store_mid rfl 31 _ _ rfl w5.heap.size 0 VF.toArray rfl rfl ht HIf.out HOf.out ?_)
  try rw [hwn]
  clear hwn ht hbn HX5 HY5 HK5
  have h41 : VE[41]? = some (.string p.data) := by rw [HVE.out]; exact vals_tail p v 6
  have HSm : Hid (∀ W, Below w6.heap.size w6 W → Calls Try.prog 23 #[.agg VE.toArray, .agg VF.toArray] W fun e w' => e = .returned (.bool true) ∧ Below W.heap.size W w') := Lib.hid (fun W hW => by rw [HVE.out, HVF.out]; exact C4.out W v v' (HX6.out.below hW (Nat.le_refl _)) (HY6.out.below hW (Nat.le_refl _)))
  generalize w5.heap.size = b2 at *
  generalize w2.heap.size = b1 at *
  generalize p.data = dt at *
  have kw : IntKind.i64.wrap (k : Int) = (k : Int) := IntWalk.i64_in _ (by omega)
  clear HVE HVF HX6 HY6 C1 C2 C3 C4
  refine wp_region_noPanic ?_
  refine wp_region_held_drew (S := fun w' => Kp w w.heap.size [(b2, 31, VF), (b1, 31, VE)] w' ∧ w'.rangeAt b1 0 VE ∧ w'.rangeAt b2 0 VF ∧ w'.cell? ⟨b1, 41, none⟩ = some (.string dt)) (by kernel_rfl) (two_loads h41 HK6.out.drew) (fun hHeld => ?_)
  refine wpAnyH_take (i := 0) (oi := { dst := some 34, op := Op.move (Operand.tmp 6), type := 24, pos := "outright.go:40", after := #[], guard := none }) (v := ?_) rfl (by kernel_rfl) (by kernel_rfl) (by kernel_rfl) (fun _ _ _ h => h) (Or.inl ⟨by rfl, ?_⟩) (by assumption) ?_
  rotate_left
  · (intro ww hSw; (try dsimp only at hSw); go_simp; try with_reducible rfl)
  (try simp only [Act.put, List.setIfInBounds_toArray, List.set_cons_zero, List.set_cons_succ])
  refine wpAnyH_take (i := 1) (oi := { dst := some 35, op := Op.binOp BinOp.eql 24 (Operand.tmp 34) (Operand.const Value.nilIface) 24, type := 4, pos := "outright.go:40", after := #[{ on := 0, ground := Ground.data }], guard := none }) (v := ?_) rfl (by kernel_rfl) (by kernel_rfl) (by kernel_rfl) (fun _ _ _ h => h) (Or.inl ⟨by rfl, ?_⟩) (by assumption) ?_
  rotate_left
  · (intro ww hSw; (try dsimp only at hSw); go_simp; try with_reducible rfl)
  (try simp only [Act.put, List.setIfInBounds_toArray, List.set_cons_zero, List.set_cons_succ])
  refine wpAnyH_take (i := 2) (oi := { dst := some 36, op := Op.move (Operand.tmp 35), type := 4, pos := "outright.go:40", after := #[{ on := 1, ground := Ground.data }], guard := none }) (v := ?_) rfl (by kernel_rfl) (by kernel_rfl) (by kernel_rfl) (fun _ _ _ h => h) (Or.inl ⟨by rfl, ?_⟩) (by assumption) ?_
  rotate_left
  · (intro ww hSw; (try dsimp only at hSw); go_simp; try with_reducible rfl)
  (try simp only [Act.put, List.setIfInBounds_toArray, List.set_cons_zero, List.set_cons_succ])
  refine wpAnyH_take (i := 3) (oi := { dst := some 37, op := Op.move (Operand.tmp 8), type := 24, pos := "outright.go:40", after := #[{ on := 2, ground := Ground.guard }], guard := some (2, true) }) (v := ?_) rfl (by kernel_rfl) (by kernel_rfl) (by kernel_rfl) (fun _ _ _ h => h) (Or.inl ⟨by rfl, ?_⟩) (by assumption) ?_
  rotate_left
  · (intro ww hSw; (try dsimp only at hSw); go_simp; try with_reducible rfl)
  (try simp only [Act.put, List.setIfInBounds_toArray, List.set_cons_zero, List.set_cons_succ])
  refine wpAnyH_take (i := 4) (oi := { dst := some 38, op := Op.binOp BinOp.eql 24 (Operand.tmp 37) (Operand.const Value.nilIface) 24, type := 4, pos := "outright.go:40", after := #[{ on := 3, ground := Ground.data }, { on := 2, ground := Ground.guard }], guard := some (2, true) }) (v := ?_) rfl (by kernel_rfl) (by kernel_rfl) (by kernel_rfl) (fun _ _ _ h => h) (Or.inl ⟨by rfl, ?_⟩) (by assumption) ?_
  rotate_left
  · (intro ww hSw; (try dsimp only at hSw); go_simp; try with_reducible rfl)
  (try simp only [Act.put, List.setIfInBounds_toArray, List.set_cons_zero, List.set_cons_succ])
  refine wpAnyH_take (i := 5) (oi := { dst := some 39, op := Op.pick (Operand.tmp 36) (Operand.tmp 38) (Operand.const (Value.bool false)), type := 4, pos := "outright.go:40", after := #[{ on := 2, ground := Ground.data }, { on := 4, ground := Ground.data }], guard := none }) (v := ?_) rfl (by kernel_rfl) (by kernel_rfl) (by kernel_rfl) (fun _ _ _ h => h) (Or.inl ⟨by rfl, ?_⟩) (by assumption) ?_
  rotate_left
  · (intro ww hSw; (try dsimp only at hSw); go_simp; try with_reducible rfl)
  (try simp only [Act.put, List.setIfInBounds_toArray, List.set_cons_zero, List.set_cons_succ])
  refine wpAnyH_take (i := 6) (oi := { dst := some 40, op := Op.move (Operand.tmp 39), type := 4, pos := "outright.go:40", after := #[{ on := 5, ground := Ground.data }, { on := 2, ground := Ground.chain }], guard := none }) (v := ?_) rfl (by kernel_rfl) (by kernel_rfl) (by kernel_rfl) (fun _ _ _ h => h) (Or.inl ⟨by rfl, ?_⟩) (by assumption) ?_
  rotate_left
  · (intro ww hSw; (try dsimp only at hSw); go_simp; try with_reducible rfl)
  (try simp only [Act.put, List.setIfInBounds_toArray, List.set_cons_zero, List.set_cons_succ])
  refine wpAnyH_take (i := 7) (oi := { dst := some 41, op := Op.load 31 (Operand.tmp 3), type := 31, pos := "outright.go:40", after := #[{ on := 6, ground := Ground.guard }], guard := some (6, true) }) (v := .agg (VE).toArray) rfl (by kernel_rfl) (by kernel_rfl) (by kernel_rfl) (fun _ _ _ h => h) (yieldsIf_load_mid (by rfl) _ _ rfl (b1) 0 rfl (VE) _ (fun ww hSw => hSw.2.1) Try.underlying31 rfl HIe.out) (by assumption) ?_
  (try simp only [Act.put, List.setIfInBounds_toArray, List.set_cons_zero, List.set_cons_succ])
  refine wpAnyH_take (i := 8) (oi := { dst := some 42, op := Op.load 31 (Operand.tmp 7), type := 31, pos := "outright.go:40", after := #[{ on := 6, ground := Ground.guard }], guard := some (6, true) }) (v := .agg (VF).toArray) rfl (by kernel_rfl) (by kernel_rfl) (by kernel_rfl) (fun _ _ _ h => h) (yieldsIf_load_mid (by rfl) _ _ rfl (b2) 0 rfl (VF) _ (fun ww hSw => hSw.2.2.1) Try.underlying31 rfl HIf.out) (by assumption) ?_
  (try simp only [Act.put, List.setIfInBounds_toArray, List.set_cons_zero, List.set_cons_succ])
  refine wpAnyH_ready (rs := [9]) (by kernel_rfl) (by simp) ?_
  refine AllReadyH.cons (o := { dst := some 43, op := Op.call { callee := Callee.value (Operand.func 23), args := #[Operand.tmp 41, Operand.tmp 42], argTypes := #[31, 31] }, type := 4, pos := "outright.go:40", after := #[{ on := 7, ground := Ground.data }, { on := 8, ground := Ground.data }, { on := 6, ground := Ground.chain }, { on := 6, ground := Ground.guard }], guard := some (6, true) }) rfl (fun K hK => ?_) AllReadyH.nil
  go_simp
  ((with_reducible refine (HSm.out _ (Below.refl _ w6).drew).mono ?_); rintro e w9 ⟨rfl, hb9⟩)
  refine hK.out _ _ (two_loads h41 ((And.left hHeld).below hb9 (Nat.le_refl _))) (fun hHeld => ?_)
  clear hK K
  (try simp only [Act.put, List.setIfInBounds_toArray, List.set_cons_zero, List.set_cons_succ])
  refine wpAnyH_take (i := 10) (oi := { dst := some 44, op := Op.pick (Operand.tmp 40) (Operand.tmp 43) (Operand.const (Value.bool false)), type := 4, pos := "outright.go:40", after := #[{ on := 6, ground := Ground.data }, { on := 9, ground := Ground.data }], guard := none }) (v := ?_) rfl (by kernel_rfl) (by kernel_rfl) (by kernel_rfl) (fun _ _ _ h => h) (Or.inl ⟨by rfl, ?_⟩) (by assumption) ?_
  rotate_left
  · (intro ww hSw; (try dsimp only at hSw); go_simp; try with_reducible rfl)
  (try simp only [Act.put, List.setIfInBounds_toArray, List.set_cons_zero, List.set_cons_succ])
  refine wpAnyH_take (i := 11) (oi := { dst := some 45, op := Op.move (Operand.tmp 44), type := 4, pos := "outright.go:40", after := #[{ on := 10, ground := Ground.data }, { on := 9, ground := Ground.chain }], guard := none }) (v := ?_) rfl (by kernel_rfl) (by kernel_rfl) (by kernel_rfl) (fun _ _ _ h => h) (Or.inl ⟨by rfl, ?_⟩) (by assumption) ?_
  rotate_left
  · (intro ww hSw; (try dsimp only at hSw); go_simp; try with_reducible rfl)
  (try simp only [Act.put, List.setIfInBounds_toArray, List.set_cons_zero, List.set_cons_succ])
  refine wpAnyH_take (i := 12) (oi := { dst := some 46, op := Op.move (Operand.tmp 5), type := 9, pos := "outright.go:40", after := #[{ on := 11, ground := Ground.guard }], guard := some (11, true) }) (v := ?_) rfl (by kernel_rfl) (by kernel_rfl) (by kernel_rfl) (fun _ _ _ h => h) (Or.inl ⟨by rfl, ?_⟩) (by assumption) ?_
  rotate_left
  · (intro ww hSw; (try dsimp only at hSw); go_simp; try with_reducible rfl)
  (try simp only [Act.put, List.setIfInBounds_toArray, List.set_cons_zero, List.set_cons_succ])
  refine wpAnyH_take (i := 13) (oi := { dst := some 47, op := Op.call { callee := Callee.builtin Builtin.len, args := #[Operand.tmp 46], argTypes := #[9] }, type := 3, pos := "outright.go:40", after := #[{ on := 12, ground := Ground.data }, { on := 11, ground := Ground.guard }], guard := some (11, true) }) (v := ?_) rfl (by kernel_rfl) (by kernel_rfl) (by kernel_rfl) (fun _ _ _ h => h) (Or.inl ⟨by rfl, ?_⟩) (by assumption) ?_
  rotate_left
  · (intro ww hSw; (try dsimp only at hSw); go_simp; try with_reducible rfl)
  (try simp only [Act.put, List.setIfInBounds_toArray, List.set_cons_zero, List.set_cons_succ])
  refine wpAnyH_take (i := 14) (oi := { dst := some 48, op := Op.move (Operand.tmp 0), type := 9, pos := "outright.go:40", after := #[{ on := 11, ground := Ground.guard }], guard := some (11, true) }) (v := ?_) rfl (by kernel_rfl) (by kernel_rfl) (by kernel_rfl) (fun _ _ _ h => h) (Or.inl ⟨by rfl, ?_⟩) (by assumption) ?_
  rotate_left
  · (intro ww hSw; (try dsimp only at hSw); go_simp; try with_reducible rfl)
  (try simp only [Act.put, List.setIfInBounds_toArray, List.set_cons_zero, List.set_cons_succ])
  refine wpAnyH_take (i := 15) (oi := { dst := some 49, op := Op.call { callee := Callee.builtin Builtin.len, args := #[Operand.tmp 48], argTypes := #[9] }, type := 3, pos := "outright.go:40", after := #[{ on := 14, ground := Ground.data }, { on := 11, ground := Ground.guard }], guard := some (11, true) }) (v := ?_) rfl (by kernel_rfl) (by kernel_rfl) (by kernel_rfl) (fun _ _ _ h => h) (Or.inl ⟨by rfl, ?_⟩) (by assumption) ?_
  rotate_left
  · (intro ww hSw; (try dsimp only at hSw); go_simp; try with_reducible rfl)
  (try simp only [Act.put, List.setIfInBounds_toArray, List.set_cons_zero, List.set_cons_succ])
  refine wpAnyH_take (i := 16) (oi := { dst := some 50, op := Op.binOp BinOp.leq 3 (Operand.tmp 47) (Operand.tmp 49) 3, type := 4, pos := "outright.go:40", after := #[{ on := 13, ground := Ground.data }, { on := 15, ground := Ground.data }, { on := 11, ground := Ground.guard }], guard := some (11, true) }) (v := ?_) rfl (by kernel_rfl) (by kernel_rfl) (by kernel_rfl) (fun _ _ _ h => h) (Or.inl ⟨by rfl, ?_⟩) (by assumption) ?_
  rotate_left
  · (intro ww hSw; (try dsimp only at hSw); go_simp; try with_reducible rfl)
  (try simp only [Act.put, List.setIfInBounds_toArray, List.set_cons_zero, List.set_cons_succ])
  refine wpAnyH_take (i := 17) (oi := { dst := some 51, op := Op.pick (Operand.tmp 45) (Operand.tmp 50) (Operand.const (Value.bool false)), type := 4, pos := "outright.go:40", after := #[{ on := 11, ground := Ground.data }, { on := 16, ground := Ground.data }], guard := none }) (v := ?_) rfl (by kernel_rfl) (by kernel_rfl) (by kernel_rfl) (fun _ _ _ h => h) (Or.inl ⟨by rfl, ?_⟩) (by assumption) ?_
  rotate_left
  · (intro ww hSw; (try dsimp only at hSw); go_simp; try with_reducible rfl)
  (try simp only [Act.put, List.setIfInBounds_toArray, List.set_cons_zero, List.set_cons_succ])
  refine wpAnyH_take (i := 18) (oi := { dst := some 52, op := Op.move (Operand.tmp 51), type := 4, pos := "outright.go:40", after := #[{ on := 17, ground := Ground.data }, { on := 11, ground := Ground.chain }], guard := none }) (v := ?_) rfl (by kernel_rfl) (by kernel_rfl) (by kernel_rfl) (fun _ _ _ h => h) (Or.inl ⟨by rfl, ?_⟩) (by assumption) ?_
  rotate_left
  · (intro ww hSw; (try dsimp only at hSw); go_simp; try with_reducible rfl)
  (try simp only [Act.put, List.setIfInBounds_toArray, List.set_cons_zero, List.set_cons_succ])
  refine wpAnyH_take (i := 19) (oi := { dst := some 53, op := Op.move (Operand.tmp 5), type := 9, pos := "outright.go:40", after := #[{ on := 18, ground := Ground.guard }], guard := some (18, true) }) (v := ?_) rfl (by kernel_rfl) (by kernel_rfl) (by kernel_rfl) (fun _ _ _ h => h) (Or.inl ⟨by rfl, ?_⟩) (by assumption) ?_
  rotate_left
  · (intro ww hSw; (try dsimp only at hSw); go_simp; try with_reducible rfl)
  (try simp only [Act.put, List.setIfInBounds_toArray, List.set_cons_zero, List.set_cons_succ])
  refine wpAnyH_take (i := 20) (oi := { dst := some 54, op := Op.slice 9 (Operand.tmp 53) none (some (Operand.const (Value.int IntKind.i64 7))) none, type := 9, pos := "outright.go:40", after := #[{ on := 19, ground := Ground.data }, { on := 18, ground := Ground.guard }], guard := some (18, true) }) (v := ?_) rfl (by kernel_rfl) (by kernel_rfl) (by kernel_rfl) (fun _ _ _ h => h) (Or.inl ⟨by rfl, ?_⟩) (by assumption) ?_
  rotate_left
  · (intro ww hSw; (try dsimp only at hSw); go_simp; try with_reducible rfl)
  (try simp only [Act.put, List.setIfInBounds_toArray, List.set_cons_zero, List.set_cons_succ])
  refine wpAnyH_take (i := 21) (oi := { dst := some 55, op := Op.move (Operand.tmp 0), type := 9, pos := "outright.go:40", after := #[{ on := 18, ground := Ground.guard }], guard := some (18, true) }) (v := ?_) rfl (by kernel_rfl) (by kernel_rfl) (by kernel_rfl) (fun _ _ _ h => h) (Or.inl ⟨by rfl, ?_⟩) (by assumption) ?_
  rotate_left
  · (intro ww hSw; (try dsimp only at hSw); go_simp; try with_reducible rfl)
  (try simp only [Act.put, List.setIfInBounds_toArray, List.set_cons_zero, List.set_cons_succ])
  refine wpAnyH_take (i := 22) (oi := { dst := some 56, op := Op.slice 9 (Operand.tmp 55) none (some (Operand.const (Value.int IntKind.i64 7))) none, type := 9, pos := "outright.go:40", after := #[{ on := 21, ground := Ground.data }, { on := 18, ground := Ground.guard }], guard := some (18, true) }) (v := ?_) rfl (by kernel_rfl) (by kernel_rfl) (by kernel_rfl) (fun _ _ _ h => h) (Or.inl ⟨by rfl, ?_⟩) (by assumption) ?_
  rotate_left
  · (intro ww hSw; (try dsimp only at hSw); go_simp; try with_reducible rfl)
  (try simp only [Act.put, List.setIfInBounds_toArray, List.set_cons_zero, List.set_cons_succ])
  refine wpAnyH_take (i := 23) (oi := { dst := some 57, op := Op.binOp BinOp.eql 9 (Operand.tmp 54) (Operand.tmp 56) 9, type := 4, pos := "outright.go:40", after := #[{ on := 20, ground := Ground.data }, { on := 22, ground := Ground.data }, { on := 18, ground := Ground.guard }], guard := some (18, true) }) (v := ?_) rfl (by kernel_rfl) (by kernel_rfl) (by kernel_rfl) (fun _ _ _ h => h) (Or.inl ⟨by rfl, ?_⟩) (by assumption) ?_
  rotate_left
  · (intro ww hSw; (try dsimp only at hSw); go_simp; try with_reducible rfl)
  (try simp only [Act.put, List.setIfInBounds_toArray, List.set_cons_zero, List.set_cons_succ])
  refine wpAnyH_take (i := 24) (oi := { dst := some 58, op := Op.pick (Operand.tmp 52) (Operand.tmp 57) (Operand.const (Value.bool false)), type := 4, pos := "outright.go:40", after := #[{ on := 18, ground := Ground.data }, { on := 23, ground := Ground.data }], guard := none }) (v := ?_) rfl (by kernel_rfl) (by kernel_rfl) (by kernel_rfl) (fun _ _ _ h => h) (Or.inl ⟨by rfl, ?_⟩) (by assumption) ?_
  rotate_left
  · (intro ww hSw; (try dsimp only at hSw); go_simp; try with_reducible rfl)
  (try simp only [Act.put, List.setIfInBounds_toArray, List.set_cons_zero, List.set_cons_succ])
  refine wpAnyH_take (i := 25) (oi := { dst := some 59, op := Op.move (Operand.tmp 58), type := 4, pos := "outright.go:40", after := #[{ on := 24, ground := Ground.data }, { on := 18, ground := Ground.chain }], guard := none }) (v := ?_) rfl (by kernel_rfl) (by kernel_rfl) (by kernel_rfl) (fun _ _ _ h => h) (Or.inl ⟨by rfl, ?_⟩) (by assumption) ?_
  rotate_left
  · (intro ww hSw; (try dsimp only at hSw); go_simp; try with_reducible rfl)
  (try simp only [Act.put, List.setIfInBounds_toArray, List.set_cons_zero, List.set_cons_succ])
  refine wpAnyH_take (i := 26) (oi := { dst := some 60, op := Op.move (Operand.tmp 5), type := 9, pos := "outright.go:40", after := #[{ on := 25, ground := Ground.guard }], guard := some (25, true) }) (v := ?_) rfl (by kernel_rfl) (by kernel_rfl) (by kernel_rfl) (fun _ _ _ h => h) (Or.inl ⟨by rfl, ?_⟩) (by assumption) ?_
  rotate_left
  · (intro ww hSw; (try dsimp only at hSw); go_simp; try with_reducible rfl)
  (try simp only [Act.put, List.setIfInBounds_toArray, List.set_cons_zero, List.set_cons_succ])
  refine wpAnyH_take (i := 27) (oi := { dst := some 61, op := Op.move (Operand.tmp 5), type := 9, pos := "outright.go:40", after := #[{ on := 25, ground := Ground.guard }], guard := some (25, true) }) (v := ?_) rfl (by kernel_rfl) (by kernel_rfl) (by kernel_rfl) (fun _ _ _ h => h) (Or.inl ⟨by rfl, ?_⟩) (by assumption) ?_
  rotate_left
  · (intro ww hSw; (try dsimp only at hSw); go_simp; try with_reducible rfl)
  (try simp only [Act.put, List.setIfInBounds_toArray, List.set_cons_zero, List.set_cons_succ])
  refine wpAnyH_take (i := 28) (oi := { dst := some 62, op := Op.call { callee := Callee.builtin Builtin.len, args := #[Operand.tmp 61], argTypes := #[9] }, type := 3, pos := "outright.go:40", after := #[{ on := 27, ground := Ground.data }, { on := 25, ground := Ground.guard }], guard := some (25, true) }) (v := ?_) rfl (by kernel_rfl) (by kernel_rfl) (by kernel_rfl) (fun _ _ _ h => h) (Or.inl ⟨by rfl, ?_⟩) (by assumption) ?_
  rotate_left
  · (intro ww hSw; (try dsimp only at hSw); go_simp; try with_reducible rfl)
  (try simp only [Act.put, List.setIfInBounds_toArray, List.set_cons_zero, List.set_cons_succ])
  refine wpAnyH_take (i := 29) (oi := { dst := some 63, op := Op.fieldAddr 31 (Operand.tmp 3) 11, type := 0, pos := "outright.go:40", after := #[{ on := 25, ground := Ground.guard }], guard := some (25, true) }) (v := ?_) rfl (by kernel_rfl) (by kernel_rfl) (by kernel_rfl) (fun _ _ _ h => h) (Or.inl ⟨by rfl, ?_⟩) (by assumption) ?_
  rotate_left
  · (intro ww hSw; (try dsimp only at hSw); go_simp; try with_reducible rfl)
  (try simp only [Act.put, List.setIfInBounds_toArray, List.set_cons_zero, List.set_cons_succ])
  refine wpAnyH_take (i := 30) (oi := { dst := some 64, op := Op.load 9 (Operand.tmp 63), type := 9, pos := "outright.go:40", after := #[{ on := 29, ground := Ground.data }, { on := 25, ground := Ground.guard }], guard := some (25, true) }) (v := ?_) rfl (by kernel_rfl) (by kernel_rfl) (by kernel_rfl) (fun _ _ _ h => h) (Or.inl ⟨by rfl, ?_⟩) (by assumption) ?_
  rotate_left
  · (intro ww hSw; (try dsimp only at hSw); go_simp; try with_reducible rfl)
  (try simp only [Act.put, List.setIfInBounds_toArray, List.set_cons_zero, List.set_cons_succ])
  refine wpAnyH_take (i := 31) (oi := { dst := some 65, op := Op.call { callee := Callee.builtin Builtin.len, args := #[Operand.tmp 64], argTypes := #[9] }, type := 3, pos := "outright.go:40", after := #[{ on := 30, ground := Ground.data }, { on := 25, ground := Ground.guard }], guard := some (25, true) }) (v := ?_) rfl (by kernel_rfl) (by kernel_rfl) (by kernel_rfl) (fun _ _ _ h => h) (Or.inl ⟨by rfl, ?_⟩) (by assumption) ?_
  rotate_left
  · (intro ww hSw; (try dsimp only at hSw); go_simp; try with_reducible rfl)
  (try simp only [Act.put, List.setIfInBounds_toArray, List.set_cons_zero, List.set_cons_succ])
  refine wpAnyH_take (i := 32) (oi := { dst := some 66, op := Op.binOp BinOp.sub 3 (Operand.tmp 62) (Operand.tmp 65) 3, type := 3, pos := "outright.go:40", after := #[{ on := 28, ground := Ground.data }, { on := 31, ground := Ground.data }, { on := 25, ground := Ground.guard }], guard := some (25, true) }) (v := ?_) rfl (by kernel_rfl) (by kernel_rfl) (by kernel_rfl) (fun _ _ _ h => h) (Or.inl ⟨by rfl, ?_⟩) (by assumption) ?_
  rotate_left
  · (intro ww hSw; (try dsimp only at hSw); go_simp; try with_reducible rfl)
  (try simp only [Act.put, List.setIfInBounds_toArray, List.set_cons_zero, List.set_cons_succ])
  refine wpAnyH_take (i := 33) (oi := { dst := some 67, op := Op.slice 9 (Operand.tmp 60) (some (Operand.tmp 66)) none none, type := 9, pos := "outright.go:40", after := #[{ on := 26, ground := Ground.data }, { on := 32, ground := Ground.data }, { on := 25, ground := Ground.guard }], guard := some (25, true) }) (v := ?_) rfl (by kernel_rfl) (by kernel_rfl) (by kernel_rfl) (fun _ _ _ h => h) (Or.inl ⟨by rfl, ?_⟩) (by assumption) ?_
  rotate_left
  · (intro ww hSw; (try dsimp only at hSw); go_simp; try with_reducible rfl)
  (try simp only [Act.put, List.setIfInBounds_toArray, List.set_cons_zero, List.set_cons_succ])
  refine wpAnyH_take (i := 34) (oi := { dst := some 68, op := Op.fieldAddr 31 (Operand.tmp 3) 11, type := 0, pos := "outright.go:40", after := #[{ on := 25, ground := Ground.guard }], guard := some (25, true) }) (v := ?_) rfl (by kernel_rfl) (by kernel_rfl) (by kernel_rfl) (fun _ _ _ h => h) (Or.inl ⟨by rfl, ?_⟩) (by assumption) ?_
  rotate_left
  · (intro ww hSw; (try dsimp only at hSw); go_simp; try with_reducible rfl)
  (try simp only [Act.put, List.setIfInBounds_toArray, List.set_cons_zero, List.set_cons_succ])
  refine wpAnyH_take (i := 35) (oi := { dst := some 69, op := Op.load 9 (Operand.tmp 68), type := 9, pos := "outright.go:40", after := #[{ on := 34, ground := Ground.data }, { on := 25, ground := Ground.guard }], guard := some (25, true) }) (v := ?_) rfl (by kernel_rfl) (by kernel_rfl) (by kernel_rfl) (fun _ _ _ h => h) (Or.inl ⟨by rfl, ?_⟩) (by assumption) ?_
  rotate_left
  · (intro ww hSw; (try dsimp only at hSw); go_simp; try with_reducible rfl)
  (try simp only [Act.put, List.setIfInBounds_toArray, List.set_cons_zero, List.set_cons_succ])
  refine wpAnyH_take (i := 36) (oi := { dst := some 70, op := Op.binOp BinOp.eql 9 (Operand.tmp 67) (Operand.tmp 69) 9, type := 4, pos := "outright.go:40", after := #[{ on := 33, ground := Ground.data }, { on := 35, ground := Ground.data }, { on := 25, ground := Ground.guard }], guard := some (25, true) }) (v := ?_) rfl (by kernel_rfl) (by kernel_rfl) (by kernel_rfl) (fun _ _ _ h => h) (Or.inl ⟨by rfl, ?_⟩) (by assumption) ?_
  rotate_left
  · (intro ww hSw; (try dsimp only at hSw); go_simp; try with_reducible rfl)
  (try simp only [Act.put, List.setIfInBounds_toArray, List.set_cons_zero, List.set_cons_succ])
  refine wpAnyH_take (i := 37) (oi := { dst := some 71, op := Op.pick (Operand.tmp 59) (Operand.tmp 70) (Operand.const (Value.bool false)), type := 4, pos := "outright.go:40", after := #[{ on := 25, ground := Ground.data }, { on := 36, ground := Ground.data }], guard := none }) (v := ?_) rfl (by kernel_rfl) (by kernel_rfl) (by kernel_rfl) (fun _ _ _ h => h) (Or.inl ⟨by rfl, ?_⟩) (by assumption) ?_
  rotate_left
  · (intro ww hSw; (try dsimp only at hSw); go_simp; try with_reducible rfl)
  (try simp only [Act.put, List.setIfInBounds_toArray, List.set_cons_zero, List.set_cons_succ])
  refine wpAnyH_take (i := 38) (oi := { dst := some 2, op := Op.assign (Operand.tmp 71), type := 4, pos := "outright.go:40", after := #[{ on := 37, ground := Ground.data }, { on := 25, ground := Ground.chain }, { on := 0, ground := Ground.phase }, { on := 1, ground := Ground.phase }, { on := 2, ground := Ground.phase }, { on := 3, ground := Ground.phase }, { on := 4, ground := Ground.phase }, { on := 5, ground := Ground.phase }, { on := 6, ground := Ground.phase }, { on := 7, ground := Ground.phase }, { on := 8, ground := Ground.phase }, { on := 9, ground := Ground.phase }, { on := 10, ground := Ground.phase }, { on := 11, ground := Ground.phase }, { on := 12, ground := Ground.phase }, { on := 13, ground := Ground.phase }, { on := 14, ground := Ground.phase }, { on := 15, ground := Ground.phase }, { on := 16, ground := Ground.phase }, { on := 17, ground := Ground.phase }, { on := 18, ground := Ground.phase }, { on := 19, ground := Ground.phase }, { on := 20, ground := Ground.phase }, { on := 21, ground := Ground.phase }, { on := 22, ground := Ground.phase }, { on := 23, ground := Ground.phase }, { on := 24, ground := Ground.phase }, { on := 25, ground := Ground.phase }, { on := 26, ground := Ground.phase }, { on := 27, ground := Ground.phase }, { on := 28, ground := Ground.phase }, { on := 29, ground := Ground.phase }, { on := 30, ground := Ground.phase }, { on := 31, ground := Ground.phase }, { on := 32, ground := Ground.phase }, { on := 33, ground := Ground.phase }, { on := 34, ground := Ground.phase }, { on := 35, ground := Ground.phase }, { on := 36, ground := Ground.phase }, { on := 37, ground := Ground.phase }], guard := none }) (v := ?_) rfl (by kernel_rfl) (by kernel_rfl) (by kernel_rfl) (fun _ _ _ h => h) (Or.inl ⟨by rfl, ?_⟩) (by assumption) ?_
  rotate_left
  · (intro ww hSw; (try dsimp only at hSw); go_simp; try with_reducible rfl)
  (try simp only [Act.put, List.setIfInBounds_toArray, List.set_cons_zero, List.set_cons_succ])
  refine wpAnyH_done (by kernel_rfl) ?_ _
  refine NoPanic.normal ?_
  have hf2 := (And.left hHeld).2.1
  have HE := Lib.hid hf2
  clear hf2 hHeld
  go_wp2_with fail
  go_ret
  exact ⟨rfl, HE.out⟩
theorem ip6Again_any (s : ByteArray) (w : World) :
    Calls Try.prog 8 #[.string s] w fun e w' => e = .returned (.bool true) ∧ Below w.heap.size w w' := by
  by_cases h : 70000 < s.size
  · exact ip6Again_long s w h
  · by_cases hc : pcode s = 0
    · exact ip6Again_main s w h hc
    · exact ip6Again_bad s w h hc
end Go.Proofs.Ytphemimpkbjfoaa
