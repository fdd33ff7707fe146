/-
  Proved here: the law Ip6Fields answers true, and leaves old memory as it was.
  Conditions: the packet's sizes are within the form's own reach.
-/
import Derived.Test.YtphemimpkbjfoaaFieldsPlain
namespace Go.Proofs.Ytphemimpkbjfoaa
open Go.RowKit

theorem exs_onecell {w : World} {v : Value} {l : List (Int × ByteArray)} (h : Exs w v l) : v.oneCell' = true := by
  obtain ⟨ao, cap, rfl, _⟩ := h
  rfl
/-- Some text and some error. -/
def TwoF (w : World) (e : Ending) (w' : World) : Prop := ∃ s x, e = .returned (.tuple #[.string s, x]) ∧ Below w.heap.size w w'
theorem bytes_two (p : Pk6) (v : Value) (w : World) (hx : Exs w v p.exts) (hs : Sm p) (hid : 0 ≤ p.id ∧ p.id < 4294967296) : Calls Try.prog 14 #[.agg (p.vals v).toArray] w (TwoF w) := by
  by_cases hw : p.why = 0
  · refine (bytes_ok p v w hx hs hw hid).mono ?_
    rintro e w' ⟨rfl, b⟩
    exact ⟨_, _, rfl, b⟩
  · refine (bytes_bad p v w hx hs (by rw [bne_iff_ne]; exact hw)).mono ?_
    rintro e w' ⟨f, rfl, _, _, b⟩
    exact ⟨_, _, rfl, b⟩
theorem two_keep {w0 w : World} {B b : Nat} {T : TypeId} {V : List Value} {AF AT : List Value} (hr : ∀ W, Bk W b T V.toArray → W.rangeAt b 3 AF ∧ W.rangeAt b 19 AT) (h : Kp w0 B [(b, T, V)] w) :
    Kp w0 B [(b, T, V)] w ∧ w.rangeAt b 3 AF ∧ w.rangeAt b 19 AT := ⟨h, hr _ h.hd⟩
theorem fr_range (p : Pk6) (v : Value) (W : World) (b : Nat) (T : TypeId) (h : Bk W b T (p.vals v).toArray) : W.rangeAt b 3 (bytV p.fr) ∧ W.rangeAt b 19 (bytV p.dst) := by
  constructor
  · intro j x hj
    have := vals_fr p v j x hj
    exact h.c _ _ (by simpa using this)
  · intro j x hj
    have := vals_dst p v j x hj
    exact h.c _ _ (by simpa using this)
set_option maxRecDepth 100000 in
set_option maxHeartbeats 1000000 in
theorem ip6Fields_great (p : Pk6) (v : Value) (h i : Int) (w : World) (hx : Exs w v p.exts) (hr : Reach6 p) (hg : p.great = true) :
    Calls Try.prog 10 #[.agg (p.vals v).toArray, .int .u8 h, .int .u32 i] w fun e w' => e = .returned (.bool true) ∧ Below w.heap.size w w' := by
  obtain ⟨V, hV, hVl, hD, hK⟩ := boxed6 p v w
  have HIV : Hid ((Try.prog.info? 31).map (·.size) = some V.length) := Lib.hid (by rw [hV]; exact Try.info6 p _)
  have HVV := Lib.hid hV
  have CG : Hid (∀ W, Exs W v p.exts → Calls Try.prog 19 #[.agg V.toArray] W fun e w' => e = .returned (.bool true) ∧ Below W.heap.size W w') := Lib.hid (fun W hW => by rw [hV, ← hg]; exact great_any p v W hW hr.len hr.data hr.body)
  have HX0 := Lib.hid hx
  rw [← hV]
  clear hV
  have HK1 := Lib.hid hK
  clear hK hD hx hVl hg
  generalize hw1 : w.alloc (.cells V.toArray 31) = w1 at *
  go_enter Try.func10, Try.ntmps10
  go_upto_region 1 with (fail)
  clear hw1
  go_wp2_with fail
  refine (awake_true w1).mono ?_
  rintro e w2 ⟨rfl, b2⟩
  have HK2 := Lib.hid (HK1.out.below b2 (Nat.le_refl _))
  have hrg2 := HK2.out.hd.range
  clear b2 HK1
  go_wp2_with (refine wpList_load_mid rfl 31 _ rfl w.heap.size 0 rfl V _ hrg2 Try.underlying31 rfl HIV.out ?_)
  refine (CG.out w2 (HX0.out.below HK2.out.2.1 (Nat.le_refl _))).mono ?_
  rintro e w3 ⟨rfl, b3⟩
  have HK3 := Lib.hid (HK2.out.below b3 (Nat.le_refl _))
  have hrg3 := HK3.out.hd.range
  clear b3 HK2 hrg2 CG
  go_wp2_with fail
  go_ret
  exact ⟨rfl, HK3.out.2.1⟩
set_option maxRecDepth 100000 in
set_option maxHeartbeats 1000000 in
theorem ip6Fields_bad (p : Pk6) (v : Value) (h i : Int) (w : World) (hx : Exs w v p.exts) (hr : Reach6 p) (hg : p.great = false) (h0 : 0 ≤ h) (h1 : h ≤ 255) (hy : p.why ≠ 0) :
    Calls Try.prog 10 #[.agg (p.vals v).toArray, .int .u8 h, .int .u32 i] w fun e w' => e = .returned (.bool true) ∧ Below w.heap.size w w' := by
  have kh : IntKind.i64.wrap h = h := IntWalk.i64_in _ (by omega)
  have hs := sm_great hg
  have hsq : Sm (p.turn h) := ⟨hs.len, hs.data, hs.body⟩
  have hid := hr.id
  have C2 := Lib.hid (fun (W : World) (hW : Exs W v p.exts) => bytes_bad p v W hW hs (by rw [bne_iff_ne]; exact hy))
  have C3 := Lib.hid (fun (W : World) (hW : Exs W v p.exts) => bytes_two (p.turn h) v W hW hsq hid)
  clear hy hs hsq hid
  generalize p.why = c at *
  obtain ⟨V1, hV1⟩ : ∃ V, V = ({ p with hop := h } : Pk6).vals v := ⟨_, rfl⟩
  obtain ⟨V2, hV2⟩ : ∃ V, V = ({ p with hop := h, fr := p.dst, hfr := p.hdst } : Pk6).vals v := ⟨_, rfl⟩
  obtain ⟨VQ, hVQ⟩ : ∃ V, V = (p.turn h).vals v := ⟨_, rfl⟩
  obtain ⟨AF, hAF⟩ : ∃ A, A = bytV p.fr := ⟨_, rfl⟩
  obtain ⟨AT, hAT⟩ : ∃ A, A = bytV p.dst := ⟨_, rfl⟩
  have HS1 : Hid ((p.vals v).toArray.setIfInBounds 2 (.int .i64 h) = V1.toArray) := Lib.hid (by rw [hV1]; exact vset2 p v h)
  have HS2 : Hid (puts V1.toArray 3 AT = V2.toArray) := Lib.hid (by rw [hV1, hV2, hAT]; exact vputs_fr _ v p.dst p.hdst)
  have HS3 : Hid (puts V2.toArray 19 AF = VQ.toArray) := Lib.hid (by rw [hV2, hVQ, hAF]; exact vputs_dst _ v p.fr p.hfr)
  have HL1 : Hid (V1.toArray.size = 42) := Lib.hid (by rw [hV1, List.size_toArray, vals_len])
  have HL2 : Hid (V2.toArray.size = 42) := Lib.hid (by rw [hV2, List.size_toArray, vals_len])
  have HLF : Hid (AF.toArray.size = 16) := Lib.hid (by rw [hAF, List.size_toArray, bytV_len, p.hfr])
  have HLT : Hid (AT.toArray.size = 16) := Lib.hid (by rw [hAT, List.size_toArray, bytV_len, p.hdst])
  have HIF : Hid ((Try.prog.info? 28).map (·.size) = some AF.length) := Lib.hid (by rw [hAF, bytV_len, p.hfr]; kernel_rfl)
  have HIT : Hid ((Try.prog.info? 28).map (·.size) = some AT.length) := Lib.hid (by rw [hAT, bytV_len, p.hdst]; kernel_rfl)
  have HOF : Hid (AF.toArray.all (·.oneCell') = true) := Lib.hid (by rw [hAF, List.all_toArray, List.all_eq_true]; exact bytV_one _)
  have HOT : Hid (AT.toArray.all (·.oneCell') = true) := Lib.hid (by rw [hAT, List.all_toArray, List.all_eq_true]; exact bytV_one _)
  have HRG : Hid (∀ (W : World) (b : Nat), Bk W b 31 (p.vals v).toArray → W.rangeAt b 3 AF ∧ W.rangeAt b 19 AT) := Lib.hid (fun W b hb => by rw [hAF, hAT]; exact fr_range p v W b _ hb)
  have HIVQ : Hid ((Try.prog.info? 31).map (·.size) = some VQ.length) := Lib.hid (by rw [hVQ]; exact Try.info6 _ _)
  have HOv : Hid ((p.vals v).toArray.all (·.oneCell') = true) := Lib.hid (vals_one _ _ (exs_onecell hx))
  have HVQ := Lib.hid hVQ
  clear hV1 hV2 hVQ hAF hAT
  obtain ⟨Z, hZ⟩ : ∃ Z, Z = pk0.vals (.slice none 0 0) := ⟨_, rfl⟩
  have hz0 : Z.toArray = #[.int .i64 0, .int .i64 0, .int .i64 0, .int .u8 0, .int .u8 0, .int .u8 0, .int .u8 0, .int .u8 0, .int .u8 0, .int .u8 0, .int .u8 0, .int .u8 0, .int .u8 0, .int .u8 0, .int .u8 0, .int .u8 0, .int .u8 0, .int .u8 0, .int .u8 0, .int .u8 0, .int .u8 0, .int .u8 0, .int .u8 0, .int .u8 0, .int .u8 0, .int .u8 0, .int .u8 0, .int .u8 0, .int .u8 0, .int .u8 0, .int .u8 0, .int .u8 0, .int .u8 0, .int .u8 0, .int .u8 0, .slice none 0 0, .bool false, .int .u32 0, .int .i64 0, .bool false, .int .i64 0, .string ⟨#[]⟩] := by rw [hZ]; exact pk0_vals
  have HZ0 := Lib.hid hz0
  have HZl : Hid (∀ (p : Pk6) (v : Value), (p.vals v).length = Z.toArray.size) := Lib.hid (fun p v => by rw [List.size_toArray, hZ, vals_len, vals_len])
  clear hZ hz0
  obtain ⟨V, hV, hVl, hD, hK⟩ := boxed6 p v w
  have HIV : Hid ((Try.prog.info? 31).map (·.size) = some V.length) := Lib.hid (by rw [hV]; exact Try.info6 p _)
  have HVV := Lib.hid hV
  have CG : Hid (∀ W, Exs W v p.exts → Calls Try.prog 19 #[.agg V.toArray] W fun e w' => e = .returned (.bool false) ∧ Below W.heap.size W w') := Lib.hid (fun W hW => by rw [hV, ← hg]; exact great_any p v W hW hr.len hr.data hr.body)
  have HX0 := Lib.hid hx
  rw [← hV]
  clear hV
  have HK1 := Lib.hid hK
  clear hK hD hx hVl hg
  generalize hw1 : w.alloc (.cells V.toArray 31) = w1 at *
  go_enter Try.func10, Try.ntmps10
  go_upto_region 1 with (fail)
  clear hw1
  go_wp2_with fail
  refine (awake_true w1).mono ?_
  rintro e w2 ⟨rfl, b2⟩
  have HK2 := Lib.hid (HK1.out.below b2 (Nat.le_refl _))
  have hrg2 := HK2.out.hd.range
  clear b2 HK1
  go_wp2_with (refine wpList_load_mid rfl 31 _ rfl w.heap.size 0 rfl V _ hrg2 Try.underlying31 rfl HIV.out ?_)
  refine (CG.out w2 (HX0.out.below HK2.out.2.1 (Nat.le_refl _))).mono ?_
  rintro e w3 ⟨rfl, b3⟩
  have HK3 := Lib.hid (HK2.out.below b3 (Nat.le_refl _))
  have hrg3 := HK3.out.hd.range
  clear b3 HK2 hrg2 CG
  go_wp2_with (refine wpList_load_mid rfl 31 _ rfl w.heap.size 0 rfl V _ hrg3 Try.underlying31 rfl HIV.out ?_)
  rw [HVV.out]
  refine (C2.out w3 (HX0.out.below HK3.out.2.1 (Nat.le_refl _))).mono ?_
  rintro e w4 ⟨f, rfl, _, _, b4⟩
  rw [← HVV.out]
  have HK4 := Lib.hid (HK3.out.below b4 (Nat.le_refl _))
  clear b4 HK3 C2 hrg3
  have hHOV : V.toArray.all (·.oneCell') = true := by rw [HVV.out]; exact HOv.out
  have HOV := Lib.hid hHOV
  have hL : V.length = Z.toArray.size := by rw [HVV.out]; exact HZl.out _ _
  have hL42 : V.toArray.size = 42 := by rw [HVV.out, List.size_toArray, vals_len]
  have HL42 := Lib.hid hL42
  have hV2c : V[2]? = some (.int .i64 p.hop) := by rw [HVV.out]; rfl
  have hq := HK4.out.put 31 Z.toArray V hL
  have ht : (w4.alloc (.cells Z.toArray 31)).there w4.heap.size 0 V.toArray.size := (bk_new w4 31 Z.toArray).there _ (by rw [List.size_toArray, hL]; exact Nat.le_refl _)
  have hrg4 := HK4.out.hd.range
  have hrg4' : (w4.alloc (.cells Z.toArray 31)).rangeAt w.heap.size 0 V := (HK4.out.alloc _).hd.range
  have HNE := Lib.hid (Nat.ne_of_lt (HK4.out.hd.lt))
  have HGE := Lib.hid HK4.out.2.2
  clear hL hL42 hHOV
  generalize hwn : (w4.alloc (.cells Z.toArray 31)).setCells w4.heap.size 0 V = w5 at *
  rw [HZ0.out] at hwn ht hrg4'
  go_upto_region 7 with (first | (refine wpList_load_mid rfl 31 _ rfl w.heap.size 0 rfl V _ hrg4 Try.underlying31 rfl HIV.out ?_) | (refine wpList_load_mid rfl 31 _ rfl w.heap.size 0 rfl V _ hrg4' Try.underlying31 rfl HIV.out ?_) | (refine wpList_store_mid rfl 31 _ _ rfl w4.heap.size 0 V.toArray rfl rfl ht HIV.out HOV.out ?_))
  try rw [hwn]
  have HK5 := Lib.hid hq.tl
  have HB5 := Lib.hid hq.hd
  clear hwn ht hrg4 hrg4' hq HK4
  have c2 := HB5.out.c 2 _ (by simpa using hV2c)
  have z2 := HB5.out.z 2
  go_upto_region 8 with (fail)
  clear c2 z2 hV2c
  have hK := HB5.out.set 2 (.int .i64 h)
  rw [HVV.out, HS1.out] at hK
  have HB6 := Lib.hid hK
  have HK6 := Lib.hid (HK5.out.set (c := w4.heap.size) (fun x hx => by simp only [List.mem_singleton] at hx; subst hx; exact HNE.out) HGE.out 2 (.int .i64 h))
  clear hK HB5 HK5
  generalize w5.setCell ⟨w4.heap.size, 2, none⟩ (.int .i64 h) = w6 at *
  have hRG : ∀ (W : World), Bk W w.heap.size 31 V.toArray → W.rangeAt w.heap.size 3 AF ∧ W.rangeAt w.heap.size 19 AT := fun W hb => HRG.out W _ (by rw [← HVV.out]; exact hb)
  have HRR := Lib.hid hRG
  have hK6 : Kp w w.heap.size [(w.heap.size, 31, V)] w6.drew := HK6.out.drew
  have hB6 : Bk w6.drew w4.heap.size 31 V1.toArray := HB6.out
  have hN6 : ∀ x ∈ [(w.heap.size, 31, V)], x.1 ≠ w4.heap.size := fun x hx => by simp only [List.mem_singleton] at hx; subst hx; exact HNE.out
  have hG6 := HGE.out
  clear hRG HK6 HB6
  generalize w4.heap.size = b2 at *
  generalize hb1 : w.heap.size = b1 at *
  have HB1 := Lib.hid hb1
  clear hb1
  refine wp_region_noPanic ?_
  refine wp_region_held_drew (S := fun w' => Kp w b1 [(b1, 31, V)] w' ∧ w'.rangeAt b1 3 AF ∧ w'.rangeAt b1 19 AT) (by kernel_rfl) (two_keep HRR.out hK6) (fun hHeld => ?_)
  refine wpAnyH_take (i := 0) (oi := { dst := some 28, op := Op.fieldAddr 31 (Operand.tmp 3) 4, type := 0, pos := "more.go:19", after := #[], guard := none }) (v := ?_) rfl (by kernel_rfl) (by kernel_rfl) (by kernel_rfl) (fun _ _ _ h => h) (Or.inl ⟨by rfl, ?_⟩) (by assumption) ?_
  rotate_left
  · (intro ww hSw; (try dsimp only at hSw); go_simp; try with_reducible rfl)
  (try simp only [Act.put, List.setIfInBounds_toArray, List.set_cons_zero, List.set_cons_succ])
  refine wpAnyH_take (i := 1) (oi := { dst := some 29, op := Op.load 28 (Operand.tmp 28), type := 28, pos := "more.go:19", after := #[{ on := 0, ground := Ground.data }], guard := none }) (v := .agg (AT).toArray) rfl (by kernel_rfl) (by kernel_rfl) (by kernel_rfl) (fun _ _ _ h => h) (yieldsIf_load_mid (by rfl) _ _ rfl (b1) 19 rfl (AT) _ (fun ww hSw => hSw.2.2) Try.underlying28 rfl HIT.out) (by assumption) ?_
  (try simp only [Act.put, List.setIfInBounds_toArray, List.set_cons_zero, List.set_cons_succ])
  refine wpAnyH_take (i := 2) (oi := { dst := some 30, op := Op.fieldAddr 31 (Operand.tmp 3) 3, type := 0, pos := "more.go:19", after := #[{ on := 5, ground := Ground.gcOnly Departure.lateStores }], guard := none }) (v := ?_) rfl (by kernel_rfl) (by kernel_rfl) (by kernel_rfl) (fun _ _ _ h => h) (Or.inl ⟨by rfl, ?_⟩) (by assumption) ?_
  rotate_left
  · (intro ww hSw; (try dsimp only at hSw); go_simp; try with_reducible rfl)
  (try simp only [Act.put, List.setIfInBounds_toArray, List.set_cons_zero, List.set_cons_succ])
  refine wpAnyH_take (i := 3) (oi := { dst := some 31, op := Op.load 28 (Operand.tmp 30), type := 28, pos := "more.go:19", after := #[{ on := 2, ground := Ground.data }, { on := 5, ground := Ground.gcOnly Departure.lateStores }], guard := none }) (v := .agg (AF).toArray) rfl (by kernel_rfl) (by kernel_rfl) (by kernel_rfl) (fun _ _ _ h => h) (yieldsIf_load_mid (by rfl) _ _ rfl (b1) 3 rfl (AF) _ (fun ww hSw => hSw.2.1) Try.underlying28 rfl HIF.out) (by assumption) ?_
  (try simp only [Act.put, List.setIfInBounds_toArray, List.set_cons_zero, List.set_cons_succ])
  refine wpAnyH_take (i := 4) (oi := { dst := some 32, op := Op.fieldAddr 31 (Operand.tmp 9) 3, type := 0, pos := "more.go:19", after := #[{ on := 0, ground := Ground.phase }, { on := 1, ground := Ground.phase }, { on := 2, ground := Ground.textOnly Departure.lateStores }, { on := 3, ground := Ground.textOnly Departure.lateStores }], guard := none }) (v := ?_) rfl (by kernel_rfl) (by kernel_rfl) (by kernel_rfl) (fun _ _ _ h => h) (Or.inl ⟨by rfl, ?_⟩) (by assumption) ?_
  rotate_left
  · (intro ww hSw; (try dsimp only at hSw); go_simp; try with_reducible rfl)
  (try simp only [Act.put, List.setIfInBounds_toArray, List.set_cons_zero, List.set_cons_succ])
  refine wpAnyH_ready (rs := [5]) (by kernel_rfl) (by simp) ?_
  refine AllReadyH.cons (o := { dst := none, op := Op.store 28 (Operand.tmp 32) (Operand.tmp 29), type := 0, pos := "more.go:19", after := #[{ on := 4, ground := Ground.data }, { on := 1, ground := Ground.data }, { on := 0, ground := Ground.phase }, { on := 1, ground := Ground.phase }, { on := 2, ground := Ground.textOnly Departure.lateStores }, { on := 3, ground := Ground.textOnly Departure.lateStores }], guard := none }) rfl (fun K hK => ?_) AllReadyH.nil
  rw [if_pos (by rfl)]
  have ht5 : w6.drew.there b2 3 AT.toArray.size := by rw [HLT.out]; exact hB6.there' 3 16 (by rw [HL1.out]; decide)
  refine wp_store_mid 28 _ _ rfl b2 3 AT.toArray rfl rfl ht5 HIT.out HOT.out ?_
  refine hK.out _ _ (two_keep HRR.out (Kp.sets (And.left hHeld) hN6 hG6 3 AT)) (fun hHeld => ?_)
  clear hK K
  (try simp only [Act.put])
  have hK7 := Bk.sets AT 3 _ _ hB6
  rw [HS2.out] at hK7
  refine wpAnyH_take (i := 6) (oi := { dst := some 33, op := Op.fieldAddr 31 (Operand.tmp 9) 4, type := 0, pos := "more.go:19", after := #[{ on := 0, ground := Ground.phase }, { on := 1, ground := Ground.phase }, { on := 2, ground := Ground.phase }, { on := 3, ground := Ground.phase }, { on := 4, ground := Ground.phase }, { on := 5, ground := Ground.phase }], guard := none }) (v := ?_) rfl (by kernel_rfl) (by kernel_rfl) (by kernel_rfl) (fun _ _ _ h => h) (Or.inl ⟨by rfl, ?_⟩) (by assumption) ?_
  rotate_left
  · (intro ww hSw; (try dsimp only at hSw); go_simp; try with_reducible rfl)
  (try simp only [Act.put, List.setIfInBounds_toArray, List.set_cons_zero, List.set_cons_succ])
  refine wpAnyH_ready (rs := [7]) (by kernel_rfl) (by simp) ?_
  refine AllReadyH.cons (o := { dst := none, op := Op.store 28 (Operand.tmp 33) (Operand.tmp 31), type := 0, pos := "more.go:19", after := #[{ on := 6, ground := Ground.data }, { on := 3, ground := Ground.data }, { on := 5, ground := Ground.chain }, { on := 0, ground := Ground.phase }, { on := 1, ground := Ground.phase }, { on := 2, ground := Ground.phase }, { on := 3, ground := Ground.phase }, { on := 4, ground := Ground.phase }, { on := 5, ground := Ground.phase }], guard := none }) rfl (fun K hK => ?_) AllReadyH.nil
  rw [if_pos (by rfl)]
  have ht7 : (w6.drew.setCells b2 3 AT).there b2 19 AF.toArray.size := by rw [HLF.out]; exact hK7.there' 19 16 (by rw [HL2.out]; decide)
  refine wp_store_mid 28 _ _ rfl b2 19 AF.toArray rfl rfl ht7 HIF.out HOF.out ?_
  refine hK.out _ _ (two_keep HRR.out (Kp.sets (And.left hHeld) hN6 hG6 19 AF)) (fun hHeld => ?_)
  clear hK K
  (try simp only [Act.put])
  have hK8 := Bk.sets AF 19 _ _ hK7
  refine wpAnyH_done (by kernel_rfl) ?_ _
  refine NoPanic.normal ?_
  have HKp := Lib.hid (And.left hHeld)
  rw [HS3.out] at hK8
  have HB8 := Lib.hid hK8
  clear hHeld hK8 hK7 hB6 ht5 ht7 hK6
  generalize (w6.drew.setCells b2 3 AT).setCells b2 19 AF = w7 at *
  have hrq := HB8.out.range
  go_wp2_with (refine wpList_load_mid rfl 31 _ rfl b2 0 rfl VQ _ hrq Try.underlying31 rfl HIVQ.out ?_)
  rw [HVQ.out]
  refine (C3.out w7 (HX0.out.below HKp.out.2.1 (by rw [HB1.out]; exact Nat.le_refl _))).mono ?_
  rintro e w8 ⟨sq, xq, rfl, b8⟩
  have HE := Lib.hid (show Below w.heap.size w w8 by rw [HB1.out]; exact HKp.out.2.1.trans (b8.mono HKp.out.2.2))
  clear b8
  go_wp2_with fail
  go_ret
  exact ⟨rfl, HE.out⟩
set_option maxRecDepth 100000 in
set_option maxHeartbeats 1000000 in
theorem ip6Fields_frag (p : Pk6) (v : Value) (h i : Int) (w : World) (hx : Exs w v p.exts) (hr : Reach6 p) (hg : p.great = false) (h0 : 0 ≤ h) (h1 : h ≤ 255) (hw : p.why = 0) (hf : p.frag = true) :
    Calls Try.prog 10 #[.agg (p.vals v).toArray, .int .u8 h, .int .u32 i] w fun e w' => e = .returned (.bool true) ∧ Below w.heap.size w w' := by
  have kh : IntKind.i64.wrap h = h := IntWalk.i64_in _ (by omega)
  have hs := sm_great hg
  have hsq : Sm (p.turn h) := ⟨hs.len, hs.data, hs.body⟩
  have hid := hr.id
  have hw2 := turn_why h h0 h1 hw
  have hbz := bytes_size p
  have hbh := (why_ok hw).behind
  have hz40 : 40 ≤ p.bytes.size := by omega
  have hzmx : p.bytes.size ≤ 65575 := by omega
  have hdz : p.data.size ≤ p.bytes.size - 40 := by rw [hbz]; unfold Pk6.behind; omega
  have k7 : 7 < (p.turn h).bytes.size := by rw [turn_size]; omega
  have E1 := turn_first p h
  have E2 := turn_fr p h
  have E3 := turn_dst p h
  have E4 := turn_rest p h
  have q1 := turn_size p h
  rw [q1] at E4
  have E5 : (((p.turn h).bytes[7]'k7).toNat : Int) = h := by
    rw [← byN_at _ 7 k7, by7]
    exact u8i_nat (x := h) h0 (by omega)
  have C2 := Lib.hid (fun (W : World) (hW : Exs W v p.exts) => bytes_ok p v W hW hs hw hid)
  have C3 := Lib.hid (fun (W : World) (hW : Exs W v p.exts) => bytes_ok (p.turn h) v W hW hsq hw2 hid)
  have HEE := Lib.hid (And.intro E1 (And.intro E2 (And.intro E3 (And.intro E4 E5))))
  clear E1 E2 E3 E4 E5 hw2 hbz hbh hs hsq hw
  have y40 : (40 : Int) ≤ (p.bytes.size : Int) := by omega
  have y7 : (7 : Int) < (p.bytes.size : Int) := by omega
  have y7' : (7 : Int) ≤ (p.bytes.size : Int) := by omega
  have y8 : (8 : Int) ≤ (p.bytes.size : Int) := by omega
  have y24 : (24 : Int) ≤ (p.bytes.size : Int) := by omega
  have y4 : (4 : Int) ≤ (p.bytes.size : Int) := by omega
  have yb : ¬ (p.bytes.size : Int) < 40 := by omega
  have yb' : decide ((p.bytes.size : Int) < 40) = false := decide_eq_false yb
  clear hdz hz40 hzmx
  generalize p.bytes = XA at *
  generalize (p.turn h).bytes = XB at *
  obtain ⟨V1, hV1⟩ : ∃ V, V = ({ p with hop := h } : Pk6).vals v := ⟨_, rfl⟩
  obtain ⟨V2, hV2⟩ : ∃ V, V = ({ p with hop := h, fr := p.dst, hfr := p.hdst } : Pk6).vals v := ⟨_, rfl⟩
  obtain ⟨VQ, hVQ⟩ : ∃ V, V = (p.turn h).vals v := ⟨_, rfl⟩
  obtain ⟨AF, hAF⟩ : ∃ A, A = bytV p.fr := ⟨_, rfl⟩
  obtain ⟨AT, hAT⟩ : ∃ A, A = bytV p.dst := ⟨_, rfl⟩
  have HS1 : Hid ((p.vals v).toArray.setIfInBounds 2 (.int .i64 h) = V1.toArray) := Lib.hid (by rw [hV1]; exact vset2 p v h)
  have HS2 : Hid (puts V1.toArray 3 AT = V2.toArray) := Lib.hid (by rw [hV1, hV2, hAT]; exact vputs_fr _ v p.dst p.hdst)
  have HS3 : Hid (puts V2.toArray 19 AF = VQ.toArray) := Lib.hid (by rw [hV2, hVQ, hAF]; exact vputs_dst _ v p.fr p.hfr)
  have HL1 : Hid (V1.toArray.size = 42) := Lib.hid (by rw [hV1, List.size_toArray, vals_len])
  have HL2 : Hid (V2.toArray.size = 42) := Lib.hid (by rw [hV2, List.size_toArray, vals_len])
  have HLF : Hid (AF.toArray.size = 16) := Lib.hid (by rw [hAF, List.size_toArray, bytV_len, p.hfr])
  have HLT : Hid (AT.toArray.size = 16) := Lib.hid (by rw [hAT, List.size_toArray, bytV_len, p.hdst])
  have HIF : Hid ((Try.prog.info? 28).map (·.size) = some AF.length) := Lib.hid (by rw [hAF, bytV_len, p.hfr]; kernel_rfl)
  have HIT : Hid ((Try.prog.info? 28).map (·.size) = some AT.length) := Lib.hid (by rw [hAT, bytV_len, p.hdst]; kernel_rfl)
  have HOF : Hid (AF.toArray.all (·.oneCell') = true) := Lib.hid (by rw [hAF, List.all_toArray, List.all_eq_true]; exact bytV_one _)
  have HOT : Hid (AT.toArray.all (·.oneCell') = true) := Lib.hid (by rw [hAT, List.all_toArray, List.all_eq_true]; exact bytV_one _)
  have HRG : Hid (∀ (W : World) (b : Nat), Bk W b 31 (p.vals v).toArray → W.rangeAt b 3 AF ∧ W.rangeAt b 19 AT) := Lib.hid (fun W b hb => by rw [hAF, hAT]; exact fr_range p v W b _ hb)
  have HIVQ : Hid ((Try.prog.info? 31).map (·.size) = some VQ.length) := Lib.hid (by rw [hVQ]; exact Try.info6 _ _)
  have HOv : Hid ((p.vals v).toArray.all (·.oneCell') = true) := Lib.hid (vals_one _ _ (exs_onecell hx))
  have HVQ := Lib.hid hVQ
  clear hV1 hV2 hVQ hAF hAT
  obtain ⟨Z, hZ⟩ : ∃ Z, Z = pk0.vals (.slice none 0 0) := ⟨_, rfl⟩
  have hz0 : Z.toArray = #[.int .i64 0, .int .i64 0, .int .i64 0, .int .u8 0, .int .u8 0, .int .u8 0, .int .u8 0, .int .u8 0, .int .u8 0, .int .u8 0, .int .u8 0, .int .u8 0, .int .u8 0, .int .u8 0, .int .u8 0, .int .u8 0, .int .u8 0, .int .u8 0, .int .u8 0, .int .u8 0, .int .u8 0, .int .u8 0, .int .u8 0, .int .u8 0, .int .u8 0, .int .u8 0, .int .u8 0, .int .u8 0, .int .u8 0, .int .u8 0, .int .u8 0, .int .u8 0, .int .u8 0, .int .u8 0, .int .u8 0, .slice none 0 0, .bool false, .int .u32 0, .int .i64 0, .bool false, .int .i64 0, .string ⟨#[]⟩] := by rw [hZ]; exact pk0_vals
  have HZ0 := Lib.hid hz0
  have HZl : Hid (∀ (p : Pk6) (v : Value), (p.vals v).length = Z.toArray.size) := Lib.hid (fun p v => by rw [List.size_toArray, hZ, vals_len, vals_len])
  clear hZ hz0
  obtain ⟨V, hV, hVl, hD, hK⟩ := boxed6 p v w
  have HIV : Hid ((Try.prog.info? 31).map (·.size) = some V.length) := Lib.hid (by rw [hV]; exact Try.info6 p _)
  have HVV := Lib.hid hV
  have CG : Hid (∀ W, Exs W v p.exts → Calls Try.prog 19 #[.agg V.toArray] W fun e w' => e = .returned (.bool false) ∧ Below W.heap.size W w') := Lib.hid (fun W hW => by rw [hV, ← hg]; exact great_any p v W hW hr.len hr.data hr.body)
  have HX0 := Lib.hid hx
  have HC36 : Hid (V[36]? = some (.bool true)) := Lib.hid (by rw [HVV.out, ← hf]; exact vals_tail p v 1)
  rw [← hV]
  clear hV
  have HK1 := Lib.hid hK
  clear hK hD hx hVl hg
  generalize hw1 : w.alloc (.cells V.toArray 31) = w1 at *
  go_enter Try.func10, Try.ntmps10
  go_upto_region 1 with (fail)
  clear hw1
  go_wp2_with fail
  refine (awake_true w1).mono ?_
  rintro e w2 ⟨rfl, b2⟩
  have HK2 := Lib.hid (HK1.out.below b2 (Nat.le_refl _))
  have hrg2 := HK2.out.hd.range
  clear b2 HK1
  go_wp2_with (refine wpList_load_mid rfl 31 _ rfl w.heap.size 0 rfl V _ hrg2 Try.underlying31 rfl HIV.out ?_)
  refine (CG.out w2 (HX0.out.below HK2.out.2.1 (Nat.le_refl _))).mono ?_
  rintro e w3 ⟨rfl, b3⟩
  have HK3 := Lib.hid (HK2.out.below b3 (Nat.le_refl _))
  have hrg3 := HK3.out.hd.range
  clear b3 HK2 hrg2 CG
  go_wp2_with (refine wpList_load_mid rfl 31 _ rfl w.heap.size 0 rfl V _ hrg3 Try.underlying31 rfl HIV.out ?_)
  rw [HVV.out]
  refine (C2.out w3 (HX0.out.below HK3.out.2.1 (Nat.le_refl _))).mono ?_
  rintro e w4 ⟨rfl, b4⟩
  rw [← HVV.out]
  have HK4 := Lib.hid (HK3.out.below b4 (Nat.le_refl _))
  clear b4 HK3 C2 hrg3
  have hHOV : V.toArray.all (·.oneCell') = true := by rw [HVV.out]; exact HOv.out
  have HOV := Lib.hid hHOV
  have hL : V.length = Z.toArray.size := by rw [HVV.out]; exact HZl.out _ _
  have hL42 : V.toArray.size = 42 := by rw [HVV.out, List.size_toArray, vals_len]
  have HL42 := Lib.hid hL42
  have hV2c : V[2]? = some (.int .i64 p.hop) := by rw [HVV.out]; rfl
  have hq := HK4.out.put 31 Z.toArray V hL
  have ht : (w4.alloc (.cells Z.toArray 31)).there w4.heap.size 0 V.toArray.size := (bk_new w4 31 Z.toArray).there _ (by rw [List.size_toArray, hL]; exact Nat.le_refl _)
  have hrg4 := HK4.out.hd.range
  have hrg4' : (w4.alloc (.cells Z.toArray 31)).rangeAt w.heap.size 0 V := (HK4.out.alloc _).hd.range
  have HNE := Lib.hid (Nat.ne_of_lt (HK4.out.hd.lt))
  have HGE := Lib.hid HK4.out.2.2
  clear hL hL42 hHOV
  generalize hwn : (w4.alloc (.cells Z.toArray 31)).setCells w4.heap.size 0 V = w5 at *
  rw [HZ0.out] at hwn ht hrg4'
  go_upto_region 7 with (first | (refine wpList_load_mid rfl 31 _ rfl w.heap.size 0 rfl V _ hrg4 Try.underlying31 rfl HIV.out ?_) | (refine wpList_load_mid rfl 31 _ rfl w.heap.size 0 rfl V _ hrg4' Try.underlying31 rfl HIV.out ?_) | (refine wpList_store_mid rfl 31 _ _ rfl w4.heap.size 0 V.toArray rfl rfl ht HIV.out HOV.out ?_))
  try rw [hwn]
  have HK5 := Lib.hid hq.tl
  have HB5 := Lib.hid hq.hd
  clear hwn ht hrg4 hrg4' hq HK4
  have c2 := HB5.out.c 2 _ (by simpa using hV2c)
  have z2 := HB5.out.z 2
  go_upto_region 8 with (fail)
  clear c2 z2 hV2c
  have hK := HB5.out.set 2 (.int .i64 h)
  rw [HVV.out, HS1.out] at hK
  have HB6 := Lib.hid hK
  have HK6 := Lib.hid (HK5.out.set (c := w4.heap.size) (fun x hx => by simp only [List.mem_singleton] at hx; subst hx; exact HNE.out) HGE.out 2 (.int .i64 h))
  clear hK HB5 HK5
  generalize w5.setCell ⟨w4.heap.size, 2, none⟩ (.int .i64 h) = w6 at *
  have hRG : ∀ (W : World), Bk W w.heap.size 31 V.toArray → W.rangeAt w.heap.size 3 AF ∧ W.rangeAt w.heap.size 19 AT := fun W hb => HRG.out W _ (by rw [← HVV.out]; exact hb)
  have HRR := Lib.hid hRG
  have hK6 : Kp w w.heap.size [(w.heap.size, 31, V)] w6.drew := HK6.out.drew
  have hB6 : Bk w6.drew w4.heap.size 31 V1.toArray := HB6.out
  have hN6 : ∀ x ∈ [(w.heap.size, 31, V)], x.1 ≠ w4.heap.size := fun x hx => by simp only [List.mem_singleton] at hx; subst hx; exact HNE.out
  have hG6 := HGE.out
  clear hRG HK6 HB6
  generalize w4.heap.size = b2 at *
  generalize hb1 : w.heap.size = b1 at *
  have HB1 := Lib.hid hb1
  clear hb1
  refine wp_region_noPanic ?_
  refine wp_region_held_drew (S := fun w' => Kp w b1 [(b1, 31, V)] w' ∧ w'.rangeAt b1 3 AF ∧ w'.rangeAt b1 19 AT) (by kernel_rfl) (two_keep HRR.out hK6) (fun hHeld => ?_)
  refine wpAnyH_take (i := 0) (oi := { dst := some 28, op := Op.fieldAddr 31 (Operand.tmp 3) 4, type := 0, pos := "more.go:19", after := #[], guard := none }) (v := ?_) rfl (by kernel_rfl) (by kernel_rfl) (by kernel_rfl) (fun _ _ _ h => h) (Or.inl ⟨by rfl, ?_⟩) (by assumption) ?_
  rotate_left
  · (intro ww hSw; (try dsimp only at hSw); go_simp; try with_reducible rfl)
  (try simp only [Act.put, List.setIfInBounds_toArray, List.set_cons_zero, List.set_cons_succ])
  refine wpAnyH_take (i := 1) (oi := { dst := some 29, op := Op.load 28 (Operand.tmp 28), type := 28, pos := "more.go:19", after := #[{ on := 0, ground := Ground.data }], guard := none }) (v := .agg (AT).toArray) rfl (by kernel_rfl) (by kernel_rfl) (by kernel_rfl) (fun _ _ _ h => h) (yieldsIf_load_mid (by rfl) _ _ rfl (b1) 19 rfl (AT) _ (fun ww hSw => hSw.2.2) Try.underlying28 rfl HIT.out) (by assumption) ?_
  (try simp only [Act.put, List.setIfInBounds_toArray, List.set_cons_zero, List.set_cons_succ])
  refine wpAnyH_take (i := 2) (oi := { dst := some 30, op := Op.fieldAddr 31 (Operand.tmp 3) 3, type := 0, pos := "more.go:19", after := #[{ on := 5, ground := Ground.gcOnly Departure.lateStores }], guard := none }) (v := ?_) rfl (by kernel_rfl) (by kernel_rfl) (by kernel_rfl) (fun _ _ _ h => h) (Or.inl ⟨by rfl, ?_⟩) (by assumption) ?_
  rotate_left
  · (intro ww hSw; (try dsimp only at hSw); go_simp; try with_reducible rfl)
  (try simp only [Act.put, List.setIfInBounds_toArray, List.set_cons_zero, List.set_cons_succ])
  refine wpAnyH_take (i := 3) (oi := { dst := some 31, op := Op.load 28 (Operand.tmp 30), type := 28, pos := "more.go:19", after := #[{ on := 2, ground := Ground.data }, { on := 5, ground := Ground.gcOnly Departure.lateStores }], guard := none }) (v := .agg (AF).toArray) rfl (by kernel_rfl) (by kernel_rfl) (by kernel_rfl) (fun _ _ _ h => h) (yieldsIf_load_mid (by rfl) _ _ rfl (b1) 3 rfl (AF) _ (fun ww hSw => hSw.2.1) Try.underlying28 rfl HIF.out) (by assumption) ?_
  (try simp only [Act.put, List.setIfInBounds_toArray, List.set_cons_zero, List.set_cons_succ])
  refine wpAnyH_take (i := 4) (oi := { dst := some 32, op := Op.fieldAddr 31 (Operand.tmp 9) 3, type := 0, pos := "more.go:19", after := #[{ on := 0, ground := Ground.phase }, { on := 1, ground := Ground.phase }, { on := 2, ground := Ground.textOnly Departure.lateStores }, { on := 3, ground := Ground.textOnly Departure.lateStores }], guard := none }) (v := ?_) rfl (by kernel_rfl) (by kernel_rfl) (by kernel_rfl) (fun _ _ _ h => h) (Or.inl ⟨by rfl, ?_⟩) (by assumption) ?_
  rotate_left
  · (intro ww hSw; (try dsimp only at hSw); go_simp; try with_reducible rfl)
  (try simp only [Act.put, List.setIfInBounds_toArray, List.set_cons_zero, List.set_cons_succ])
  refine wpAnyH_ready (rs := [5]) (by kernel_rfl) (by simp) ?_
  refine AllReadyH.cons (o := { dst := none, op := Op.store 28 (Operand.tmp 32) (Operand.tmp 29), type := 0, pos := "more.go:19", after := #[{ on := 4, ground := Ground.data }, { on := 1, ground := Ground.data }, { on := 0, ground := Ground.phase }, { on := 1, ground := Ground.phase }, { on := 2, ground := Ground.textOnly Departure.lateStores }, { on := 3, ground := Ground.textOnly Departure.lateStores }], guard := none }) rfl (fun K hK => ?_) AllReadyH.nil
  rw [if_pos (by rfl)]
  have ht5 : w6.drew.there b2 3 AT.toArray.size := by rw [HLT.out]; exact hB6.there' 3 16 (by rw [HL1.out]; decide)
  refine wp_store_mid 28 _ _ rfl b2 3 AT.toArray rfl rfl ht5 HIT.out HOT.out ?_
  refine hK.out _ _ (two_keep HRR.out (Kp.sets (And.left hHeld) hN6 hG6 3 AT)) (fun hHeld => ?_)
  clear hK K
  (try simp only [Act.put])
  have hK7 := Bk.sets AT 3 _ _ hB6
  rw [HS2.out] at hK7
  refine wpAnyH_take (i := 6) (oi := { dst := some 33, op := Op.fieldAddr 31 (Operand.tmp 9) 4, type := 0, pos := "more.go:19", after := #[{ on := 0, ground := Ground.phase }, { on := 1, ground := Ground.phase }, { on := 2, ground := Ground.phase }, { on := 3, ground := Ground.phase }, { on := 4, ground := Ground.phase }, { on := 5, ground := Ground.phase }], guard := none }) (v := ?_) rfl (by kernel_rfl) (by kernel_rfl) (by kernel_rfl) (fun _ _ _ h => h) (Or.inl ⟨by rfl, ?_⟩) (by assumption) ?_
  rotate_left
  · (intro ww hSw; (try dsimp only at hSw); go_simp; try with_reducible rfl)
  (try simp only [Act.put, List.setIfInBounds_toArray, List.set_cons_zero, List.set_cons_succ])
  refine wpAnyH_ready (rs := [7]) (by kernel_rfl) (by simp) ?_
  refine AllReadyH.cons (o := { dst := none, op := Op.store 28 (Operand.tmp 33) (Operand.tmp 31), type := 0, pos := "more.go:19", after := #[{ on := 6, ground := Ground.data }, { on := 3, ground := Ground.data }, { on := 5, ground := Ground.chain }, { on := 0, ground := Ground.phase }, { on := 1, ground := Ground.phase }, { on := 2, ground := Ground.phase }, { on := 3, ground := Ground.phase }, { on := 4, ground := Ground.phase }, { on := 5, ground := Ground.phase }], guard := none }) rfl (fun K hK => ?_) AllReadyH.nil
  rw [if_pos (by rfl)]
  have ht7 : (w6.drew.setCells b2 3 AT).there b2 19 AF.toArray.size := by rw [HLF.out]; exact hK7.there' 19 16 (by rw [HL2.out]; decide)
  refine wp_store_mid 28 _ _ rfl b2 19 AF.toArray rfl rfl ht7 HIF.out HOF.out ?_
  refine hK.out _ _ (two_keep HRR.out (Kp.sets (And.left hHeld) hN6 hG6 19 AF)) (fun hHeld => ?_)
  clear hK K
  (try simp only [Act.put])
  have hK8 := Bk.sets AF 19 _ _ hK7
  refine wpAnyH_done (by kernel_rfl) ?_ _
  refine NoPanic.normal ?_
  have HKp := Lib.hid (And.left hHeld)
  rw [HS3.out] at hK8
  have HB8 := Lib.hid hK8
  clear hHeld hK8 hK7 hB6 ht5 ht7 hK6
  generalize (w6.drew.setCells b2 3 AT).setCells b2 19 AF = w7 at *
  have hrq := HB8.out.range
  go_wp2_with (refine wpList_load_mid rfl 31 _ rfl b2 0 rfl VQ _ hrq Try.underlying31 rfl HIVQ.out ?_)
  rw [HVQ.out]
  refine (C3.out w7 (HX0.out.below HKp.out.2.1 (by rw [HB1.out]; exact Nat.le_refl _))).mono ?_
  rintro e w8 ⟨rfl, b8⟩
  rw [← HVQ.out]
  have hK9 := (HKp.out.below b8 (Nat.le_refl _)).drew
  have hB9 : Bk w8.drew b2 31 VQ.toArray := (show Bk w8 b2 31 VQ.toArray from HB8.out.below b8 HB8.out.lt)
  clear b8 HKp HB8 hrq C3
  go_upto_region 12 with (fail)
  obtain ⟨e1, e2, e3, e4, e5⟩ := HEE.out
  refine wp_region_noPanic ?_
  refine wp_region_held_drew (S := fun w' => Below b1 w w') (by kernel_rfl) (hK9.2.1) (fun hHeld => ?_)
  refine wpAnyH_take (i := 0) (oi := { dst := some 51, op := Op.move (Operand.tmp 7), type := 9, pos := "more.go:24", after := #[], guard := none }) (v := ?_) rfl (by kernel_rfl) (by kernel_rfl) (by kernel_rfl) (fun _ _ _ h => h) (Or.inl ⟨by rfl, ?_⟩) (by assumption) ?_
  rotate_left
  · (intro ww hSw; (try dsimp only at hSw); go_simp; try with_reducible rfl)
  (try simp only [Act.put, List.setIfInBounds_toArray, List.set_cons_zero, List.set_cons_succ])
  refine wpAnyH_take (i := 1) (oi := { dst := some 52, op := Op.call { callee := Callee.builtin Builtin.len, args := #[Operand.tmp 51], argTypes := #[9] }, type := 3, pos := "more.go:24", after := #[{ on := 0, ground := Ground.data }], guard := none }) (v := ?_) rfl (by kernel_rfl) (by kernel_rfl) (by kernel_rfl) (fun _ _ _ h => h) (Or.inl ⟨by rfl, ?_⟩) (by assumption) ?_
  rotate_left
  · (intro ww hSw; (try dsimp only at hSw); go_simp; try with_reducible rfl)
  (try simp only [Act.put, List.setIfInBounds_toArray, List.set_cons_zero, List.set_cons_succ])
  refine wpAnyH_take (i := 2) (oi := { dst := some 53, op := Op.binOp BinOp.lss 3 (Operand.tmp 52) (Operand.const (Value.int IntKind.i64 40)) 3, type := 4, pos := "more.go:24", after := #[{ on := 1, ground := Ground.data }], guard := none }) (v := ?_) rfl (by kernel_rfl) (by kernel_rfl) (by kernel_rfl) (fun _ _ _ h => h) (Or.inl ⟨by rfl, ?_⟩) (by assumption) ?_
  rotate_left
  · (intro ww hSw; (try dsimp only at hSw); go_simp; try with_reducible rfl)
  (try simp only [Act.put, List.setIfInBounds_toArray, List.set_cons_zero, List.set_cons_succ])
  refine wpAnyH_take (i := 3) (oi := { dst := some 54, op := Op.move (Operand.tmp 53), type := 4, pos := "more.go:24", after := #[{ on := 2, ground := Ground.data }], guard := none }) (v := ?_) rfl (by kernel_rfl) (by kernel_rfl) (by kernel_rfl) (fun _ _ _ h => h) (Or.inl ⟨by rfl, ?_⟩) (by assumption) ?_
  rotate_left
  · (intro ww hSw; (try dsimp only at hSw); go_simp; try with_reducible rfl)
  (try simp only [Act.put, List.setIfInBounds_toArray, List.set_cons_zero, List.set_cons_succ])
  refine wpAnyH_take (i := 4) (oi := { dst := some 55, op := Op.move (Operand.tmp 7), type := 9, pos := "more.go:24", after := #[{ on := 3, ground := Ground.guard }], guard := some (3, false) }) (v := ?_) rfl (by kernel_rfl) (by kernel_rfl) (by kernel_rfl) (fun _ _ _ h => h) (Or.inl ⟨by rfl, ?_⟩) (by assumption) ?_
  rotate_left
  · (intro ww hSw; (try dsimp only at hSw); go_simp; try with_reducible rfl)
  (try simp only [Act.put, List.setIfInBounds_toArray, List.set_cons_zero, List.set_cons_succ])
  refine wpAnyH_take (i := 5) (oi := { dst := some 56, op := Op.call { callee := Callee.builtin Builtin.len, args := #[Operand.tmp 55], argTypes := #[9] }, type := 3, pos := "more.go:24", after := #[{ on := 4, ground := Ground.data }, { on := 3, ground := Ground.guard }], guard := some (3, false) }) (v := ?_) rfl (by kernel_rfl) (by kernel_rfl) (by kernel_rfl) (fun _ _ _ h => h) (Or.inl ⟨by rfl, ?_⟩) (by assumption) ?_
  rotate_left
  · (intro ww hSw; (try dsimp only at hSw); go_simp; try with_reducible rfl)
  (try simp only [Act.put, List.setIfInBounds_toArray, List.set_cons_zero, List.set_cons_succ])
  refine wpAnyH_take (i := 6) (oi := { dst := some 57, op := Op.move (Operand.tmp 10), type := 9, pos := "more.go:24", after := #[{ on := 3, ground := Ground.guard }], guard := some (3, false) }) (v := ?_) rfl (by kernel_rfl) (by kernel_rfl) (by kernel_rfl) (fun _ _ _ h => h) (Or.inl ⟨by rfl, ?_⟩) (by assumption) ?_
  rotate_left
  · (intro ww hSw; (try dsimp only at hSw); go_simp; try with_reducible rfl)
  (try simp only [Act.put, List.setIfInBounds_toArray, List.set_cons_zero, List.set_cons_succ])
  refine wpAnyH_take (i := 7) (oi := { dst := some 58, op := Op.call { callee := Callee.builtin Builtin.len, args := #[Operand.tmp 57], argTypes := #[9] }, type := 3, pos := "more.go:24", after := #[{ on := 6, ground := Ground.data }, { on := 3, ground := Ground.guard }], guard := some (3, false) }) (v := ?_) rfl (by kernel_rfl) (by kernel_rfl) (by kernel_rfl) (fun _ _ _ h => h) (Or.inl ⟨by rfl, ?_⟩) (by assumption) ?_
  rotate_left
  · (intro ww hSw; (try dsimp only at hSw); go_simp; try with_reducible rfl)
  (try simp only [Act.put, List.setIfInBounds_toArray, List.set_cons_zero, List.set_cons_succ])
  refine wpAnyH_take (i := 8) (oi := { dst := some 59, op := Op.binOp BinOp.neq 3 (Operand.tmp 56) (Operand.tmp 58) 3, type := 4, pos := "more.go:24", after := #[{ on := 5, ground := Ground.data }, { on := 7, ground := Ground.data }, { on := 3, ground := Ground.guard }], guard := some (3, false) }) (v := ?_) rfl (by kernel_rfl) (by kernel_rfl) (by kernel_rfl) (fun _ _ _ h => h) (Or.inl ⟨by rfl, ?_⟩) (by assumption) ?_
  rotate_left
  · (intro ww hSw; (try dsimp only at hSw); go_simp; try with_reducible rfl)
  (try simp only [Act.put, List.setIfInBounds_toArray, List.set_cons_zero, List.set_cons_succ])
  refine wpAnyH_take (i := 9) (oi := { dst := some 60, op := Op.pick (Operand.tmp 54) (Operand.const (Value.bool true)) (Operand.tmp 59), type := 4, pos := "more.go:24", after := #[{ on := 3, ground := Ground.data }, { on := 8, ground := Ground.data }], guard := none }) (v := ?_) rfl (by kernel_rfl) (by kernel_rfl) (by kernel_rfl) (fun _ _ _ h => h) (Or.inl ⟨by rfl, ?_⟩) (by assumption) ?_
  rotate_left
  · (intro ww hSw; (try dsimp only at hSw); go_simp; try with_reducible rfl)
  (try simp only [Act.put, List.setIfInBounds_toArray, List.set_cons_zero, List.set_cons_succ])
  refine wpAnyH_take (i := 10) (oi := { dst := some 61, op := Op.move (Operand.tmp 60), type := 4, pos := "more.go:24", after := #[{ on := 9, ground := Ground.data }, { on := 3, ground := Ground.chain }], guard := none }) (v := ?_) rfl (by kernel_rfl) (by kernel_rfl) (by kernel_rfl) (fun _ _ _ h => h) (Or.inl ⟨by rfl, ?_⟩) (by assumption) ?_
  rotate_left
  · (intro ww hSw; (try dsimp only at hSw); go_simp; try with_reducible rfl)
  (try simp only [Act.put, List.setIfInBounds_toArray, List.set_cons_zero, List.set_cons_succ])
  refine wpAnyH_take (i := 11) (oi := { dst := some 62, op := Op.move (Operand.tmp 7), type := 9, pos := "more.go:24", after := #[{ on := 10, ground := Ground.guard }], guard := some (10, false) }) (v := ?_) rfl (by kernel_rfl) (by kernel_rfl) (by kernel_rfl) (fun _ _ _ h => h) (Or.inl ⟨by rfl, ?_⟩) (by assumption) ?_
  rotate_left
  · (intro ww hSw; (try dsimp only at hSw); go_simp; try with_reducible rfl)
  (try simp only [Act.put, List.setIfInBounds_toArray, List.set_cons_zero, List.set_cons_succ])
  refine wpAnyH_take (i := 12) (oi := { dst := some 63, op := Op.slice 9 (Operand.tmp 62) none (some (Operand.const (Value.int IntKind.i64 7))) none, type := 9, pos := "more.go:24", after := #[{ on := 11, ground := Ground.data }, { on := 10, ground := Ground.guard }], guard := some (10, false) }) (v := ?_) rfl (by kernel_rfl) (by kernel_rfl) (by kernel_rfl) (fun _ _ _ h => h) (Or.inl ⟨by rfl, ?_⟩) (by assumption) ?_
  rotate_left
  · (intro ww hSw; (try dsimp only at hSw); go_simp; try with_reducible rfl)
  (try simp only [Act.put, List.setIfInBounds_toArray, List.set_cons_zero, List.set_cons_succ])
  refine wpAnyH_take (i := 13) (oi := { dst := some 64, op := Op.move (Operand.tmp 10), type := 9, pos := "more.go:24", after := #[{ on := 10, ground := Ground.guard }], guard := some (10, false) }) (v := ?_) rfl (by kernel_rfl) (by kernel_rfl) (by kernel_rfl) (fun _ _ _ h => h) (Or.inl ⟨by rfl, ?_⟩) (by assumption) ?_
  rotate_left
  · (intro ww hSw; (try dsimp only at hSw); go_simp; try with_reducible rfl)
  (try simp only [Act.put, List.setIfInBounds_toArray, List.set_cons_zero, List.set_cons_succ])
  refine wpAnyH_take (i := 14) (oi := { dst := some 65, op := Op.slice 9 (Operand.tmp 64) none (some (Operand.const (Value.int IntKind.i64 7))) none, type := 9, pos := "more.go:24", after := #[{ on := 13, ground := Ground.data }, { on := 10, ground := Ground.guard }], guard := some (10, false) }) (v := ?_) rfl (by kernel_rfl) (by kernel_rfl) (by kernel_rfl) (fun _ _ _ h => h) (Or.inl ⟨by rfl, ?_⟩) (by assumption) ?_
  rotate_left
  · (intro ww hSw; (try dsimp only at hSw); go_simp; try with_reducible rfl)
  (try simp only [Act.put, List.setIfInBounds_toArray, List.set_cons_zero, List.set_cons_succ])
  refine wpAnyH_take (i := 15) (oi := { dst := some 66, op := Op.binOp BinOp.neq 9 (Operand.tmp 63) (Operand.tmp 65) 9, type := 4, pos := "more.go:24", after := #[{ on := 12, ground := Ground.data }, { on := 14, ground := Ground.data }, { on := 10, ground := Ground.guard }], guard := some (10, false) }) (v := ?_) rfl (by kernel_rfl) (by kernel_rfl) (by kernel_rfl) (fun _ _ _ h => h) (Or.inl ⟨by rfl, ?_⟩) (by assumption) ?_
  rotate_left
  · (intro ww hSw; (try dsimp only at hSw); go_simp; try with_reducible rfl)
  (try simp only [Act.put, List.setIfInBounds_toArray, List.set_cons_zero, List.set_cons_succ])
  refine wpAnyH_take (i := 16) (oi := { dst := some 67, op := Op.pick (Operand.tmp 61) (Operand.const (Value.bool true)) (Operand.tmp 66), type := 4, pos := "more.go:24", after := #[{ on := 10, ground := Ground.data }, { on := 15, ground := Ground.data }], guard := none }) (v := ?_) rfl (by kernel_rfl) (by kernel_rfl) (by kernel_rfl) (fun _ _ _ h => h) (Or.inl ⟨by rfl, ?_⟩) (by assumption) ?_
  rotate_left
  · (intro ww hSw; (try dsimp only at hSw); go_simp; try with_reducible rfl)
  (try simp only [Act.put, List.setIfInBounds_toArray, List.set_cons_zero, List.set_cons_succ])
  refine wpAnyH_take (i := 17) (oi := { dst := some 68, op := Op.move (Operand.tmp 67), type := 4, pos := "more.go:24", after := #[{ on := 16, ground := Ground.data }, { on := 10, ground := Ground.chain }], guard := none }) (v := ?_) rfl (by kernel_rfl) (by kernel_rfl) (by kernel_rfl) (fun _ _ _ h => h) (Or.inl ⟨by rfl, ?_⟩) (by assumption) ?_
  rotate_left
  · (intro ww hSw; (try dsimp only at hSw); go_simp; try with_reducible rfl)
  (try simp only [Act.put, List.setIfInBounds_toArray, List.set_cons_zero, List.set_cons_succ])
  refine wpAnyH_take (i := 18) (oi := { dst := some 69, op := Op.move (Operand.tmp 10), type := 9, pos := "more.go:24", after := #[{ on := 17, ground := Ground.guard }], guard := some (17, false) }) (v := ?_) rfl (by kernel_rfl) (by kernel_rfl) (by kernel_rfl) (fun _ _ _ h => h) (Or.inl ⟨by rfl, ?_⟩) (by assumption) ?_
  rotate_left
  · (intro ww hSw; (try dsimp only at hSw); go_simp; try with_reducible rfl)
  (try simp only [Act.put, List.setIfInBounds_toArray, List.set_cons_zero, List.set_cons_succ])
  refine wpAnyH_take (i := 19) (oi := { dst := some 70, op := Op.index 9 (Operand.tmp 69) (Operand.const (Value.int IntKind.i64 7)), type := 5, pos := "more.go:24", after := #[{ on := 18, ground := Ground.data }, { on := 17, ground := Ground.guard }], guard := some (17, false) }) (v := ?_) rfl (by kernel_rfl) (by kernel_rfl) (by kernel_rfl) (fun _ _ _ h => h) (Or.inl ⟨by rfl, ?_⟩) (by assumption) ?_
  rotate_left
  · (intro ww hSw; (try dsimp only at hSw); go_simp; try with_reducible rfl)
  (try simp only [Act.put, List.setIfInBounds_toArray, List.set_cons_zero, List.set_cons_succ])
  refine wpAnyH_take (i := 20) (oi := { dst := some 71, op := Op.move (Operand.tmp 1), type := 5, pos := "more.go:24", after := #[{ on := 17, ground := Ground.guard }], guard := some (17, false) }) (v := ?_) rfl (by kernel_rfl) (by kernel_rfl) (by kernel_rfl) (fun _ _ _ h => h) (Or.inl ⟨by rfl, ?_⟩) (by assumption) ?_
  rotate_left
  · (intro ww hSw; (try dsimp only at hSw); go_simp; try with_reducible rfl)
  (try simp only [Act.put, List.setIfInBounds_toArray, List.set_cons_zero, List.set_cons_succ])
  refine wpAnyH_take (i := 21) (oi := { dst := some 72, op := Op.binOp BinOp.neq 5 (Operand.tmp 70) (Operand.tmp 71) 5, type := 4, pos := "more.go:24", after := #[{ on := 19, ground := Ground.data }, { on := 20, ground := Ground.data }, { on := 17, ground := Ground.guard }], guard := some (17, false) }) (v := ?_) rfl (by kernel_rfl) (by kernel_rfl) (by kernel_rfl) (fun _ _ _ h => h) (Or.inl ⟨by rfl, ?_⟩) (by assumption) ?_
  rotate_left
  · (intro ww hSw; (try dsimp only at hSw); go_simp; try with_reducible rfl)
  (try simp only [Act.put, List.setIfInBounds_toArray, List.set_cons_zero, List.set_cons_succ])
  refine wpAnyH_take (i := 22) (oi := { dst := some 73, op := Op.pick (Operand.tmp 68) (Operand.const (Value.bool true)) (Operand.tmp 72), type := 4, pos := "more.go:24", after := #[{ on := 17, ground := Ground.data }, { on := 21, ground := Ground.data }], guard := none }) (v := ?_) rfl (by kernel_rfl) (by kernel_rfl) (by kernel_rfl) (fun _ _ _ h => h) (Or.inl ⟨by rfl, ?_⟩) (by assumption) ?_
  rotate_left
  · (intro ww hSw; (try dsimp only at hSw); go_simp; try with_reducible rfl)
  (try simp only [Act.put, List.setIfInBounds_toArray, List.set_cons_zero, List.set_cons_succ])
  refine wpAnyH_take (i := 23) (oi := { dst := some 74, op := Op.move (Operand.tmp 73), type := 4, pos := "more.go:24", after := #[{ on := 22, ground := Ground.data }, { on := 17, ground := Ground.chain }], guard := none }) (v := ?_) rfl (by kernel_rfl) (by kernel_rfl) (by kernel_rfl) (fun _ _ _ h => h) (Or.inl ⟨by rfl, ?_⟩) (by assumption) ?_
  rotate_left
  · (intro ww hSw; (try dsimp only at hSw); go_simp; try with_reducible rfl)
  (try simp only [Act.put, List.setIfInBounds_toArray, List.set_cons_zero, List.set_cons_succ])
  refine wpAnyH_take (i := 24) (oi := { dst := some 75, op := Op.move (Operand.tmp 7), type := 9, pos := "more.go:24", after := #[{ on := 23, ground := Ground.guard }], guard := some (23, false) }) (v := ?_) rfl (by kernel_rfl) (by kernel_rfl) (by kernel_rfl) (fun _ _ _ h => h) (Or.inl ⟨by rfl, ?_⟩) (by assumption) ?_
  rotate_left
  · (intro ww hSw; (try dsimp only at hSw); go_simp; try with_reducible rfl)
  (try simp only [Act.put, List.setIfInBounds_toArray, List.set_cons_zero, List.set_cons_succ])
  refine wpAnyH_take (i := 25) (oi := { dst := some 76, op := Op.slice 9 (Operand.tmp 75) (some (Operand.const (Value.int IntKind.i64 8))) (some (Operand.const (Value.int IntKind.i64 24))) none, type := 9, pos := "more.go:24", after := #[{ on := 24, ground := Ground.data }, { on := 23, ground := Ground.guard }], guard := some (23, false) }) (v := ?_) rfl (by kernel_rfl) (by kernel_rfl) (by kernel_rfl) (fun _ _ _ h => h) (Or.inl ⟨by rfl, ?_⟩) (by assumption) ?_
  rotate_left
  · (intro ww hSw; (try dsimp only at hSw); go_simp; try with_reducible rfl)
  (try simp only [Act.put, List.setIfInBounds_toArray, List.set_cons_zero, List.set_cons_succ])
  refine wpAnyH_take (i := 26) (oi := { dst := some 77, op := Op.move (Operand.tmp 10), type := 9, pos := "more.go:24", after := #[{ on := 23, ground := Ground.guard }], guard := some (23, false) }) (v := ?_) rfl (by kernel_rfl) (by kernel_rfl) (by kernel_rfl) (fun _ _ _ h => h) (Or.inl ⟨by rfl, ?_⟩) (by assumption) ?_
  rotate_left
  · (intro ww hSw; (try dsimp only at hSw); go_simp; try with_reducible rfl)
  (try simp only [Act.put, List.setIfInBounds_toArray, List.set_cons_zero, List.set_cons_succ])
  refine wpAnyH_take (i := 27) (oi := { dst := some 78, op := Op.slice 9 (Operand.tmp 77) (some (Operand.const (Value.int IntKind.i64 24))) (some (Operand.const (Value.int IntKind.i64 40))) none, type := 9, pos := "more.go:24", after := #[{ on := 26, ground := Ground.data }, { on := 23, ground := Ground.guard }], guard := some (23, false) }) (v := ?_) rfl (by kernel_rfl) (by kernel_rfl) (by kernel_rfl) (fun _ _ _ h => h) (Or.inl ⟨by rfl, ?_⟩) (by assumption) ?_
  rotate_left
  · (intro ww hSw; (try dsimp only at hSw); go_simp; try with_reducible rfl)
  (try simp only [Act.put, List.setIfInBounds_toArray, List.set_cons_zero, List.set_cons_succ])
  refine wpAnyH_take (i := 28) (oi := { dst := some 79, op := Op.binOp BinOp.neq 9 (Operand.tmp 76) (Operand.tmp 78) 9, type := 4, pos := "more.go:24", after := #[{ on := 25, ground := Ground.data }, { on := 27, ground := Ground.data }, { on := 23, ground := Ground.guard }], guard := some (23, false) }) (v := ?_) rfl (by kernel_rfl) (by kernel_rfl) (by kernel_rfl) (fun _ _ _ h => h) (Or.inl ⟨by rfl, ?_⟩) (by assumption) ?_
  rotate_left
  · (intro ww hSw; (try dsimp only at hSw); go_simp; try with_reducible rfl)
  (try simp only [Act.put, List.setIfInBounds_toArray, List.set_cons_zero, List.set_cons_succ])
  refine wpAnyH_take (i := 29) (oi := { dst := some 80, op := Op.pick (Operand.tmp 74) (Operand.const (Value.bool true)) (Operand.tmp 79), type := 4, pos := "more.go:24", after := #[{ on := 23, ground := Ground.data }, { on := 28, ground := Ground.data }], guard := none }) (v := ?_) rfl (by kernel_rfl) (by kernel_rfl) (by kernel_rfl) (fun _ _ _ h => h) (Or.inl ⟨by rfl, ?_⟩) (by assumption) ?_
  rotate_left
  · (intro ww hSw; (try dsimp only at hSw); go_simp; try with_reducible rfl)
  (try simp only [Act.put, List.setIfInBounds_toArray, List.set_cons_zero, List.set_cons_succ])
  refine wpAnyH_take (i := 30) (oi := { dst := some 81, op := Op.move (Operand.tmp 80), type := 4, pos := "more.go:24", after := #[{ on := 29, ground := Ground.data }, { on := 23, ground := Ground.chain }], guard := none }) (v := ?_) rfl (by kernel_rfl) (by kernel_rfl) (by kernel_rfl) (fun _ _ _ h => h) (Or.inl ⟨by rfl, ?_⟩) (by assumption) ?_
  rotate_left
  · (intro ww hSw; (try dsimp only at hSw); go_simp; try with_reducible rfl)
  (try simp only [Act.put, List.setIfInBounds_toArray, List.set_cons_zero, List.set_cons_succ])
  refine wpAnyH_take (i := 31) (oi := { dst := some 82, op := Op.move (Operand.tmp 7), type := 9, pos := "more.go:24", after := #[{ on := 30, ground := Ground.guard }], guard := some (30, false) }) (v := ?_) rfl (by kernel_rfl) (by kernel_rfl) (by kernel_rfl) (fun _ _ _ h => h) (Or.inl ⟨by rfl, ?_⟩) (by assumption) ?_
  rotate_left
  · (intro ww hSw; (try dsimp only at hSw); go_simp; try with_reducible rfl)
  (try simp only [Act.put, List.setIfInBounds_toArray, List.set_cons_zero, List.set_cons_succ])
  refine wpAnyH_take (i := 32) (oi := { dst := some 83, op := Op.slice 9 (Operand.tmp 82) (some (Operand.const (Value.int IntKind.i64 24))) (some (Operand.const (Value.int IntKind.i64 40))) none, type := 9, pos := "more.go:24", after := #[{ on := 31, ground := Ground.data }, { on := 30, ground := Ground.guard }], guard := some (30, false) }) (v := ?_) rfl (by kernel_rfl) (by kernel_rfl) (by kernel_rfl) (fun _ _ _ h => h) (Or.inl ⟨by rfl, ?_⟩) (by assumption) ?_
  rotate_left
  · (intro ww hSw; (try dsimp only at hSw); go_simp; try with_reducible rfl)
  (try simp only [Act.put, List.setIfInBounds_toArray, List.set_cons_zero, List.set_cons_succ])
  refine wpAnyH_take (i := 33) (oi := { dst := some 84, op := Op.move (Operand.tmp 10), type := 9, pos := "more.go:24", after := #[{ on := 30, ground := Ground.guard }], guard := some (30, false) }) (v := ?_) rfl (by kernel_rfl) (by kernel_rfl) (by kernel_rfl) (fun _ _ _ h => h) (Or.inl ⟨by rfl, ?_⟩) (by assumption) ?_
  rotate_left
  · (intro ww hSw; (try dsimp only at hSw); go_simp; try with_reducible rfl)
  (try simp only [Act.put, List.setIfInBounds_toArray, List.set_cons_zero, List.set_cons_succ])
  refine wpAnyH_take (i := 34) (oi := { dst := some 85, op := Op.slice 9 (Operand.tmp 84) (some (Operand.const (Value.int IntKind.i64 8))) (some (Operand.const (Value.int IntKind.i64 24))) none, type := 9, pos := "more.go:24", after := #[{ on := 33, ground := Ground.data }, { on := 30, ground := Ground.guard }], guard := some (30, false) }) (v := ?_) rfl (by kernel_rfl) (by kernel_rfl) (by kernel_rfl) (fun _ _ _ h => h) (Or.inl ⟨by rfl, ?_⟩) (by assumption) ?_
  rotate_left
  · (intro ww hSw; (try dsimp only at hSw); go_simp; try with_reducible rfl)
  (try simp only [Act.put, List.setIfInBounds_toArray, List.set_cons_zero, List.set_cons_succ])
  refine wpAnyH_take (i := 35) (oi := { dst := some 86, op := Op.binOp BinOp.neq 9 (Operand.tmp 83) (Operand.tmp 85) 9, type := 4, pos := "more.go:24", after := #[{ on := 32, ground := Ground.data }, { on := 34, ground := Ground.data }, { on := 30, ground := Ground.guard }], guard := some (30, false) }) (v := ?_) rfl (by kernel_rfl) (by kernel_rfl) (by kernel_rfl) (fun _ _ _ h => h) (Or.inl ⟨by rfl, ?_⟩) (by assumption) ?_
  rotate_left
  · (intro ww hSw; (try dsimp only at hSw); go_simp; try with_reducible rfl)
  (try simp only [Act.put, List.setIfInBounds_toArray, List.set_cons_zero, List.set_cons_succ])
  refine wpAnyH_take (i := 36) (oi := { dst := some 87, op := Op.pick (Operand.tmp 81) (Operand.const (Value.bool true)) (Operand.tmp 86), type := 4, pos := "more.go:24", after := #[{ on := 30, ground := Ground.data }, { on := 35, ground := Ground.data }], guard := none }) (v := ?_) rfl (by kernel_rfl) (by kernel_rfl) (by kernel_rfl) (fun _ _ _ h => h) (Or.inl ⟨by rfl, ?_⟩) (by assumption) ?_
  rotate_left
  · (intro ww hSw; (try dsimp only at hSw); go_simp; try with_reducible rfl)
  (try simp only [Act.put, List.setIfInBounds_toArray, List.set_cons_zero, List.set_cons_succ])
  refine wpAnyH_take (i := 37) (oi := { dst := some 88, op := Op.move (Operand.tmp 87), type := 4, pos := "more.go:24", after := #[{ on := 36, ground := Ground.data }, { on := 30, ground := Ground.chain }], guard := none }) (v := ?_) rfl (by kernel_rfl) (by kernel_rfl) (by kernel_rfl) (fun _ _ _ h => h) (Or.inl ⟨by rfl, ?_⟩) (by assumption) ?_
  rotate_left
  · (intro ww hSw; (try dsimp only at hSw); go_simp; try with_reducible rfl)
  (try simp only [Act.put, List.setIfInBounds_toArray, List.set_cons_zero, List.set_cons_succ])
  refine wpAnyH_take (i := 38) (oi := { dst := some 89, op := Op.move (Operand.tmp 7), type := 9, pos := "more.go:24", after := #[{ on := 37, ground := Ground.guard }], guard := some (37, false) }) (v := ?_) rfl (by kernel_rfl) (by kernel_rfl) (by kernel_rfl) (fun _ _ _ h => h) (Or.inl ⟨by rfl, ?_⟩) (by assumption) ?_
  rotate_left
  · (intro ww hSw; (try dsimp only at hSw); go_simp; try with_reducible rfl)
  (try simp only [Act.put, List.setIfInBounds_toArray, List.set_cons_zero, List.set_cons_succ])
  refine wpAnyH_take (i := 39) (oi := { dst := some 90, op := Op.slice 9 (Operand.tmp 89) (some (Operand.const (Value.int IntKind.i64 40))) none none, type := 9, pos := "more.go:24", after := #[{ on := 38, ground := Ground.data }, { on := 37, ground := Ground.guard }], guard := some (37, false) }) (v := ?_) rfl (by kernel_rfl) (by kernel_rfl) (by kernel_rfl) (fun _ _ _ h => h) (Or.inl ⟨by rfl, ?_⟩) (by assumption) ?_
  rotate_left
  · (intro ww hSw; (try dsimp only at hSw); go_simp; try with_reducible rfl)
  (try simp only [Act.put, List.setIfInBounds_toArray, List.set_cons_zero, List.set_cons_succ])
  refine wpAnyH_take (i := 40) (oi := { dst := some 91, op := Op.move (Operand.tmp 10), type := 9, pos := "more.go:24", after := #[{ on := 37, ground := Ground.guard }], guard := some (37, false) }) (v := ?_) rfl (by kernel_rfl) (by kernel_rfl) (by kernel_rfl) (fun _ _ _ h => h) (Or.inl ⟨by rfl, ?_⟩) (by assumption) ?_
  rotate_left
  · (intro ww hSw; (try dsimp only at hSw); go_simp; try with_reducible rfl)
  (try simp only [Act.put, List.setIfInBounds_toArray, List.set_cons_zero, List.set_cons_succ])
  refine wpAnyH_take (i := 41) (oi := { dst := some 92, op := Op.slice 9 (Operand.tmp 91) (some (Operand.const (Value.int IntKind.i64 40))) none none, type := 9, pos := "more.go:24", after := #[{ on := 40, ground := Ground.data }, { on := 37, ground := Ground.guard }], guard := some (37, false) }) (v := ?_) rfl (by kernel_rfl) (by kernel_rfl) (by kernel_rfl) (fun _ _ _ h => h) (Or.inl ⟨by rfl, ?_⟩) (by assumption) ?_
  rotate_left
  · (intro ww hSw; (try dsimp only at hSw); go_simp; try with_reducible rfl)
  (try simp only [Act.put, List.setIfInBounds_toArray, List.set_cons_zero, List.set_cons_succ])
  refine wpAnyH_take (i := 42) (oi := { dst := some 93, op := Op.binOp BinOp.neq 9 (Operand.tmp 90) (Operand.tmp 92) 9, type := 4, pos := "more.go:24", after := #[{ on := 39, ground := Ground.data }, { on := 41, ground := Ground.data }, { on := 37, ground := Ground.guard }], guard := some (37, false) }) (v := ?_) rfl (by kernel_rfl) (by kernel_rfl) (by kernel_rfl) (fun _ _ _ h => h) (Or.inl ⟨by rfl, ?_⟩) (by assumption) ?_
  rotate_left
  · (intro ww hSw; (try dsimp only at hSw); go_simp; try with_reducible rfl)
  (try simp only [Act.put, List.setIfInBounds_toArray, List.set_cons_zero, List.set_cons_succ])
  refine wpAnyH_take (i := 43) (oi := { dst := some 94, op := Op.pick (Operand.tmp 88) (Operand.const (Value.bool true)) (Operand.tmp 93), type := 4, pos := "more.go:24", after := #[{ on := 37, ground := Ground.data }, { on := 42, ground := Ground.data }], guard := none }) (v := ?_) rfl (by kernel_rfl) (by kernel_rfl) (by kernel_rfl) (fun _ _ _ h => h) (Or.inl ⟨by rfl, ?_⟩) (by assumption) ?_
  rotate_left
  · (intro ww hSw; (try dsimp only at hSw); go_simp; try with_reducible rfl)
  (try simp only [Act.put, List.setIfInBounds_toArray, List.set_cons_zero, List.set_cons_succ])
  refine wpAnyH_done (by kernel_rfl) ?_ _
  refine NoPanic.normal ?_
  clear e1 e2 e3 e4 e5 hHeld HEE
  have HK9 := Lib.hid hK9
  have HB9 := Lib.hid hB9
  have c36 := hK9.hd.at HC36.out
  clear hK9 hB9
  generalize w8.drew = w9 at *
  go_wp2_with fail
  go_ret
  exact ⟨rfl, by rw [HB1.out]; exact HK9.out.2.1⟩
set_option maxRecDepth 100000 in
set_option maxHeartbeats 1000000 in
theorem ip6Fields_over (p : Pk6) (v : Value) (h i : Int) (w : World) (hx : Exs w v p.exts) (hr : Reach6 p) (hg : p.great = false) (h0 : 0 ≤ h) (h1 : h ≤ 255) (hw : p.why = 0) (hf : p.frag = false) (hb : ¬ p.behind + 8 ≤ 65535) :
    Calls Try.prog 10 #[.agg (p.vals v).toArray, .int .u8 h, .int .u32 i] w fun e w' => e = .returned (.bool true) ∧ Below w.heap.size w w' := by
  have kh : IntKind.i64.wrap h = h := IntWalk.i64_in _ (by omega)
  have hs := sm_great hg
  have hsq : Sm (p.turn h) := ⟨hs.len, hs.data, hs.body⟩
  have hid := hr.id
  have hsc : Sm (p.cut6 h i) := ⟨hs.len, hs.data, hs.body⟩
  have hw2 := turn_why h h0 h1 hw
  have hbz := bytes_size p
  have hbh := (why_ok hw).behind
  have hz40 : 40 ≤ p.bytes.size := by omega
  have hzmx : p.bytes.size ≤ 65575 := by omega
  have hdz : p.data.size ≤ p.bytes.size - 40 := by rw [hbz]; unfold Pk6.behind; omega
  have k7 : 7 < (p.turn h).bytes.size := by rw [turn_size]; omega
  have E1 := turn_first p h
  have E2 := turn_fr p h
  have E3 := turn_dst p h
  have E4 := turn_rest p h
  have q1 := turn_size p h
  rw [q1] at E4
  have E5 : (((p.turn h).bytes[7]'k7).toNat : Int) = h := by
    rw [← byN_at _ 7 k7, by7]
    exact u8i_nat (x := h) h0 (by omega)
  have C2 := Lib.hid (fun (W : World) (hW : Exs W v p.exts) => bytes_ok p v W hW hs hw hid)
  have C3 := Lib.hid (fun (W : World) (hW : Exs W v p.exts) => bytes_ok (p.turn h) v W hW hsq hw2 hid)
  have C5 := Lib.hid (fun (W : World) (hW : Exs W v p.exts) => bytes_bad (p.cut6 h i) v W hW hsc (by rw [bne_iff_ne]; exact cut6_long h i hf hb))
  have y65 : (65575 : Int) < (p.bytes.size : Int) + 8 := by omega
  have k65 : IntKind.i64.wrap ((p.bytes.size : Int) + 8) = (p.bytes.size : Int) + 8 := IntWalk.i64_in _ (by omega)
  clear hsc hb
  generalize (p.cut6 h i).why = cc at *
  have HEE := Lib.hid (And.intro E1 (And.intro E2 (And.intro E3 (And.intro E4 E5))))
  clear E1 E2 E3 E4 E5 hw2 hbz hbh hs hsq hw
  have y40 : (40 : Int) ≤ (p.bytes.size : Int) := by omega
  have y7 : (7 : Int) < (p.bytes.size : Int) := by omega
  have y7' : (7 : Int) ≤ (p.bytes.size : Int) := by omega
  have y8 : (8 : Int) ≤ (p.bytes.size : Int) := by omega
  have y24 : (24 : Int) ≤ (p.bytes.size : Int) := by omega
  have y4 : (4 : Int) ≤ (p.bytes.size : Int) := by omega
  have yb : ¬ (p.bytes.size : Int) < 40 := by omega
  have yb' : decide ((p.bytes.size : Int) < 40) = false := decide_eq_false yb
  clear hdz hz40 hzmx
  generalize p.bytes = XA at *
  generalize (p.turn h).bytes = XB at *
  obtain ⟨V1, hV1⟩ : ∃ V, V = ({ p with hop := h } : Pk6).vals v := ⟨_, rfl⟩
  obtain ⟨V2, hV2⟩ : ∃ V, V = ({ p with hop := h, fr := p.dst, hfr := p.hdst } : Pk6).vals v := ⟨_, rfl⟩
  obtain ⟨VQ, hVQ⟩ : ∃ V, V = (p.turn h).vals v := ⟨_, rfl⟩
  obtain ⟨AF, hAF⟩ : ∃ A, A = bytV p.fr := ⟨_, rfl⟩
  obtain ⟨AT, hAT⟩ : ∃ A, A = bytV p.dst := ⟨_, rfl⟩
  have HS1 : Hid ((p.vals v).toArray.setIfInBounds 2 (.int .i64 h) = V1.toArray) := Lib.hid (by rw [hV1]; exact vset2 p v h)
  have HS2 : Hid (puts V1.toArray 3 AT = V2.toArray) := Lib.hid (by rw [hV1, hV2, hAT]; exact vputs_fr _ v p.dst p.hdst)
  have HS3 : Hid (puts V2.toArray 19 AF = VQ.toArray) := Lib.hid (by rw [hV2, hVQ, hAF]; exact vputs_dst _ v p.fr p.hfr)
  have HL1 : Hid (V1.toArray.size = 42) := Lib.hid (by rw [hV1, List.size_toArray, vals_len])
  have HL2 : Hid (V2.toArray.size = 42) := Lib.hid (by rw [hV2, List.size_toArray, vals_len])
  have HLF : Hid (AF.toArray.size = 16) := Lib.hid (by rw [hAF, List.size_toArray, bytV_len, p.hfr])
  have HLT : Hid (AT.toArray.size = 16) := Lib.hid (by rw [hAT, List.size_toArray, bytV_len, p.hdst])
  have HIF : Hid ((Try.prog.info? 28).map (·.size) = some AF.length) := Lib.hid (by rw [hAF, bytV_len, p.hfr]; kernel_rfl)
  have HIT : Hid ((Try.prog.info? 28).map (·.size) = some AT.length) := Lib.hid (by rw [hAT, bytV_len, p.hdst]; kernel_rfl)
  have HOF : Hid (AF.toArray.all (·.oneCell') = true) := Lib.hid (by rw [hAF, List.all_toArray, List.all_eq_true]; exact bytV_one _)
  have HOT : Hid (AT.toArray.all (·.oneCell') = true) := Lib.hid (by rw [hAT, List.all_toArray, List.all_eq_true]; exact bytV_one _)
  have HRG : Hid (∀ (W : World) (b : Nat), Bk W b 31 (p.vals v).toArray → W.rangeAt b 3 AF ∧ W.rangeAt b 19 AT) := Lib.hid (fun W b hb => by rw [hAF, hAT]; exact fr_range p v W b _ hb)
  have HIVQ : Hid ((Try.prog.info? 31).map (·.size) = some VQ.length) := Lib.hid (by rw [hVQ]; exact Try.info6 _ _)
  have HOv : Hid ((p.vals v).toArray.all (·.oneCell') = true) := Lib.hid (vals_one _ _ (exs_onecell hx))
  have HVQ := Lib.hid hVQ
  obtain ⟨VW1, hVW1⟩ : ∃ V, V = ({ p.turn h with frag := true } : Pk6).vals v := ⟨_, rfl⟩
  obtain ⟨VW, hVW⟩ : ∃ V, V = (p.cut6 h i).vals v := ⟨_, rfl⟩
  have HS4 : Hid (VQ.toArray.setIfInBounds 36 (.bool true) = VW1.toArray) := Lib.hid (by rw [hVQ, hVW1]; exact vtail (p.turn h) v 1 _ _ v rfl rfl)
  have HS5 : Hid (VW1.toArray.setIfInBounds 37 (.int .u32 i) = VW.toArray) := Lib.hid (by rw [hVW1, hVW]; exact vtail _ v 2 _ (p.cut6 h i) v rfl rfl)
  have HD36 : Hid (VQ[36]? = some (.bool false)) := Lib.hid (by rw [hVQ, ← hf]; exact vals_tail (p.turn h) v 1)
  have HD37 : Hid (VW1[37]? = some (.int .u32 p.id)) := Lib.hid (by rw [hVW1]; exact vals_tail _ v 2)
  have HIVW : Hid ((Try.prog.info? 31).map (·.size) = some VW.length) := Lib.hid (by rw [hVW]; exact Try.info6 _ _)
  have HVW := Lib.hid hVW
  clear hV1 hV2 hVQ hAF hAT hVW1 hVW
  obtain ⟨Z, hZ⟩ : ∃ Z, Z = pk0.vals (.slice none 0 0) := ⟨_, rfl⟩
  have hz0 : Z.toArray = #[.int .i64 0, .int .i64 0, .int .i64 0, .int .u8 0, .int .u8 0, .int .u8 0, .int .u8 0, .int .u8 0, .int .u8 0, .int .u8 0, .int .u8 0, .int .u8 0, .int .u8 0, .int .u8 0, .int .u8 0, .int .u8 0, .int .u8 0, .int .u8 0, .int .u8 0, .int .u8 0, .int .u8 0, .int .u8 0, .int .u8 0, .int .u8 0, .int .u8 0, .int .u8 0, .int .u8 0, .int .u8 0, .int .u8 0, .int .u8 0, .int .u8 0, .int .u8 0, .int .u8 0, .int .u8 0, .int .u8 0, .slice none 0 0, .bool false, .int .u32 0, .int .i64 0, .bool false, .int .i64 0, .string ⟨#[]⟩] := by rw [hZ]; exact pk0_vals
  have HZ0 := Lib.hid hz0
  have HZl : Hid (∀ (p : Pk6) (v : Value), (p.vals v).length = Z.toArray.size) := Lib.hid (fun p v => by rw [List.size_toArray, hZ, vals_len, vals_len])
  clear hZ hz0
  obtain ⟨V, hV, hVl, hD, hK⟩ := boxed6 p v w
  have HIV : Hid ((Try.prog.info? 31).map (·.size) = some V.length) := Lib.hid (by rw [hV]; exact Try.info6 p _)
  have HVV := Lib.hid hV
  have CG : Hid (∀ W, Exs W v p.exts → Calls Try.prog 19 #[.agg V.toArray] W fun e w' => e = .returned (.bool false) ∧ Below W.heap.size W w') := Lib.hid (fun W hW => by rw [hV, ← hg]; exact great_any p v W hW hr.len hr.data hr.body)
  have HX0 := Lib.hid hx
  have HC36 : Hid (V[36]? = some (.bool false)) := Lib.hid (by rw [HVV.out, ← hf]; exact vals_tail p v 1)
  rw [← hV]
  clear hV
  have HK1 := Lib.hid hK
  clear hK hD hx hVl hg
  generalize hw1 : w.alloc (.cells V.toArray 31) = w1 at *
  go_enter Try.func10, Try.ntmps10
  go_upto_region 1 with (fail)
  clear hw1
  go_wp2_with fail
  refine (awake_true w1).mono ?_
  rintro e w2 ⟨rfl, b2⟩
  have HK2 := Lib.hid (HK1.out.below b2 (Nat.le_refl _))
  have hrg2 := HK2.out.hd.range
  clear b2 HK1
  go_wp2_with (refine wpList_load_mid rfl 31 _ rfl w.heap.size 0 rfl V _ hrg2 Try.underlying31 rfl HIV.out ?_)
  refine (CG.out w2 (HX0.out.below HK2.out.2.1 (Nat.le_refl _))).mono ?_
  rintro e w3 ⟨rfl, b3⟩
  have HK3 := Lib.hid (HK2.out.below b3 (Nat.le_refl _))
  have hrg3 := HK3.out.hd.range
  clear b3 HK2 hrg2 CG
  go_wp2_with (refine wpList_load_mid rfl 31 _ rfl w.heap.size 0 rfl V _ hrg3 Try.underlying31 rfl HIV.out ?_)
  rw [HVV.out]
  refine (C2.out w3 (HX0.out.below HK3.out.2.1 (Nat.le_refl _))).mono ?_
  rintro e w4 ⟨rfl, b4⟩
  rw [← HVV.out]
  have HK4 := Lib.hid (HK3.out.below b4 (Nat.le_refl _))
  clear b4 HK3 C2 hrg3
  have hHOV : V.toArray.all (·.oneCell') = true := by rw [HVV.out]; exact HOv.out
  have HOV := Lib.hid hHOV
  have hL : V.length = Z.toArray.size := by rw [HVV.out]; exact HZl.out _ _
  have hL42 : V.toArray.size = 42 := by rw [HVV.out, List.size_toArray, vals_len]
  have HL42 := Lib.hid hL42
  have hV2c : V[2]? = some (.int .i64 p.hop) := by rw [HVV.out]; rfl
  have hq := HK4.out.put 31 Z.toArray V hL
  have ht : (w4.alloc (.cells Z.toArray 31)).there w4.heap.size 0 V.toArray.size := (bk_new w4 31 Z.toArray).there _ (by rw [List.size_toArray, hL]; exact Nat.le_refl _)
  have hrg4 := HK4.out.hd.range
  have hrg4' : (w4.alloc (.cells Z.toArray 31)).rangeAt w.heap.size 0 V := (HK4.out.alloc _).hd.range
  have HNE := Lib.hid (Nat.ne_of_lt (HK4.out.hd.lt))
  have HGE := Lib.hid HK4.out.2.2
  clear hL hL42 hHOV
  generalize hwn : (w4.alloc (.cells Z.toArray 31)).setCells w4.heap.size 0 V = w5 at *
  rw [HZ0.out] at hwn ht hrg4'
  go_upto_region 7 with (first | (refine wpList_load_mid rfl 31 _ rfl w.heap.size 0 rfl V _ hrg4 Try.underlying31 rfl HIV.out ?_) | (refine wpList_load_mid rfl 31 _ rfl w.heap.size 0 rfl V _ hrg4' Try.underlying31 rfl HIV.out ?_) | (refine wpList_store_mid rfl 31 _ _ rfl w4.heap.size 0 V.toArray rfl rfl ht HIV.out HOV.out ?_))
  try rw [hwn]
  have HK5 := Lib.hid hq.tl
  have HB5 := Lib.hid hq.hd
  clear hwn ht hrg4 hrg4' hq HK4
  have c2 := HB5.out.c 2 _ (by simpa using hV2c)
  have z2 := HB5.out.z 2
  go_upto_region 8 with (fail)
  clear c2 z2 hV2c
  have hK := HB5.out.set 2 (.int .i64 h)
  rw [HVV.out, HS1.out] at hK
  have HB6 := Lib.hid hK
  have HK6 := Lib.hid (HK5.out.set (c := w4.heap.size) (fun x hx => by simp only [List.mem_singleton] at hx; subst hx; exact HNE.out) HGE.out 2 (.int .i64 h))
  clear hK HB5 HK5
  generalize w5.setCell ⟨w4.heap.size, 2, none⟩ (.int .i64 h) = w6 at *
  have hRG : ∀ (W : World), Bk W w.heap.size 31 V.toArray → W.rangeAt w.heap.size 3 AF ∧ W.rangeAt w.heap.size 19 AT := fun W hb => HRG.out W _ (by rw [← HVV.out]; exact hb)
  have HRR := Lib.hid hRG
  have hK6 : Kp w w.heap.size [(w.heap.size, 31, V)] w6.drew := HK6.out.drew
  have hB6 : Bk w6.drew w4.heap.size 31 V1.toArray := HB6.out
  have hN6 : ∀ x ∈ [(w.heap.size, 31, V)], x.1 ≠ w4.heap.size := fun x hx => by simp only [List.mem_singleton] at hx; subst hx; exact HNE.out
  have hG6 := HGE.out
  clear hRG HK6 HB6
  generalize w4.heap.size = b2 at *
  generalize hb1 : w.heap.size = b1 at *
  have HB1 := Lib.hid hb1
  clear hb1
  refine wp_region_noPanic ?_
  refine wp_region_held_drew (S := fun w' => Kp w b1 [(b1, 31, V)] w' ∧ w'.rangeAt b1 3 AF ∧ w'.rangeAt b1 19 AT) (by kernel_rfl) (two_keep HRR.out hK6) (fun hHeld => ?_)
  refine wpAnyH_take (i := 0) (oi := { dst := some 28, op := Op.fieldAddr 31 (Operand.tmp 3) 4, type := 0, pos := "more.go:19", after := #[], guard := none }) (v := ?_) rfl (by kernel_rfl) (by kernel_rfl) (by kernel_rfl) (fun _ _ _ h => h) (Or.inl ⟨by rfl, ?_⟩) (by assumption) ?_
  rotate_left
  · (intro ww hSw; (try dsimp only at hSw); go_simp; try with_reducible rfl)
  (try simp only [Act.put, List.setIfInBounds_toArray, List.set_cons_zero, List.set_cons_succ])
  refine wpAnyH_take (i := 1) (oi := { dst := some 29, op := Op.load 28 (Operand.tmp 28), type := 28, pos := "more.go:19", after := #[{ on := 0, ground := Ground.data }], guard := none }) (v := .agg (AT).toArray) rfl (by kernel_rfl) (by kernel_rfl) (by kernel_rfl) (fun _ _ _ h => h) (yieldsIf_load_mid (by rfl) _ _ rfl (b1) 19 rfl (AT) _ (fun ww hSw => hSw.2.2) Try.underlying28 rfl HIT.out) (by assumption) ?_
  (try simp only [Act.put, List.setIfInBounds_toArray, List.set_cons_zero, List.set_cons_succ])
  refine wpAnyH_take (i := 2) (oi := { dst := some 30, op := Op.fieldAddr 31 (Operand.tmp 3) 3, type := 0, pos := "more.go:19", after := #[{ on := 5, ground := Ground.gcOnly Departure.lateStores }], guard := none }) (v := ?_) rfl (by kernel_rfl) (by kernel_rfl) (by kernel_rfl) (fun _ _ _ h => h) (Or.inl ⟨by rfl, ?_⟩) (by assumption) ?_
  rotate_left
  · (intro ww hSw; (try dsimp only at hSw); go_simp; try with_reducible rfl)
  (try simp only [Act.put, List.setIfInBounds_toArray, List.set_cons_zero, List.set_cons_succ])
  refine wpAnyH_take (i := 3) (oi := { dst := some 31, op := Op.load 28 (Operand.tmp 30), type := 28, pos := "more.go:19", after := #[{ on := 2, ground := Ground.data }, { on := 5, ground := Ground.gcOnly Departure.lateStores }], guard := none }) (v := .agg (AF).toArray) rfl (by kernel_rfl) (by kernel_rfl) (by kernel_rfl) (fun _ _ _ h => h) (yieldsIf_load_mid (by rfl) _ _ rfl (b1) 3 rfl (AF) _ (fun ww hSw => hSw.2.1) Try.underlying28 rfl HIF.out) (by assumption) ?_
  (try simp only [Act.put, List.setIfInBounds_toArray, List.set_cons_zero, List.set_cons_succ])
  refine wpAnyH_take (i := 4) (oi := { dst := some 32, op := Op.fieldAddr 31 (Operand.tmp 9) 3, type := 0, pos := "more.go:19", after := #[{ on := 0, ground := Ground.phase }, { on := 1, ground := Ground.phase }, { on := 2, ground := Ground.textOnly Departure.lateStores }, { on := 3, ground := Ground.textOnly Departure.lateStores }], guard := none }) (v := ?_) rfl (by kernel_rfl) (by kernel_rfl) (by kernel_rfl) (fun _ _ _ h => h) (Or.inl ⟨by rfl, ?_⟩) (by assumption) ?_
  rotate_left
  · (intro ww hSw; (try dsimp only at hSw); go_simp; try with_reducible rfl)
  (try simp only [Act.put, List.setIfInBounds_toArray, List.set_cons_zero, List.set_cons_succ])
  refine wpAnyH_ready (rs := [5]) (by kernel_rfl) (by simp) ?_
  refine AllReadyH.cons (o := { dst := none, op := Op.store 28 (Operand.tmp 32) (Operand.tmp 29), type := 0, pos := "more.go:19", after := #[{ on := 4, ground := Ground.data }, { on := 1, ground := Ground.data }, { on := 0, ground := Ground.phase }, { on := 1, ground := Ground.phase }, { on := 2, ground := Ground.textOnly Departure.lateStores }, { on := 3, ground := Ground.textOnly Departure.lateStores }], guard := none }) rfl (fun K hK => ?_) AllReadyH.nil
  rw [if_pos (by rfl)]
  have ht5 : w6.drew.there b2 3 AT.toArray.size := by rw [HLT.out]; exact hB6.there' 3 16 (by rw [HL1.out]; decide)
  refine wp_store_mid 28 _ _ rfl b2 3 AT.toArray rfl rfl ht5 HIT.out HOT.out ?_
  refine hK.out _ _ (two_keep HRR.out (Kp.sets (And.left hHeld) hN6 hG6 3 AT)) (fun hHeld => ?_)
  clear hK K
  (try simp only [Act.put])
  have hK7 := Bk.sets AT 3 _ _ hB6
  rw [HS2.out] at hK7
  refine wpAnyH_take (i := 6) (oi := { dst := some 33, op := Op.fieldAddr 31 (Operand.tmp 9) 4, type := 0, pos := "more.go:19", after := #[{ on := 0, ground := Ground.phase }, { on := 1, ground := Ground.phase }, { on := 2, ground := Ground.phase }, { on := 3, ground := Ground.phase }, { on := 4, ground := Ground.phase }, { on := 5, ground := Ground.phase }], guard := none }) (v := ?_) rfl (by kernel_rfl) (by kernel_rfl) (by kernel_rfl) (fun _ _ _ h => h) (Or.inl ⟨by rfl, ?_⟩) (by assumption) ?_
  rotate_left
  · (intro ww hSw; (try dsimp only at hSw); go_simp; try with_reducible rfl)
  (try simp only [Act.put, List.setIfInBounds_toArray, List.set_cons_zero, List.set_cons_succ])
  refine wpAnyH_ready (rs := [7]) (by kernel_rfl) (by simp) ?_
  refine AllReadyH.cons (o := { dst := none, op := Op.store 28 (Operand.tmp 33) (Operand.tmp 31), type := 0, pos := "more.go:19", after := #[{ on := 6, ground := Ground.data }, { on := 3, ground := Ground.data }, { on := 5, ground := Ground.chain }, { on := 0, ground := Ground.phase }, { on := 1, ground := Ground.phase }, { on := 2, ground := Ground.phase }, { on := 3, ground := Ground.phase }, { on := 4, ground := Ground.phase }, { on := 5, ground := Ground.phase }], guard := none }) rfl (fun K hK => ?_) AllReadyH.nil
  rw [if_pos (by rfl)]
  have ht7 : (w6.drew.setCells b2 3 AT).there b2 19 AF.toArray.size := by rw [HLF.out]; exact hK7.there' 19 16 (by rw [HL2.out]; decide)
  refine wp_store_mid 28 _ _ rfl b2 19 AF.toArray rfl rfl ht7 HIF.out HOF.out ?_
  refine hK.out _ _ (two_keep HRR.out (Kp.sets (And.left hHeld) hN6 hG6 19 AF)) (fun hHeld => ?_)
  clear hK K
  (try simp only [Act.put])
  have hK8 := Bk.sets AF 19 _ _ hK7
  refine wpAnyH_done (by kernel_rfl) ?_ _
  refine NoPanic.normal ?_
  have HKp := Lib.hid (And.left hHeld)
  rw [HS3.out] at hK8
  have HB8 := Lib.hid hK8
  clear hHeld hK8 hK7 hB6 ht5 ht7 hK6
  generalize (w6.drew.setCells b2 3 AT).setCells b2 19 AF = w7 at *
  have hrq := HB8.out.range
  go_wp2_with (refine wpList_load_mid rfl 31 _ rfl b2 0 rfl VQ _ hrq Try.underlying31 rfl HIVQ.out ?_)
  rw [HVQ.out]
  refine (C3.out w7 (HX0.out.below HKp.out.2.1 (by rw [HB1.out]; exact Nat.le_refl _))).mono ?_
  rintro e w8 ⟨rfl, b8⟩
  rw [← HVQ.out]
  have hK9 := (HKp.out.below b8 (Nat.le_refl _)).drew
  have hB9 : Bk w8.drew b2 31 VQ.toArray := (show Bk w8 b2 31 VQ.toArray from HB8.out.below b8 HB8.out.lt)
  clear b8 HKp HB8 hrq C3
  go_upto_region 12 with (fail)
  obtain ⟨e1, e2, e3, e4, e5⟩ := HEE.out
  refine wp_region_noPanic ?_
  refine wp_region_held_drew (S := fun w' => Below b1 w w') (by kernel_rfl) (hK9.2.1) (fun hHeld => ?_)
  refine wpAnyH_take (i := 0) (oi := { dst := some 51, op := Op.move (Operand.tmp 7), type := 9, pos := "more.go:24", after := #[], guard := none }) (v := ?_) rfl (by kernel_rfl) (by kernel_rfl) (by kernel_rfl) (fun _ _ _ h => h) (Or.inl ⟨by rfl, ?_⟩) (by assumption) ?_
  rotate_left
  · (intro ww hSw; (try dsimp only at hSw); go_simp; try with_reducible rfl)
  (try simp only [Act.put, List.setIfInBounds_toArray, List.set_cons_zero, List.set_cons_succ])
  refine wpAnyH_take (i := 1) (oi := { dst := some 52, op := Op.call { callee := Callee.builtin Builtin.len, args := #[Operand.tmp 51], argTypes := #[9] }, type := 3, pos := "more.go:24", after := #[{ on := 0, ground := Ground.data }], guard := none }) (v := ?_) rfl (by kernel_rfl) (by kernel_rfl) (by kernel_rfl) (fun _ _ _ h => h) (Or.inl ⟨by rfl, ?_⟩) (by assumption) ?_
  rotate_left
  · (intro ww hSw; (try dsimp only at hSw); go_simp; try with_reducible rfl)
  (try simp only [Act.put, List.setIfInBounds_toArray, List.set_cons_zero, List.set_cons_succ])
  refine wpAnyH_take (i := 2) (oi := { dst := some 53, op := Op.binOp BinOp.lss 3 (Operand.tmp 52) (Operand.const (Value.int IntKind.i64 40)) 3, type := 4, pos := "more.go:24", after := #[{ on := 1, ground := Ground.data }], guard := none }) (v := ?_) rfl (by kernel_rfl) (by kernel_rfl) (by kernel_rfl) (fun _ _ _ h => h) (Or.inl ⟨by rfl, ?_⟩) (by assumption) ?_
  rotate_left
  · (intro ww hSw; (try dsimp only at hSw); go_simp; try with_reducible rfl)
  (try simp only [Act.put, List.setIfInBounds_toArray, List.set_cons_zero, List.set_cons_succ])
  refine wpAnyH_take (i := 3) (oi := { dst := some 54, op := Op.move (Operand.tmp 53), type := 4, pos := "more.go:24", after := #[{ on := 2, ground := Ground.data }], guard := none }) (v := ?_) rfl (by kernel_rfl) (by kernel_rfl) (by kernel_rfl) (fun _ _ _ h => h) (Or.inl ⟨by rfl, ?_⟩) (by assumption) ?_
  rotate_left
  · (intro ww hSw; (try dsimp only at hSw); go_simp; try with_reducible rfl)
  (try simp only [Act.put, List.setIfInBounds_toArray, List.set_cons_zero, List.set_cons_succ])
  refine wpAnyH_take (i := 4) (oi := { dst := some 55, op := Op.move (Operand.tmp 7), type := 9, pos := "more.go:24", after := #[{ on := 3, ground := Ground.guard }], guard := some (3, false) }) (v := ?_) rfl (by kernel_rfl) (by kernel_rfl) (by kernel_rfl) (fun _ _ _ h => h) (Or.inl ⟨by rfl, ?_⟩) (by assumption) ?_
  rotate_left
  · (intro ww hSw; (try dsimp only at hSw); go_simp; try with_reducible rfl)
  (try simp only [Act.put, List.setIfInBounds_toArray, List.set_cons_zero, List.set_cons_succ])
  refine wpAnyH_take (i := 5) (oi := { dst := some 56, op := Op.call { callee := Callee.builtin Builtin.len, args := #[Operand.tmp 55], argTypes := #[9] }, type := 3, pos := "more.go:24", after := #[{ on := 4, ground := Ground.data }, { on := 3, ground := Ground.guard }], guard := some (3, false) }) (v := ?_) rfl (by kernel_rfl) (by kernel_rfl) (by kernel_rfl) (fun _ _ _ h => h) (Or.inl ⟨by rfl, ?_⟩) (by assumption) ?_
  rotate_left
  · (intro ww hSw; (try dsimp only at hSw); go_simp; try with_reducible rfl)
  (try simp only [Act.put, List.setIfInBounds_toArray, List.set_cons_zero, List.set_cons_succ])
  refine wpAnyH_take (i := 6) (oi := { dst := some 57, op := Op.move (Operand.tmp 10), type := 9, pos := "more.go:24", after := #[{ on := 3, ground := Ground.guard }], guard := some (3, false) }) (v := ?_) rfl (by kernel_rfl) (by kernel_rfl) (by kernel_rfl) (fun _ _ _ h => h) (Or.inl ⟨by rfl, ?_⟩) (by assumption) ?_
  rotate_left
  · (intro ww hSw; (try dsimp only at hSw); go_simp; try with_reducible rfl)
  (try simp only [Act.put, List.setIfInBounds_toArray, List.set_cons_zero, List.set_cons_succ])
  refine wpAnyH_take (i := 7) (oi := { dst := some 58, op := Op.call { callee := Callee.builtin Builtin.len, args := #[Operand.tmp 57], argTypes := #[9] }, type := 3, pos := "more.go:24", after := #[{ on := 6, ground := Ground.data }, { on := 3, ground := Ground.guard }], guard := some (3, false) }) (v := ?_) rfl (by kernel_rfl) (by kernel_rfl) (by kernel_rfl) (fun _ _ _ h => h) (Or.inl ⟨by rfl, ?_⟩) (by assumption) ?_
  rotate_left
  · (intro ww hSw; (try dsimp only at hSw); go_simp; try with_reducible rfl)
  (try simp only [Act.put, List.setIfInBounds_toArray, List.set_cons_zero, List.set_cons_succ])
  refine wpAnyH_take (i := 8) (oi := { dst := some 59, op := Op.binOp BinOp.neq 3 (Operand.tmp 56) (Operand.tmp 58) 3, type := 4, pos := "more.go:24", after := #[{ on := 5, ground := Ground.data }, { on := 7, ground := Ground.data }, { on := 3, ground := Ground.guard }], guard := some (3, false) }) (v := ?_) rfl (by kernel_rfl) (by kernel_rfl) (by kernel_rfl) (fun _ _ _ h => h) (Or.inl ⟨by rfl, ?_⟩) (by assumption) ?_
  rotate_left
  · (intro ww hSw; (try dsimp only at hSw); go_simp; try with_reducible rfl)
  (try simp only [Act.put, List.setIfInBounds_toArray, List.set_cons_zero, List.set_cons_succ])
  refine wpAnyH_take (i := 9) (oi := { dst := some 60, op := Op.pick (Operand.tmp 54) (Operand.const (Value.bool true)) (Operand.tmp 59), type := 4, pos := "more.go:24", after := #[{ on := 3, ground := Ground.data }, { on := 8, ground := Ground.data }], guard := none }) (v := ?_) rfl (by kernel_rfl) (by kernel_rfl) (by kernel_rfl) (fun _ _ _ h => h) (Or.inl ⟨by rfl, ?_⟩) (by assumption) ?_
  rotate_left
  · (intro ww hSw; (try dsimp only at hSw); go_simp; try with_reducible rfl)
  (try simp only [Act.put, List.setIfInBounds_toArray, List.set_cons_zero, List.set_cons_succ])
  refine wpAnyH_take (i := 10) (oi := { dst := some 61, op := Op.move (Operand.tmp 60), type := 4, pos := "more.go:24", after := #[{ on := 9, ground := Ground.data }, { on := 3, ground := Ground.chain }], guard := none }) (v := ?_) rfl (by kernel_rfl) (by kernel_rfl) (by kernel_rfl) (fun _ _ _ h => h) (Or.inl ⟨by rfl, ?_⟩) (by assumption) ?_
  rotate_left
  · (intro ww hSw; (try dsimp only at hSw); go_simp; try with_reducible rfl)
  (try simp only [Act.put, List.setIfInBounds_toArray, List.set_cons_zero, List.set_cons_succ])
  refine wpAnyH_take (i := 11) (oi := { dst := some 62, op := Op.move (Operand.tmp 7), type := 9, pos := "more.go:24", after := #[{ on := 10, ground := Ground.guard }], guard := some (10, false) }) (v := ?_) rfl (by kernel_rfl) (by kernel_rfl) (by kernel_rfl) (fun _ _ _ h => h) (Or.inl ⟨by rfl, ?_⟩) (by assumption) ?_
  rotate_left
  · (intro ww hSw; (try dsimp only at hSw); go_simp; try with_reducible rfl)
  (try simp only [Act.put, List.setIfInBounds_toArray, List.set_cons_zero, List.set_cons_succ])
  refine wpAnyH_take (i := 12) (oi := { dst := some 63, op := Op.slice 9 (Operand.tmp 62) none (some (Operand.const (Value.int IntKind.i64 7))) none, type := 9, pos := "more.go:24", after := #[{ on := 11, ground := Ground.data }, { on := 10, ground := Ground.guard }], guard := some (10, false) }) (v := ?_) rfl (by kernel_rfl) (by kernel_rfl) (by kernel_rfl) (fun _ _ _ h => h) (Or.inl ⟨by rfl, ?_⟩) (by assumption) ?_
  rotate_left
  · (intro ww hSw; (try dsimp only at hSw); go_simp; try with_reducible rfl)
  (try simp only [Act.put, List.setIfInBounds_toArray, List.set_cons_zero, List.set_cons_succ])
  refine wpAnyH_take (i := 13) (oi := { dst := some 64, op := Op.move (Operand.tmp 10), type := 9, pos := "more.go:24", after := #[{ on := 10, ground := Ground.guard }], guard := some (10, false) }) (v := ?_) rfl (by kernel_rfl) (by kernel_rfl) (by kernel_rfl) (fun _ _ _ h => h) (Or.inl ⟨by rfl, ?_⟩) (by assumption) ?_
  rotate_left
  · (intro ww hSw; (try dsimp only at hSw); go_simp; try with_reducible rfl)
  (try simp only [Act.put, List.setIfInBounds_toArray, List.set_cons_zero, List.set_cons_succ])
  refine wpAnyH_take (i := 14) (oi := { dst := some 65, op := Op.slice 9 (Operand.tmp 64) none (some (Operand.const (Value.int IntKind.i64 7))) none, type := 9, pos := "more.go:24", after := #[{ on := 13, ground := Ground.data }, { on := 10, ground := Ground.guard }], guard := some (10, false) }) (v := ?_) rfl (by kernel_rfl) (by kernel_rfl) (by kernel_rfl) (fun _ _ _ h => h) (Or.inl ⟨by rfl, ?_⟩) (by assumption) ?_
  rotate_left
  · (intro ww hSw; (try dsimp only at hSw); go_simp; try with_reducible rfl)
  (try simp only [Act.put, List.setIfInBounds_toArray, List.set_cons_zero, List.set_cons_succ])
  refine wpAnyH_take (i := 15) (oi := { dst := some 66, op := Op.binOp BinOp.neq 9 (Operand.tmp 63) (Operand.tmp 65) 9, type := 4, pos := "more.go:24", after := #[{ on := 12, ground := Ground.data }, { on := 14, ground := Ground.data }, { on := 10, ground := Ground.guard }], guard := some (10, false) }) (v := ?_) rfl (by kernel_rfl) (by kernel_rfl) (by kernel_rfl) (fun _ _ _ h => h) (Or.inl ⟨by rfl, ?_⟩) (by assumption) ?_
  rotate_left
  · (intro ww hSw; (try dsimp only at hSw); go_simp; try with_reducible rfl)
  (try simp only [Act.put, List.setIfInBounds_toArray, List.set_cons_zero, List.set_cons_succ])
  refine wpAnyH_take (i := 16) (oi := { dst := some 67, op := Op.pick (Operand.tmp 61) (Operand.const (Value.bool true)) (Operand.tmp 66), type := 4, pos := "more.go:24", after := #[{ on := 10, ground := Ground.data }, { on := 15, ground := Ground.data }], guard := none }) (v := ?_) rfl (by kernel_rfl) (by kernel_rfl) (by kernel_rfl) (fun _ _ _ h => h) (Or.inl ⟨by rfl, ?_⟩) (by assumption) ?_
  rotate_left
  · (intro ww hSw; (try dsimp only at hSw); go_simp; try with_reducible rfl)
  (try simp only [Act.put, List.setIfInBounds_toArray, List.set_cons_zero, List.set_cons_succ])
  refine wpAnyH_take (i := 17) (oi := { dst := some 68, op := Op.move (Operand.tmp 67), type := 4, pos := "more.go:24", after := #[{ on := 16, ground := Ground.data }, { on := 10, ground := Ground.chain }], guard := none }) (v := ?_) rfl (by kernel_rfl) (by kernel_rfl) (by kernel_rfl) (fun _ _ _ h => h) (Or.inl ⟨by rfl, ?_⟩) (by assumption) ?_
  rotate_left
  · (intro ww hSw; (try dsimp only at hSw); go_simp; try with_reducible rfl)
  (try simp only [Act.put, List.setIfInBounds_toArray, List.set_cons_zero, List.set_cons_succ])
  refine wpAnyH_take (i := 18) (oi := { dst := some 69, op := Op.move (Operand.tmp 10), type := 9, pos := "more.go:24", after := #[{ on := 17, ground := Ground.guard }], guard := some (17, false) }) (v := ?_) rfl (by kernel_rfl) (by kernel_rfl) (by kernel_rfl) (fun _ _ _ h => h) (Or.inl ⟨by rfl, ?_⟩) (by assumption) ?_
  rotate_left
  · (intro ww hSw; (try dsimp only at hSw); go_simp; try with_reducible rfl)
  (try simp only [Act.put, List.setIfInBounds_toArray, List.set_cons_zero, List.set_cons_succ])
  refine wpAnyH_take (i := 19) (oi := { dst := some 70, op := Op.index 9 (Operand.tmp 69) (Operand.const (Value.int IntKind.i64 7)), type := 5, pos := "more.go:24", after := #[{ on := 18, ground := Ground.data }, { on := 17, ground := Ground.guard }], guard := some (17, false) }) (v := ?_) rfl (by kernel_rfl) (by kernel_rfl) (by kernel_rfl) (fun _ _ _ h => h) (Or.inl ⟨by rfl, ?_⟩) (by assumption) ?_
  rotate_left
  · (intro ww hSw; (try dsimp only at hSw); go_simp; try with_reducible rfl)
  (try simp only [Act.put, List.setIfInBounds_toArray, List.set_cons_zero, List.set_cons_succ])
  refine wpAnyH_take (i := 20) (oi := { dst := some 71, op := Op.move (Operand.tmp 1), type := 5, pos := "more.go:24", after := #[{ on := 17, ground := Ground.guard }], guard := some (17, false) }) (v := ?_) rfl (by kernel_rfl) (by kernel_rfl) (by kernel_rfl) (fun _ _ _ h => h) (Or.inl ⟨by rfl, ?_⟩) (by assumption) ?_
  rotate_left
  · (intro ww hSw; (try dsimp only at hSw); go_simp; try with_reducible rfl)
  (try simp only [Act.put, List.setIfInBounds_toArray, List.set_cons_zero, List.set_cons_succ])
  refine wpAnyH_take (i := 21) (oi := { dst := some 72, op := Op.binOp BinOp.neq 5 (Operand.tmp 70) (Operand.tmp 71) 5, type := 4, pos := "more.go:24", after := #[{ on := 19, ground := Ground.data }, { on := 20, ground := Ground.data }, { on := 17, ground := Ground.guard }], guard := some (17, false) }) (v := ?_) rfl (by kernel_rfl) (by kernel_rfl) (by kernel_rfl) (fun _ _ _ h => h) (Or.inl ⟨by rfl, ?_⟩) (by assumption) ?_
  rotate_left
  · (intro ww hSw; (try dsimp only at hSw); go_simp; try with_reducible rfl)
  (try simp only [Act.put, List.setIfInBounds_toArray, List.set_cons_zero, List.set_cons_succ])
  refine wpAnyH_take (i := 22) (oi := { dst := some 73, op := Op.pick (Operand.tmp 68) (Operand.const (Value.bool true)) (Operand.tmp 72), type := 4, pos := "more.go:24", after := #[{ on := 17, ground := Ground.data }, { on := 21, ground := Ground.data }], guard := none }) (v := ?_) rfl (by kernel_rfl) (by kernel_rfl) (by kernel_rfl) (fun _ _ _ h => h) (Or.inl ⟨by rfl, ?_⟩) (by assumption) ?_
  rotate_left
  · (intro ww hSw; (try dsimp only at hSw); go_simp; try with_reducible rfl)
  (try simp only [Act.put, List.setIfInBounds_toArray, List.set_cons_zero, List.set_cons_succ])
  refine wpAnyH_take (i := 23) (oi := { dst := some 74, op := Op.move (Operand.tmp 73), type := 4, pos := "more.go:24", after := #[{ on := 22, ground := Ground.data }, { on := 17, ground := Ground.chain }], guard := none }) (v := ?_) rfl (by kernel_rfl) (by kernel_rfl) (by kernel_rfl) (fun _ _ _ h => h) (Or.inl ⟨by rfl, ?_⟩) (by assumption) ?_
  rotate_left
  · (intro ww hSw; (try dsimp only at hSw); go_simp; try with_reducible rfl)
  (try simp only [Act.put, List.setIfInBounds_toArray, List.set_cons_zero, List.set_cons_succ])
  refine wpAnyH_take (i := 24) (oi := { dst := some 75, op := Op.move (Operand.tmp 7), type := 9, pos := "more.go:24", after := #[{ on := 23, ground := Ground.guard }], guard := some (23, false) }) (v := ?_) rfl (by kernel_rfl) (by kernel_rfl) (by kernel_rfl) (fun _ _ _ h => h) (Or.inl ⟨by rfl, ?_⟩) (by assumption) ?_
  rotate_left
  · (intro ww hSw; (try dsimp only at hSw); go_simp; try with_reducible rfl)
  (try simp only [Act.put, List.setIfInBounds_toArray, List.set_cons_zero, List.set_cons_succ])
  refine wpAnyH_take (i := 25) (oi := { dst := some 76, op := Op.slice 9 (Operand.tmp 75) (some (Operand.const (Value.int IntKind.i64 8))) (some (Operand.const (Value.int IntKind.i64 24))) none, type := 9, pos := "more.go:24", after := #[{ on := 24, ground := Ground.data }, { on := 23, ground := Ground.guard }], guard := some (23, false) }) (v := ?_) rfl (by kernel_rfl) (by kernel_rfl) (by kernel_rfl) (fun _ _ _ h => h) (Or.inl ⟨by rfl, ?_⟩) (by assumption) ?_
  rotate_left
  · (intro ww hSw; (try dsimp only at hSw); go_simp; try with_reducible rfl)
  (try simp only [Act.put, List.setIfInBounds_toArray, List.set_cons_zero, List.set_cons_succ])
  refine wpAnyH_take (i := 26) (oi := { dst := some 77, op := Op.move (Operand.tmp 10), type := 9, pos := "more.go:24", after := #[{ on := 23, ground := Ground.guard }], guard := some (23, false) }) (v := ?_) rfl (by kernel_rfl) (by kernel_rfl) (by kernel_rfl) (fun _ _ _ h => h) (Or.inl ⟨by rfl, ?_⟩) (by assumption) ?_
  rotate_left
  · (intro ww hSw; (try dsimp only at hSw); go_simp; try with_reducible rfl)
  (try simp only [Act.put, List.setIfInBounds_toArray, List.set_cons_zero, List.set_cons_succ])
  refine wpAnyH_take (i := 27) (oi := { dst := some 78, op := Op.slice 9 (Operand.tmp 77) (some (Operand.const (Value.int IntKind.i64 24))) (some (Operand.const (Value.int IntKind.i64 40))) none, type := 9, pos := "more.go:24", after := #[{ on := 26, ground := Ground.data }, { on := 23, ground := Ground.guard }], guard := some (23, false) }) (v := ?_) rfl (by kernel_rfl) (by kernel_rfl) (by kernel_rfl) (fun _ _ _ h => h) (Or.inl ⟨by rfl, ?_⟩) (by assumption) ?_
  rotate_left
  · (intro ww hSw; (try dsimp only at hSw); go_simp; try with_reducible rfl)
  (try simp only [Act.put, List.setIfInBounds_toArray, List.set_cons_zero, List.set_cons_succ])
  refine wpAnyH_take (i := 28) (oi := { dst := some 79, op := Op.binOp BinOp.neq 9 (Operand.tmp 76) (Operand.tmp 78) 9, type := 4, pos := "more.go:24", after := #[{ on := 25, ground := Ground.data }, { on := 27, ground := Ground.data }, { on := 23, ground := Ground.guard }], guard := some (23, false) }) (v := ?_) rfl (by kernel_rfl) (by kernel_rfl) (by kernel_rfl) (fun _ _ _ h => h) (Or.inl ⟨by rfl, ?_⟩) (by assumption) ?_
  rotate_left
  · (intro ww hSw; (try dsimp only at hSw); go_simp; try with_reducible rfl)
  (try simp only [Act.put, List.setIfInBounds_toArray, List.set_cons_zero, List.set_cons_succ])
  refine wpAnyH_take (i := 29) (oi := { dst := some 80, op := Op.pick (Operand.tmp 74) (Operand.const (Value.bool true)) (Operand.tmp 79), type := 4, pos := "more.go:24", after := #[{ on := 23, ground := Ground.data }, { on := 28, ground := Ground.data }], guard := none }) (v := ?_) rfl (by kernel_rfl) (by kernel_rfl) (by kernel_rfl) (fun _ _ _ h => h) (Or.inl ⟨by rfl, ?_⟩) (by assumption) ?_
  rotate_left
  · (intro ww hSw; (try dsimp only at hSw); go_simp; try with_reducible rfl)
  (try simp only [Act.put, List.setIfInBounds_toArray, List.set_cons_zero, List.set_cons_succ])
  refine wpAnyH_take (i := 30) (oi := { dst := some 81, op := Op.move (Operand.tmp 80), type := 4, pos := "more.go:24", after := #[{ on := 29, ground := Ground.data }, { on := 23, ground := Ground.chain }], guard := none }) (v := ?_) rfl (by kernel_rfl) (by kernel_rfl) (by kernel_rfl) (fun _ _ _ h => h) (Or.inl ⟨by rfl, ?_⟩) (by assumption) ?_
  rotate_left
  · (intro ww hSw; (try dsimp only at hSw); go_simp; try with_reducible rfl)
  (try simp only [Act.put, List.setIfInBounds_toArray, List.set_cons_zero, List.set_cons_succ])
  refine wpAnyH_take (i := 31) (oi := { dst := some 82, op := Op.move (Operand.tmp 7), type := 9, pos := "more.go:24", after := #[{ on := 30, ground := Ground.guard }], guard := some (30, false) }) (v := ?_) rfl (by kernel_rfl) (by kernel_rfl) (by kernel_rfl) (fun _ _ _ h => h) (Or.inl ⟨by rfl, ?_⟩) (by assumption) ?_
  rotate_left
  · (intro ww hSw; (try dsimp only at hSw); go_simp; try with_reducible rfl)
  (try simp only [Act.put, List.setIfInBounds_toArray, List.set_cons_zero, List.set_cons_succ])
  refine wpAnyH_take (i := 32) (oi := { dst := some 83, op := Op.slice 9 (Operand.tmp 82) (some (Operand.const (Value.int IntKind.i64 24))) (some (Operand.const (Value.int IntKind.i64 40))) none, type := 9, pos := "more.go:24", after := #[{ on := 31, ground := Ground.data }, { on := 30, ground := Ground.guard }], guard := some (30, false) }) (v := ?_) rfl (by kernel_rfl) (by kernel_rfl) (by kernel_rfl) (fun _ _ _ h => h) (Or.inl ⟨by rfl, ?_⟩) (by assumption) ?_
  rotate_left
  · (intro ww hSw; (try dsimp only at hSw); go_simp; try with_reducible rfl)
  (try simp only [Act.put, List.setIfInBounds_toArray, List.set_cons_zero, List.set_cons_succ])
  refine wpAnyH_take (i := 33) (oi := { dst := some 84, op := Op.move (Operand.tmp 10), type := 9, pos := "more.go:24", after := #[{ on := 30, ground := Ground.guard }], guard := some (30, false) }) (v := ?_) rfl (by kernel_rfl) (by kernel_rfl) (by kernel_rfl) (fun _ _ _ h => h) (Or.inl ⟨by rfl, ?_⟩) (by assumption) ?_
  rotate_left
  · (intro ww hSw; (try dsimp only at hSw); go_simp; try with_reducible rfl)
  (try simp only [Act.put, List.setIfInBounds_toArray, List.set_cons_zero, List.set_cons_succ])
  refine wpAnyH_take (i := 34) (oi := { dst := some 85, op := Op.slice 9 (Operand.tmp 84) (some (Operand.const (Value.int IntKind.i64 8))) (some (Operand.const (Value.int IntKind.i64 24))) none, type := 9, pos := "more.go:24", after := #[{ on := 33, ground := Ground.data }, { on := 30, ground := Ground.guard }], guard := some (30, false) }) (v := ?_) rfl (by kernel_rfl) (by kernel_rfl) (by kernel_rfl) (fun _ _ _ h => h) (Or.inl ⟨by rfl, ?_⟩) (by assumption) ?_
  rotate_left
  · (intro ww hSw; (try dsimp only at hSw); go_simp; try with_reducible rfl)
  (try simp only [Act.put, List.setIfInBounds_toArray, List.set_cons_zero, List.set_cons_succ])
  refine wpAnyH_take (i := 35) (oi := { dst := some 86, op := Op.binOp BinOp.neq 9 (Operand.tmp 83) (Operand.tmp 85) 9, type := 4, pos := "more.go:24", after := #[{ on := 32, ground := Ground.data }, { on := 34, ground := Ground.data }, { on := 30, ground := Ground.guard }], guard := some (30, false) }) (v := ?_) rfl (by kernel_rfl) (by kernel_rfl) (by kernel_rfl) (fun _ _ _ h => h) (Or.inl ⟨by rfl, ?_⟩) (by assumption) ?_
  rotate_left
  · (intro ww hSw; (try dsimp only at hSw); go_simp; try with_reducible rfl)
  (try simp only [Act.put, List.setIfInBounds_toArray, List.set_cons_zero, List.set_cons_succ])
  refine wpAnyH_take (i := 36) (oi := { dst := some 87, op := Op.pick (Operand.tmp 81) (Operand.const (Value.bool true)) (Operand.tmp 86), type := 4, pos := "more.go:24", after := #[{ on := 30, ground := Ground.data }, { on := 35, ground := Ground.data }], guard := none }) (v := ?_) rfl (by kernel_rfl) (by kernel_rfl) (by kernel_rfl) (fun _ _ _ h => h) (Or.inl ⟨by rfl, ?_⟩) (by assumption) ?_
  rotate_left
  · (intro ww hSw; (try dsimp only at hSw); go_simp; try with_reducible rfl)
  (try simp only [Act.put, List.setIfInBounds_toArray, List.set_cons_zero, List.set_cons_succ])
  refine wpAnyH_take (i := 37) (oi := { dst := some 88, op := Op.move (Operand.tmp 87), type := 4, pos := "more.go:24", after := #[{ on := 36, ground := Ground.data }, { on := 30, ground := Ground.chain }], guard := none }) (v := ?_) rfl (by kernel_rfl) (by kernel_rfl) (by kernel_rfl) (fun _ _ _ h => h) (Or.inl ⟨by rfl, ?_⟩) (by assumption) ?_
  rotate_left
  · (intro ww hSw; (try dsimp only at hSw); go_simp; try with_reducible rfl)
  (try simp only [Act.put, List.setIfInBounds_toArray, List.set_cons_zero, List.set_cons_succ])
  refine wpAnyH_take (i := 38) (oi := { dst := some 89, op := Op.move (Operand.tmp 7), type := 9, pos := "more.go:24", after := #[{ on := 37, ground := Ground.guard }], guard := some (37, false) }) (v := ?_) rfl (by kernel_rfl) (by kernel_rfl) (by kernel_rfl) (fun _ _ _ h => h) (Or.inl ⟨by rfl, ?_⟩) (by assumption) ?_
  rotate_left
  · (intro ww hSw; (try dsimp only at hSw); go_simp; try with_reducible rfl)
  (try simp only [Act.put, List.setIfInBounds_toArray, List.set_cons_zero, List.set_cons_succ])
  refine wpAnyH_take (i := 39) (oi := { dst := some 90, op := Op.slice 9 (Operand.tmp 89) (some (Operand.const (Value.int IntKind.i64 40))) none none, type := 9, pos := "more.go:24", after := #[{ on := 38, ground := Ground.data }, { on := 37, ground := Ground.guard }], guard := some (37, false) }) (v := ?_) rfl (by kernel_rfl) (by kernel_rfl) (by kernel_rfl) (fun _ _ _ h => h) (Or.inl ⟨by rfl, ?_⟩) (by assumption) ?_
  rotate_left
  · (intro ww hSw; (try dsimp only at hSw); go_simp; try with_reducible rfl)
  (try simp only [Act.put, List.setIfInBounds_toArray, List.set_cons_zero, List.set_cons_succ])
  refine wpAnyH_take (i := 40) (oi := { dst := some 91, op := Op.move (Operand.tmp 10), type := 9, pos := "more.go:24", after := #[{ on := 37, ground := Ground.guard }], guard := some (37, false) }) (v := ?_) rfl (by kernel_rfl) (by kernel_rfl) (by kernel_rfl) (fun _ _ _ h => h) (Or.inl ⟨by rfl, ?_⟩) (by assumption) ?_
  rotate_left
  · (intro ww hSw; (try dsimp only at hSw); go_simp; try with_reducible rfl)
  (try simp only [Act.put, List.setIfInBounds_toArray, List.set_cons_zero, List.set_cons_succ])
  refine wpAnyH_take (i := 41) (oi := { dst := some 92, op := Op.slice 9 (Operand.tmp 91) (some (Operand.const (Value.int IntKind.i64 40))) none none, type := 9, pos := "more.go:24", after := #[{ on := 40, ground := Ground.data }, { on := 37, ground := Ground.guard }], guard := some (37, false) }) (v := ?_) rfl (by kernel_rfl) (by kernel_rfl) (by kernel_rfl) (fun _ _ _ h => h) (Or.inl ⟨by rfl, ?_⟩) (by assumption) ?_
  rotate_left
  · (intro ww hSw; (try dsimp only at hSw); go_simp; try with_reducible rfl)
  (try simp only [Act.put, List.setIfInBounds_toArray, List.set_cons_zero, List.set_cons_succ])
  refine wpAnyH_take (i := 42) (oi := { dst := some 93, op := Op.binOp BinOp.neq 9 (Operand.tmp 90) (Operand.tmp 92) 9, type := 4, pos := "more.go:24", after := #[{ on := 39, ground := Ground.data }, { on := 41, ground := Ground.data }, { on := 37, ground := Ground.guard }], guard := some (37, false) }) (v := ?_) rfl (by kernel_rfl) (by kernel_rfl) (by kernel_rfl) (fun _ _ _ h => h) (Or.inl ⟨by rfl, ?_⟩) (by assumption) ?_
  rotate_left
  · (intro ww hSw; (try dsimp only at hSw); go_simp; try with_reducible rfl)
  (try simp only [Act.put, List.setIfInBounds_toArray, List.set_cons_zero, List.set_cons_succ])
  refine wpAnyH_take (i := 43) (oi := { dst := some 94, op := Op.pick (Operand.tmp 88) (Operand.const (Value.bool true)) (Operand.tmp 93), type := 4, pos := "more.go:24", after := #[{ on := 37, ground := Ground.data }, { on := 42, ground := Ground.data }], guard := none }) (v := ?_) rfl (by kernel_rfl) (by kernel_rfl) (by kernel_rfl) (fun _ _ _ h => h) (Or.inl ⟨by rfl, ?_⟩) (by assumption) ?_
  rotate_left
  · (intro ww hSw; (try dsimp only at hSw); go_simp; try with_reducible rfl)
  (try simp only [Act.put, List.setIfInBounds_toArray, List.set_cons_zero, List.set_cons_succ])
  refine wpAnyH_done (by kernel_rfl) ?_ _
  refine NoPanic.normal ?_
  clear e1 e2 e3 e4 e5 hHeld HEE
  have HK9 := Lib.hid hK9
  have HB9 := Lib.hid hB9
  have c36 := hK9.hd.at HC36.out
  clear hK9 hB9
  generalize w8.drew = w9 at *
  have d36 := HB9.out.at HD36.out
  have z36 := HB9.out.z 36
  go_upto_region 17 with (fail)
  clear d36 z36 c36
  have hB := HB9.out.set 36 (.bool true)
  rw [HS4.out] at hB
  have HKa := Lib.hid (HK9.out.set (c := b2) hN6 hG6 36 (.bool true))
  have HBa := Lib.hid hB
  clear hB HK9 HB9
  generalize w9.setCell ⟨b2, 36, none⟩ (.bool true) = wa at *
  have d37 := HBa.out.at HD37.out
  have z37 := HBa.out.z 37
  go_upto_region 18 with (fail)
  clear d37 z37
  have hB := HBa.out.set 37 (.int .u32 i)
  rw [HS5.out] at hB
  have HKb := Lib.hid (HKa.out.set (c := b2) hN6 hG6 37 (.int .u32 i))
  have HBb := Lib.hid hB
  clear hB HKa HBa
  generalize wa.setCell ⟨b2, 37, none⟩ (.int .u32 i) = wb at *
  have hrw := HBb.out.range
  go_wp2_with (refine wpList_load_mid rfl 31 _ rfl b2 0 rfl VW _ hrw Try.underlying31 rfl HIVW.out ?_)
  rw [HVW.out]
  refine (C5.out wb (HX0.out.below HKb.out.2.1 (by rw [HB1.out]; exact Nat.le_refl _))).mono ?_
  rintro e wc ⟨f, rfl, _, _, bc⟩
  have HE := Lib.hid (show Below w.heap.size w wc by rw [HB1.out]; exact HKb.out.2.1.trans (bc.mono HKb.out.2.2))
  clear bc
  go_wp2_with fail
  go_ret
  exact ⟨rfl, HE.out⟩
set_option maxRecDepth 100000 in
set_option maxHeartbeats 1000000 in
theorem ip6Fields_whole (p : Pk6) (v : Value) (h i : Int) (w : World) (hx : Exs w v p.exts) (hr : Reach6 p) (hg : p.great = false) (h0 : 0 ≤ h) (h1 : h ≤ 255) (hi : 0 ≤ i ∧ i < 4294967296) (hw : p.why = 0) (hf : p.frag = false) (hb : p.behind + 8 ≤ 65535) :
    Calls Try.prog 10 #[.agg (p.vals v).toArray, .int .u8 h, .int .u32 i] w fun e w' => e = .returned (.bool true) ∧ Below w.heap.size w w' := by
  have kh : IntKind.i64.wrap h = h := IntWalk.i64_in _ (by omega)
  have hs := sm_great hg
  have hsq : Sm (p.turn h) := ⟨hs.len, hs.data, hs.body⟩
  have hid := hr.id
  have hsc : Sm (p.cut6 h i) := ⟨hs.len, hs.data, hs.body⟩
  have hw2 := turn_why h h0 h1 hw
  have hbz := bytes_size p
  have hbh := (why_ok hw).behind
  have hz40 : 40 ≤ p.bytes.size := by omega
  have hzmx : p.bytes.size ≤ 65575 := by omega
  have hdz : p.data.size ≤ p.bytes.size - 40 := by rw [hbz]; unfold Pk6.behind; omega
  have k7 : 7 < (p.turn h).bytes.size := by rw [turn_size]; omega
  have E1 := turn_first p h
  have E2 := turn_fr p h
  have E3 := turn_dst p h
  have E4 := turn_rest p h
  have q1 := turn_size p h
  rw [q1] at E4
  have E5 : (((p.turn h).bytes[7]'k7).toNat : Int) = h := by
    rw [← byN_at _ 7 k7, by7]
    exact u8i_nat (x := h) h0 (by omega)
  have C2 := Lib.hid (fun (W : World) (hW : Exs W v p.exts) => bytes_ok p v W hW hs hw hid)
  have C3 := Lib.hid (fun (W : World) (hW : Exs W v p.exts) => bytes_ok (p.turn h) v W hW hsq hw2 hid)
  have C5 := Lib.hid (fun (W : World) (hW : Exs W v p.exts) => bytes_ok (p.cut6 h i) v W hW hsc (cut6_good h i h0 h1 hf hw hb) hi)
  obtain ⟨c0, c1, f0, f1, _, _, r0, r1, p0, p1, p8⟩ := bnd_pl (why_ok hw).bnd
  have q2 := cut6_size h i hf
  obtain ⟨k, hk⟩ : ∃ k, k = p.bytes.size - p.data.size := ⟨_, rfl⟩
  obtain ⟨m, hm⟩ : ∃ m, m = k + 8 := ⟨_, rfl⟩
  have hkC : k < (p.cut6 h i).bytes.size := by omega
  have G1 := cut6_four p h i
  have G2 := cut6_mid p h i
  have G3 := cut6_data h i hf
  rw [← hk, ← hm, q2] at G3
  have G4 : (((p.cut6 h i).bytes[k]'hkC).toNat : Int) = p.proto := by
    rw [← byN_at _ k hkC, hk, cut6_proto h i hf]
    exact u8i_nat r0 (by omega)
  have kpr : IntKind.u8.wrap p.proto = p.proto := IntWalk.u8_in _ (by omega)
  have kk : IntKind.i64.wrap (k : Int) = (k : Int) := IntWalk.i64_in _ (by omega)
  have km : IntKind.i64.wrap (m : Int) = (m : Int) := IntWalk.i64_in _ (by omega)
  have k65 : IntKind.i64.wrap ((p.bytes.size : Int) + 8) = (p.bytes.size : Int) + 8 := IntWalk.i64_in _ (by omega)
  have hkk : (p.bytes.size : Int) - (p.data.size : Int) = (k : Int) := by omega
  have hmm : (k : Int) + 8 = (m : Int) := by omega
  have hk40 : (40 : Int) ≤ (k : Int) := by omega
  have hkl : (k : Int) < (p.bytes.size : Int) + 8 := by omega
  have hml : (m : Int) ≤ (p.bytes.size : Int) + 8 := by omega
  have y48 : (40 : Int) ≤ (p.bytes.size : Int) + 8 := by omega
  have y44 : (4 : Int) ≤ (p.bytes.size : Int) + 8 := by omega
  have y740 : (7 : Int) ≤ 40 := by omega
  have HGG := Lib.hid (And.intro G1 (And.intro G2 (And.intro G3 G4)))
  clear hsc hb c0 c1 f0 f1 r0 r1 p0 p1 p8 G1 G2 G3 G4 hk hm
  have HEE := Lib.hid (And.intro E1 (And.intro E2 (And.intro E3 (And.intro E4 E5))))
  clear E1 E2 E3 E4 E5 hw2 hbz hbh hs hsq hw
  have y40 : (40 : Int) ≤ (p.bytes.size : Int) := by omega
  have y7 : (7 : Int) < (p.bytes.size : Int) := by omega
  have y7' : (7 : Int) ≤ (p.bytes.size : Int) := by omega
  have y8 : (8 : Int) ≤ (p.bytes.size : Int) := by omega
  have y24 : (24 : Int) ≤ (p.bytes.size : Int) := by omega
  have y4 : (4 : Int) ≤ (p.bytes.size : Int) := by omega
  have yb : ¬ (p.bytes.size : Int) < 40 := by omega
  have yb' : decide ((p.bytes.size : Int) < 40) = false := decide_eq_false yb
  clear hdz hz40
  generalize (p.cut6 h i).bytes = XC at *
  generalize p.bytes = XA at *
  generalize (p.turn h).bytes = XB at *
  obtain ⟨V1, hV1⟩ : ∃ V, V = ({ p with hop := h } : Pk6).vals v := ⟨_, rfl⟩
  obtain ⟨V2, hV2⟩ : ∃ V, V = ({ p with hop := h, fr := p.dst, hfr := p.hdst } : Pk6).vals v := ⟨_, rfl⟩
  obtain ⟨VQ, hVQ⟩ : ∃ V, V = (p.turn h).vals v := ⟨_, rfl⟩
  obtain ⟨AF, hAF⟩ : ∃ A, A = bytV p.fr := ⟨_, rfl⟩
  obtain ⟨AT, hAT⟩ : ∃ A, A = bytV p.dst := ⟨_, rfl⟩
  have HS1 : Hid ((p.vals v).toArray.setIfInBounds 2 (.int .i64 h) = V1.toArray) := Lib.hid (by rw [hV1]; exact vset2 p v h)
  have HS2 : Hid (puts V1.toArray 3 AT = V2.toArray) := Lib.hid (by rw [hV1, hV2, hAT]; exact vputs_fr _ v p.dst p.hdst)
  have HS3 : Hid (puts V2.toArray 19 AF = VQ.toArray) := Lib.hid (by rw [hV2, hVQ, hAF]; exact vputs_dst _ v p.fr p.hfr)
  have HL1 : Hid (V1.toArray.size = 42) := Lib.hid (by rw [hV1, List.size_toArray, vals_len])
  have HL2 : Hid (V2.toArray.size = 42) := Lib.hid (by rw [hV2, List.size_toArray, vals_len])
  have HLF : Hid (AF.toArray.size = 16) := Lib.hid (by rw [hAF, List.size_toArray, bytV_len, p.hfr])
  have HLT : Hid (AT.toArray.size = 16) := Lib.hid (by rw [hAT, List.size_toArray, bytV_len, p.hdst])
  have HIF : Hid ((Try.prog.info? 28).map (·.size) = some AF.length) := Lib.hid (by rw [hAF, bytV_len, p.hfr]; kernel_rfl)
  have HIT : Hid ((Try.prog.info? 28).map (·.size) = some AT.length) := Lib.hid (by rw [hAT, bytV_len, p.hdst]; kernel_rfl)
  have HOF : Hid (AF.toArray.all (·.oneCell') = true) := Lib.hid (by rw [hAF, List.all_toArray, List.all_eq_true]; exact bytV_one _)
  have HOT : Hid (AT.toArray.all (·.oneCell') = true) := Lib.hid (by rw [hAT, List.all_toArray, List.all_eq_true]; exact bytV_one _)
  have HRG : Hid (∀ (W : World) (b : Nat), Bk W b 31 (p.vals v).toArray → W.rangeAt b 3 AF ∧ W.rangeAt b 19 AT) := Lib.hid (fun W b hb => by rw [hAF, hAT]; exact fr_range p v W b _ hb)
  have HIVQ : Hid ((Try.prog.info? 31).map (·.size) = some VQ.length) := Lib.hid (by rw [hVQ]; exact Try.info6 _ _)
  have HOv : Hid ((p.vals v).toArray.all (·.oneCell') = true) := Lib.hid (vals_one _ _ (exs_onecell hx))
  have HVQ := Lib.hid hVQ
  obtain ⟨VW1, hVW1⟩ : ∃ V, V = ({ p.turn h with frag := true } : Pk6).vals v := ⟨_, rfl⟩
  obtain ⟨VW, hVW⟩ : ∃ V, V = (p.cut6 h i).vals v := ⟨_, rfl⟩
  have HS4 : Hid (VQ.toArray.setIfInBounds 36 (.bool true) = VW1.toArray) := Lib.hid (by rw [hVQ, hVW1]; exact vtail (p.turn h) v 1 _ _ v rfl rfl)
  have HS5 : Hid (VW1.toArray.setIfInBounds 37 (.int .u32 i) = VW.toArray) := Lib.hid (by rw [hVW1, hVW]; exact vtail _ v 2 _ (p.cut6 h i) v rfl rfl)
  have HD36 : Hid (VQ[36]? = some (.bool false)) := Lib.hid (by rw [hVQ, ← hf]; exact vals_tail (p.turn h) v 1)
  have HD37 : Hid (VW1[37]? = some (.int .u32 p.id)) := Lib.hid (by rw [hVW1]; exact vals_tail _ v 2)
  have HIVW : Hid ((Try.prog.info? 31).map (·.size) = some VW.length) := Lib.hid (by rw [hVW]; exact Try.info6 _ _)
  have HVW := Lib.hid hVW
  clear hV1 hV2 hVQ hAF hAT hVW1 hVW
  obtain ⟨Z, hZ⟩ : ∃ Z, Z = pk0.vals (.slice none 0 0) := ⟨_, rfl⟩
  have hz0 : Z.toArray = #[.int .i64 0, .int .i64 0, .int .i64 0, .int .u8 0, .int .u8 0, .int .u8 0, .int .u8 0, .int .u8 0, .int .u8 0, .int .u8 0, .int .u8 0, .int .u8 0, .int .u8 0, .int .u8 0, .int .u8 0, .int .u8 0, .int .u8 0, .int .u8 0, .int .u8 0, .int .u8 0, .int .u8 0, .int .u8 0, .int .u8 0, .int .u8 0, .int .u8 0, .int .u8 0, .int .u8 0, .int .u8 0, .int .u8 0, .int .u8 0, .int .u8 0, .int .u8 0, .int .u8 0, .int .u8 0, .int .u8 0, .slice none 0 0, .bool false, .int .u32 0, .int .i64 0, .bool false, .int .i64 0, .string ⟨#[]⟩] := by rw [hZ]; exact pk0_vals
  have HZ0 := Lib.hid hz0
  have HZl : Hid (∀ (p : Pk6) (v : Value), (p.vals v).length = Z.toArray.size) := Lib.hid (fun p v => by rw [List.size_toArray, hZ, vals_len, vals_len])
  clear hZ hz0
  obtain ⟨V, hV, hVl, hD, hK⟩ := boxed6 p v w
  have HIV : Hid ((Try.prog.info? 31).map (·.size) = some V.length) := Lib.hid (by rw [hV]; exact Try.info6 p _)
  have HVV := Lib.hid hV
  have CG : Hid (∀ W, Exs W v p.exts → Calls Try.prog 19 #[.agg V.toArray] W fun e w' => e = .returned (.bool false) ∧ Below W.heap.size W w') := Lib.hid (fun W hW => by rw [hV, ← hg]; exact great_any p v W hW hr.len hr.data hr.body)
  have HX0 := Lib.hid hx
  have HC36 : Hid (V[36]? = some (.bool false)) := Lib.hid (by rw [HVV.out, ← hf]; exact vals_tail p v 1)
  rw [← hV]
  clear hV
  have HK1 := Lib.hid hK
  clear hK hD hx hVl hg
  generalize hw1 : w.alloc (.cells V.toArray 31) = w1 at *
  go_enter Try.func10, Try.ntmps10
  go_upto_region 1 with (fail)
  clear hw1
  go_wp2_with fail
  refine (awake_true w1).mono ?_
  rintro e w2 ⟨rfl, b2⟩
  have HK2 := Lib.hid (HK1.out.below b2 (Nat.le_refl _))
  have hrg2 := HK2.out.hd.range
  clear b2 HK1
  go_wp2_with (refine wpList_load_mid rfl 31 _ rfl w.heap.size 0 rfl V _ hrg2 Try.underlying31 rfl HIV.out ?_)
  refine (CG.out w2 (HX0.out.below HK2.out.2.1 (Nat.le_refl _))).mono ?_
  rintro e w3 ⟨rfl, b3⟩
  have HK3 := Lib.hid (HK2.out.below b3 (Nat.le_refl _))
  have hrg3 := HK3.out.hd.range
  clear b3 HK2 hrg2 CG
  go_wp2_with (refine wpList_load_mid rfl 31 _ rfl w.heap.size 0 rfl V _ hrg3 Try.underlying31 rfl HIV.out ?_)
  rw [HVV.out]
  refine (C2.out w3 (HX0.out.below HK3.out.2.1 (Nat.le_refl _))).mono ?_
  rintro e w4 ⟨rfl, b4⟩
  rw [← HVV.out]
  have HK4 := Lib.hid (HK3.out.below b4 (Nat.le_refl _))
  clear b4 HK3 C2 hrg3
  have hHOV : V.toArray.all (·.oneCell') = true := by rw [HVV.out]; exact HOv.out
  have HOV := Lib.hid hHOV
  have hL : V.length = Z.toArray.size := by rw [HVV.out]; exact HZl.out _ _
  have hL42 : V.toArray.size = 42 := by rw [HVV.out, List.size_toArray, vals_len]
  have HL42 := Lib.hid hL42
  have hV2c : V[2]? = some (.int .i64 p.hop) := by rw [HVV.out]; rfl
  have hq := HK4.out.put 31 Z.toArray V hL
  have ht : (w4.alloc (.cells Z.toArray 31)).there w4.heap.size 0 V.toArray.size := (bk_new w4 31 Z.toArray).there _ (by rw [List.size_toArray, hL]; exact Nat.le_refl _)
  have hrg4 := HK4.out.hd.range
  have hrg4' : (w4.alloc (.cells Z.toArray 31)).rangeAt w.heap.size 0 V := (HK4.out.alloc _).hd.range
  have HNE := Lib.hid (Nat.ne_of_lt (HK4.out.hd.lt))
  have HGE := Lib.hid HK4.out.2.2
  clear hL hL42 hHOV
  generalize hwn : (w4.alloc (.cells Z.toArray 31)).setCells w4.heap.size 0 V = w5 at *
  rw [HZ0.out] at hwn ht hrg4'
  go_upto_region 7 with (first | (refine wpList_load_mid rfl 31 _ rfl w.heap.size 0 rfl V _ hrg4 Try.underlying31 rfl HIV.out ?_) | (refine wpList_load_mid rfl 31 _ rfl w.heap.size 0 rfl V _ hrg4' Try.underlying31 rfl HIV.out ?_) | (refine wpList_store_mid rfl 31 _ _ rfl w4.heap.size 0 V.toArray rfl rfl ht HIV.out HOV.out ?_))
  try rw [hwn]
  have HK5 := Lib.hid hq.tl
  have HB5 := Lib.hid hq.hd
  clear hwn ht hrg4 hrg4' hq HK4
  have c2 := HB5.out.c 2 _ (by simpa using hV2c)
  have z2 := HB5.out.z 2
  go_upto_region 8 with (fail)
  clear c2 z2 hV2c
  have hK := HB5.out.set 2 (.int .i64 h)
  rw [HVV.out, HS1.out] at hK
  have HB6 := Lib.hid hK
  have HK6 := Lib.hid (HK5.out.set (c := w4.heap.size) (fun x hx => by simp only [List.mem_singleton] at hx; subst hx; exact HNE.out) HGE.out 2 (.int .i64 h))
  clear hK HB5 HK5
  generalize w5.setCell ⟨w4.heap.size, 2, none⟩ (.int .i64 h) = w6 at *
  have hRG : ∀ (W : World), Bk W w.heap.size 31 V.toArray → W.rangeAt w.heap.size 3 AF ∧ W.rangeAt w.heap.size 19 AT := fun W hb => HRG.out W _ (by rw [← HVV.out]; exact hb)
  have HRR := Lib.hid hRG
  have hK6 : Kp w w.heap.size [(w.heap.size, 31, V)] w6.drew := HK6.out.drew
  have hB6 : Bk w6.drew w4.heap.size 31 V1.toArray := HB6.out
  have hN6 : ∀ x ∈ [(w.heap.size, 31, V)], x.1 ≠ w4.heap.size := fun x hx => by simp only [List.mem_singleton] at hx; subst hx; exact HNE.out
  have hG6 := HGE.out
  clear hRG HK6 HB6
  generalize w4.heap.size = b2 at *
  generalize hb1 : w.heap.size = b1 at *
  have HB1 := Lib.hid hb1
  clear hb1
  refine wp_region_noPanic ?_
  refine wp_region_held_drew (S := fun w' => Kp w b1 [(b1, 31, V)] w' ∧ w'.rangeAt b1 3 AF ∧ w'.rangeAt b1 19 AT) (by kernel_rfl) (two_keep HRR.out hK6) (fun hHeld => ?_)
  refine wpAnyH_take (i := 0) (oi := { dst := some 28, op := Op.fieldAddr 31 (Operand.tmp 3) 4, type := 0, pos := "more.go:19", after := #[], guard := none }) (v := ?_) rfl (by kernel_rfl) (by kernel_rfl) (by kernel_rfl) (fun _ _ _ h => h) (Or.inl ⟨by rfl, ?_⟩) (by assumption) ?_
  rotate_left
  · (intro ww hSw; (try dsimp only at hSw); go_simp; try with_reducible rfl)
  (try simp only [Act.put, List.setIfInBounds_toArray, List.set_cons_zero, List.set_cons_succ])
  refine wpAnyH_take (i := 1) (oi := { dst := some 29, op := Op.load 28 (Operand.tmp 28), type := 28, pos := "more.go:19", after := #[{ on := 0, ground := Ground.data }], guard := none }) (v := .agg (AT).toArray) rfl (by kernel_rfl) (by kernel_rfl) (by kernel_rfl) (fun _ _ _ h => h) (yieldsIf_load_mid (by rfl) _ _ rfl (b1) 19 rfl (AT) _ (fun ww hSw => hSw.2.2) Try.underlying28 rfl HIT.out) (by assumption) ?_
  (try simp only [Act.put, List.setIfInBounds_toArray, List.set_cons_zero, List.set_cons_succ])
  refine wpAnyH_take (i := 2) (oi := { dst := some 30, op := Op.fieldAddr 31 (Operand.tmp 3) 3, type := 0, pos := "more.go:19", after := #[{ on := 5, ground := Ground.gcOnly Departure.lateStores }], guard := none }) (v := ?_) rfl (by kernel_rfl) (by kernel_rfl) (by kernel_rfl) (fun _ _ _ h => h) (Or.inl ⟨by rfl, ?_⟩) (by assumption) ?_
  rotate_left
  · (intro ww hSw; (try dsimp only at hSw); go_simp; try with_reducible rfl)
  (try simp only [Act.put, List.setIfInBounds_toArray, List.set_cons_zero, List.set_cons_succ])
  refine wpAnyH_take (i := 3) (oi := { dst := some 31, op := Op.load 28 (Operand.tmp 30), type := 28, pos := "more.go:19", after := #[{ on := 2, ground := Ground.data }, { on := 5, ground := Ground.gcOnly Departure.lateStores }], guard := none }) (v := .agg (AF).toArray) rfl (by kernel_rfl) (by kernel_rfl) (by kernel_rfl) (fun _ _ _ h => h) (yieldsIf_load_mid (by rfl) _ _ rfl (b1) 3 rfl (AF) _ (fun ww hSw => hSw.2.1) Try.underlying28 rfl HIF.out) (by assumption) ?_
  (try simp only [Act.put, List.setIfInBounds_toArray, List.set_cons_zero, List.set_cons_succ])
  refine wpAnyH_take (i := 4) (oi := { dst := some 32, op := Op.fieldAddr 31 (Operand.tmp 9) 3, type := 0, pos := "more.go:19", after := #[{ on := 0, ground := Ground.phase }, { on := 1, ground := Ground.phase }, { on := 2, ground := Ground.textOnly Departure.lateStores }, { on := 3, ground := Ground.textOnly Departure.lateStores }], guard := none }) (v := ?_) rfl (by kernel_rfl) (by kernel_rfl) (by kernel_rfl) (fun _ _ _ h => h) (Or.inl ⟨by rfl, ?_⟩) (by assumption) ?_
  rotate_left
  · (intro ww hSw; (try dsimp only at hSw); go_simp; try with_reducible rfl)
  (try simp only [Act.put, List.setIfInBounds_toArray, List.set_cons_zero, List.set_cons_succ])
  refine wpAnyH_ready (rs := [5]) (by kernel_rfl) (by simp) ?_
  refine AllReadyH.cons (o := { dst := none, op := Op.store 28 (Operand.tmp 32) (Operand.tmp 29), type := 0, pos := "more.go:19", after := #[{ on := 4, ground := Ground.data }, { on := 1, ground := Ground.data }, { on := 0, ground := Ground.phase }, { on := 1, ground := Ground.phase }, { on := 2, ground := Ground.textOnly Departure.lateStores }, { on := 3, ground := Ground.textOnly Departure.lateStores }], guard := none }) rfl (fun K hK => ?_) AllReadyH.nil
  rw [if_pos (by rfl)]
  have ht5 : w6.drew.there b2 3 AT.toArray.size := by rw [HLT.out]; exact hB6.there' 3 16 (by rw [HL1.out]; decide)
  refine wp_store_mid 28 _ _ rfl b2 3 AT.toArray rfl rfl ht5 HIT.out HOT.out ?_
  refine hK.out _ _ (two_keep HRR.out (Kp.sets (And.left hHeld) hN6 hG6 3 AT)) (fun hHeld => ?_)
  clear hK K
  (try simp only [Act.put])
  have hK7 := Bk.sets AT 3 _ _ hB6
  rw [HS2.out] at hK7
  refine wpAnyH_take (i := 6) (oi := { dst := some 33, op := Op.fieldAddr 31 (Operand.tmp 9) 4, type := 0, pos := "more.go:19", after := #[{ on := 0, ground := Ground.phase }, { on := 1, ground := Ground.phase }, { on := 2, ground := Ground.phase }, { on := 3, ground := Ground.phase }, { on := 4, ground := Ground.phase }, { on := 5, ground := Ground.phase }], guard := none }) (v := ?_) rfl (by kernel_rfl) (by kernel_rfl) (by kernel_rfl) (fun _ _ _ h => h) (Or.inl ⟨by rfl, ?_⟩) (by assumption) ?_
  rotate_left
  · (intro ww hSw; (try dsimp only at hSw); go_simp; try with_reducible rfl)
  (try simp only [Act.put, List.setIfInBounds_toArray, List.set_cons_zero, List.set_cons_succ])
  refine wpAnyH_ready (rs := [7]) (by kernel_rfl) (by simp) ?_
  refine AllReadyH.cons (o := { dst := none, op := Op.store 28 (Operand.tmp 33) (Operand.tmp 31), type := 0, pos := "more.go:19", after := #[{ on := 6, ground := Ground.data }, { on := 3, ground := Ground.data }, { on := 5, ground := Ground.chain }, { on := 0, ground := Ground.phase }, { on := 1, ground := Ground.phase }, { on := 2, ground := Ground.phase }, { on := 3, ground := Ground.phase }, { on := 4, ground := Ground.phase }, { on := 5, ground := Ground.phase }], guard := none }) rfl (fun K hK => ?_) AllReadyH.nil
  rw [if_pos (by rfl)]
  have ht7 : (w6.drew.setCells b2 3 AT).there b2 19 AF.toArray.size := by rw [HLF.out]; exact hK7.there' 19 16 (by rw [HL2.out]; decide)
  refine wp_store_mid 28 _ _ rfl b2 19 AF.toArray rfl rfl ht7 HIF.out HOF.out ?_
  refine hK.out _ _ (two_keep HRR.out (Kp.sets (And.left hHeld) hN6 hG6 19 AF)) (fun hHeld => ?_)
  clear hK K
  (try simp only [Act.put])
  have hK8 := Bk.sets AF 19 _ _ hK7
  refine wpAnyH_done (by kernel_rfl) ?_ _
  refine NoPanic.normal ?_
  have HKp := Lib.hid (And.left hHeld)
  rw [HS3.out] at hK8
  have HB8 := Lib.hid hK8
  clear hHeld hK8 hK7 hB6 ht5 ht7 hK6
  generalize (w6.drew.setCells b2 3 AT).setCells b2 19 AF = w7 at *
  have hrq := HB8.out.range
  go_wp2_with (refine wpList_load_mid rfl 31 _ rfl b2 0 rfl VQ _ hrq Try.underlying31 rfl HIVQ.out ?_)
  rw [HVQ.out]
  refine (C3.out w7 (HX0.out.below HKp.out.2.1 (by rw [HB1.out]; exact Nat.le_refl _))).mono ?_
  rintro e w8 ⟨rfl, b8⟩
  rw [← HVQ.out]
  have hK9 := (HKp.out.below b8 (Nat.le_refl _)).drew
  have hB9 : Bk w8.drew b2 31 VQ.toArray := (show Bk w8 b2 31 VQ.toArray from HB8.out.below b8 HB8.out.lt)
  clear b8 HKp HB8 hrq C3
  go_upto_region 12 with (fail)
  obtain ⟨e1, e2, e3, e4, e5⟩ := HEE.out
  refine wp_region_noPanic ?_
  refine wp_region_held_drew (S := fun w' => Below b1 w w') (by kernel_rfl) (hK9.2.1) (fun hHeld => ?_)
  refine wpAnyH_take (i := 0) (oi := { dst := some 51, op := Op.move (Operand.tmp 7), type := 9, pos := "more.go:24", after := #[], guard := none }) (v := ?_) rfl (by kernel_rfl) (by kernel_rfl) (by kernel_rfl) (fun _ _ _ h => h) (Or.inl ⟨by rfl, ?_⟩) (by assumption) ?_
  rotate_left
  · (intro ww hSw; (try dsimp only at hSw); go_simp; try with_reducible rfl)
  (try simp only [Act.put, List.setIfInBounds_toArray, List.set_cons_zero, List.set_cons_succ])
  refine wpAnyH_take (i := 1) (oi := { dst := some 52, op := Op.call { callee := Callee.builtin Builtin.len, args := #[Operand.tmp 51], argTypes := #[9] }, type := 3, pos := "more.go:24", after := #[{ on := 0, ground := Ground.data }], guard := none }) (v := ?_) rfl (by kernel_rfl) (by kernel_rfl) (by kernel_rfl) (fun _ _ _ h => h) (Or.inl ⟨by rfl, ?_⟩) (by assumption) ?_
  rotate_left
  · (intro ww hSw; (try dsimp only at hSw); go_simp; try with_reducible rfl)
  (try simp only [Act.put, List.setIfInBounds_toArray, List.set_cons_zero, List.set_cons_succ])
  refine wpAnyH_take (i := 2) (oi := { dst := some 53, op := Op.binOp BinOp.lss 3 (Operand.tmp 52) (Operand.const (Value.int IntKind.i64 40)) 3, type := 4, pos := "more.go:24", after := #[{ on := 1, ground := Ground.data }], guard := none }) (v := ?_) rfl (by kernel_rfl) (by kernel_rfl) (by kernel_rfl) (fun _ _ _ h => h) (Or.inl ⟨by rfl, ?_⟩) (by assumption) ?_
  rotate_left
  · (intro ww hSw; (try dsimp only at hSw); go_simp; try with_reducible rfl)
  (try simp only [Act.put, List.setIfInBounds_toArray, List.set_cons_zero, List.set_cons_succ])
  refine wpAnyH_take (i := 3) (oi := { dst := some 54, op := Op.move (Operand.tmp 53), type := 4, pos := "more.go:24", after := #[{ on := 2, ground := Ground.data }], guard := none }) (v := ?_) rfl (by kernel_rfl) (by kernel_rfl) (by kernel_rfl) (fun _ _ _ h => h) (Or.inl ⟨by rfl, ?_⟩) (by assumption) ?_
  rotate_left
  · (intro ww hSw; (try dsimp only at hSw); go_simp; try with_reducible rfl)
  (try simp only [Act.put, List.setIfInBounds_toArray, List.set_cons_zero, List.set_cons_succ])
  refine wpAnyH_take (i := 4) (oi := { dst := some 55, op := Op.move (Operand.tmp 7), type := 9, pos := "more.go:24", after := #[{ on := 3, ground := Ground.guard }], guard := some (3, false) }) (v := ?_) rfl (by kernel_rfl) (by kernel_rfl) (by kernel_rfl) (fun _ _ _ h => h) (Or.inl ⟨by rfl, ?_⟩) (by assumption) ?_
  rotate_left
  · (intro ww hSw; (try dsimp only at hSw); go_simp; try with_reducible rfl)
  (try simp only [Act.put, List.setIfInBounds_toArray, List.set_cons_zero, List.set_cons_succ])
  refine wpAnyH_take (i := 5) (oi := { dst := some 56, op := Op.call { callee := Callee.builtin Builtin.len, args := #[Operand.tmp 55], argTypes := #[9] }, type := 3, pos := "more.go:24", after := #[{ on := 4, ground := Ground.data }, { on := 3, ground := Ground.guard }], guard := some (3, false) }) (v := ?_) rfl (by kernel_rfl) (by kernel_rfl) (by kernel_rfl) (fun _ _ _ h => h) (Or.inl ⟨by rfl, ?_⟩) (by assumption) ?_
  rotate_left
  · (intro ww hSw; (try dsimp only at hSw); go_simp; try with_reducible rfl)
  (try simp only [Act.put, List.setIfInBounds_toArray, List.set_cons_zero, List.set_cons_succ])
  refine wpAnyH_take (i := 6) (oi := { dst := some 57, op := Op.move (Operand.tmp 10), type := 9, pos := "more.go:24", after := #[{ on := 3, ground := Ground.guard }], guard := some (3, false) }) (v := ?_) rfl (by kernel_rfl) (by kernel_rfl) (by kernel_rfl) (fun _ _ _ h => h) (Or.inl ⟨by rfl, ?_⟩) (by assumption) ?_
  rotate_left
  · (intro ww hSw; (try dsimp only at hSw); go_simp; try with_reducible rfl)
  (try simp only [Act.put, List.setIfInBounds_toArray, List.set_cons_zero, List.set_cons_succ])
  refine wpAnyH_take (i := 7) (oi := { dst := some 58, op := Op.call { callee := Callee.builtin Builtin.len, args := #[Operand.tmp 57], argTypes := #[9] }, type := 3, pos := "more.go:24", after := #[{ on := 6, ground := Ground.data }, { on := 3, ground := Ground.guard }], guard := some (3, false) }) (v := ?_) rfl (by kernel_rfl) (by kernel_rfl) (by kernel_rfl) (fun _ _ _ h => h) (Or.inl ⟨by rfl, ?_⟩) (by assumption) ?_
  rotate_left
  · (intro ww hSw; (try dsimp only at hSw); go_simp; try with_reducible rfl)
  (try simp only [Act.put, List.setIfInBounds_toArray, List.set_cons_zero, List.set_cons_succ])
  refine wpAnyH_take (i := 8) (oi := { dst := some 59, op := Op.binOp BinOp.neq 3 (Operand.tmp 56) (Operand.tmp 58) 3, type := 4, pos := "more.go:24", after := #[{ on := 5, ground := Ground.data }, { on := 7, ground := Ground.data }, { on := 3, ground := Ground.guard }], guard := some (3, false) }) (v := ?_) rfl (by kernel_rfl) (by kernel_rfl) (by kernel_rfl) (fun _ _ _ h => h) (Or.inl ⟨by rfl, ?_⟩) (by assumption) ?_
  rotate_left
  · (intro ww hSw; (try dsimp only at hSw); go_simp; try with_reducible rfl)
  (try simp only [Act.put, List.setIfInBounds_toArray, List.set_cons_zero, List.set_cons_succ])
  refine wpAnyH_take (i := 9) (oi := { dst := some 60, op := Op.pick (Operand.tmp 54) (Operand.const (Value.bool true)) (Operand.tmp 59), type := 4, pos := "more.go:24", after := #[{ on := 3, ground := Ground.data }, { on := 8, ground := Ground.data }], guard := none }) (v := ?_) rfl (by kernel_rfl) (by kernel_rfl) (by kernel_rfl) (fun _ _ _ h => h) (Or.inl ⟨by rfl, ?_⟩) (by assumption) ?_
  rotate_left
  · (intro ww hSw; (try dsimp only at hSw); go_simp; try with_reducible rfl)
  (try simp only [Act.put, List.setIfInBounds_toArray, List.set_cons_zero, List.set_cons_succ])
  refine wpAnyH_take (i := 10) (oi := { dst := some 61, op := Op.move (Operand.tmp 60), type := 4, pos := "more.go:24", after := #[{ on := 9, ground := Ground.data }, { on := 3, ground := Ground.chain }], guard := none }) (v := ?_) rfl (by kernel_rfl) (by kernel_rfl) (by kernel_rfl) (fun _ _ _ h => h) (Or.inl ⟨by rfl, ?_⟩) (by assumption) ?_
  rotate_left
  · (intro ww hSw; (try dsimp only at hSw); go_simp; try with_reducible rfl)
  (try simp only [Act.put, List.setIfInBounds_toArray, List.set_cons_zero, List.set_cons_succ])
  refine wpAnyH_take (i := 11) (oi := { dst := some 62, op := Op.move (Operand.tmp 7), type := 9, pos := "more.go:24", after := #[{ on := 10, ground := Ground.guard }], guard := some (10, false) }) (v := ?_) rfl (by kernel_rfl) (by kernel_rfl) (by kernel_rfl) (fun _ _ _ h => h) (Or.inl ⟨by rfl, ?_⟩) (by assumption) ?_
  rotate_left
  · (intro ww hSw; (try dsimp only at hSw); go_simp; try with_reducible rfl)
  (try simp only [Act.put, List.setIfInBounds_toArray, List.set_cons_zero, List.set_cons_succ])
  refine wpAnyH_take (i := 12) (oi := { dst := some 63, op := Op.slice 9 (Operand.tmp 62) none (some (Operand.const (Value.int IntKind.i64 7))) none, type := 9, pos := "more.go:24", after := #[{ on := 11, ground := Ground.data }, { on := 10, ground := Ground.guard }], guard := some (10, false) }) (v := ?_) rfl (by kernel_rfl) (by kernel_rfl) (by kernel_rfl) (fun _ _ _ h => h) (Or.inl ⟨by rfl, ?_⟩) (by assumption) ?_
  rotate_left
  · (intro ww hSw; (try dsimp only at hSw); go_simp; try with_reducible rfl)
  (try simp only [Act.put, List.setIfInBounds_toArray, List.set_cons_zero, List.set_cons_succ])
  refine wpAnyH_take (i := 13) (oi := { dst := some 64, op := Op.move (Operand.tmp 10), type := 9, pos := "more.go:24", after := #[{ on := 10, ground := Ground.guard }], guard := some (10, false) }) (v := ?_) rfl (by kernel_rfl) (by kernel_rfl) (by kernel_rfl) (fun _ _ _ h => h) (Or.inl ⟨by rfl, ?_⟩) (by assumption) ?_
  rotate_left
  · (intro ww hSw; (try dsimp only at hSw); go_simp; try with_reducible rfl)
  (try simp only [Act.put, List.setIfInBounds_toArray, List.set_cons_zero, List.set_cons_succ])
  refine wpAnyH_take (i := 14) (oi := { dst := some 65, op := Op.slice 9 (Operand.tmp 64) none (some (Operand.const (Value.int IntKind.i64 7))) none, type := 9, pos := "more.go:24", after := #[{ on := 13, ground := Ground.data }, { on := 10, ground := Ground.guard }], guard := some (10, false) }) (v := ?_) rfl (by kernel_rfl) (by kernel_rfl) (by kernel_rfl) (fun _ _ _ h => h) (Or.inl ⟨by rfl, ?_⟩) (by assumption) ?_
  rotate_left
  · (intro ww hSw; (try dsimp only at hSw); go_simp; try with_reducible rfl)
  (try simp only [Act.put, List.setIfInBounds_toArray, List.set_cons_zero, List.set_cons_succ])
  refine wpAnyH_take (i := 15) (oi := { dst := some 66, op := Op.binOp BinOp.neq 9 (Operand.tmp 63) (Operand.tmp 65) 9, type := 4, pos := "more.go:24", after := #[{ on := 12, ground := Ground.data }, { on := 14, ground := Ground.data }, { on := 10, ground := Ground.guard }], guard := some (10, false) }) (v := ?_) rfl (by kernel_rfl) (by kernel_rfl) (by kernel_rfl) (fun _ _ _ h => h) (Or.inl ⟨by rfl, ?_⟩) (by assumption) ?_
  rotate_left
  · (intro ww hSw; (try dsimp only at hSw); go_simp; try with_reducible rfl)
  (try simp only [Act.put, List.setIfInBounds_toArray, List.set_cons_zero, List.set_cons_succ])
  refine wpAnyH_take (i := 16) (oi := { dst := some 67, op := Op.pick (Operand.tmp 61) (Operand.const (Value.bool true)) (Operand.tmp 66), type := 4, pos := "more.go:24", after := #[{ on := 10, ground := Ground.data }, { on := 15, ground := Ground.data }], guard := none }) (v := ?_) rfl (by kernel_rfl) (by kernel_rfl) (by kernel_rfl) (fun _ _ _ h => h) (Or.inl ⟨by rfl, ?_⟩) (by assumption) ?_
  rotate_left
  · (intro ww hSw; (try dsimp only at hSw); go_simp; try with_reducible rfl)
  (try simp only [Act.put, List.setIfInBounds_toArray, List.set_cons_zero, List.set_cons_succ])
  refine wpAnyH_take (i := 17) (oi := { dst := some 68, op := Op.move (Operand.tmp 67), type := 4, pos := "more.go:24", after := #[{ on := 16, ground := Ground.data }, { on := 10, ground := Ground.chain }], guard := none }) (v := ?_) rfl (by kernel_rfl) (by kernel_rfl) (by kernel_rfl) (fun _ _ _ h => h) (Or.inl ⟨by rfl, ?_⟩) (by assumption) ?_
  rotate_left
  · (intro ww hSw; (try dsimp only at hSw); go_simp; try with_reducible rfl)
  (try simp only [Act.put, List.setIfInBounds_toArray, List.set_cons_zero, List.set_cons_succ])
  refine wpAnyH_take (i := 18) (oi := { dst := some 69, op := Op.move (Operand.tmp 10), type := 9, pos := "more.go:24", after := #[{ on := 17, ground := Ground.guard }], guard := some (17, false) }) (v := ?_) rfl (by kernel_rfl) (by kernel_rfl) (by kernel_rfl) (fun _ _ _ h => h) (Or.inl ⟨by rfl, ?_⟩) (by assumption) ?_
  rotate_left
  · (intro ww hSw; (try dsimp only at hSw); go_simp; try with_reducible rfl)
  (try simp only [Act.put, List.setIfInBounds_toArray, List.set_cons_zero, List.set_cons_succ])
  refine wpAnyH_take (i := 19) (oi := { dst := some 70, op := Op.index 9 (Operand.tmp 69) (Operand.const (Value.int IntKind.i64 7)), type := 5, pos := "more.go:24", after := #[{ on := 18, ground := Ground.data }, { on := 17, ground := Ground.guard }], guard := some (17, false) }) (v := ?_) rfl (by kernel_rfl) (by kernel_rfl) (by kernel_rfl) (fun _ _ _ h => h) (Or.inl ⟨by rfl, ?_⟩) (by assumption) ?_
  rotate_left
  · (intro ww hSw; (try dsimp only at hSw); go_simp; try with_reducible rfl)
  (try simp only [Act.put, List.setIfInBounds_toArray, List.set_cons_zero, List.set_cons_succ])
  refine wpAnyH_take (i := 20) (oi := { dst := some 71, op := Op.move (Operand.tmp 1), type := 5, pos := "more.go:24", after := #[{ on := 17, ground := Ground.guard }], guard := some (17, false) }) (v := ?_) rfl (by kernel_rfl) (by kernel_rfl) (by kernel_rfl) (fun _ _ _ h => h) (Or.inl ⟨by rfl, ?_⟩) (by assumption) ?_
  rotate_left
  · (intro ww hSw; (try dsimp only at hSw); go_simp; try with_reducible rfl)
  (try simp only [Act.put, List.setIfInBounds_toArray, List.set_cons_zero, List.set_cons_succ])
  refine wpAnyH_take (i := 21) (oi := { dst := some 72, op := Op.binOp BinOp.neq 5 (Operand.tmp 70) (Operand.tmp 71) 5, type := 4, pos := "more.go:24", after := #[{ on := 19, ground := Ground.data }, { on := 20, ground := Ground.data }, { on := 17, ground := Ground.guard }], guard := some (17, false) }) (v := ?_) rfl (by kernel_rfl) (by kernel_rfl) (by kernel_rfl) (fun _ _ _ h => h) (Or.inl ⟨by rfl, ?_⟩) (by assumption) ?_
  rotate_left
  · (intro ww hSw; (try dsimp only at hSw); go_simp; try with_reducible rfl)
  (try simp only [Act.put, List.setIfInBounds_toArray, List.set_cons_zero, List.set_cons_succ])
  refine wpAnyH_take (i := 22) (oi := { dst := some 73, op := Op.pick (Operand.tmp 68) (Operand.const (Value.bool true)) (Operand.tmp 72), type := 4, pos := "more.go:24", after := #[{ on := 17, ground := Ground.data }, { on := 21, ground := Ground.data }], guard := none }) (v := ?_) rfl (by kernel_rfl) (by kernel_rfl) (by kernel_rfl) (fun _ _ _ h => h) (Or.inl ⟨by rfl, ?_⟩) (by assumption) ?_
  rotate_left
  · (intro ww hSw; (try dsimp only at hSw); go_simp; try with_reducible rfl)
  (try simp only [Act.put, List.setIfInBounds_toArray, List.set_cons_zero, List.set_cons_succ])
  refine wpAnyH_take (i := 23) (oi := { dst := some 74, op := Op.move (Operand.tmp 73), type := 4, pos := "more.go:24", after := #[{ on := 22, ground := Ground.data }, { on := 17, ground := Ground.chain }], guard := none }) (v := ?_) rfl (by kernel_rfl) (by kernel_rfl) (by kernel_rfl) (fun _ _ _ h => h) (Or.inl ⟨by rfl, ?_⟩) (by assumption) ?_
  rotate_left
  · (intro ww hSw; (try dsimp only at hSw); go_simp; try with_reducible rfl)
  (try simp only [Act.put, List.setIfInBounds_toArray, List.set_cons_zero, List.set_cons_succ])
  refine wpAnyH_take (i := 24) (oi := { dst := some 75, op := Op.move (Operand.tmp 7), type := 9, pos := "more.go:24", after := #[{ on := 23, ground := Ground.guard }], guard := some (23, false) }) (v := ?_) rfl (by kernel_rfl) (by kernel_rfl) (by kernel_rfl) (fun _ _ _ h => h) (Or.inl ⟨by rfl, ?_⟩) (by assumption) ?_
  rotate_left
  · (intro ww hSw; (try dsimp only at hSw); go_simp; try with_reducible rfl)
  (try simp only [Act.put, List.setIfInBounds_toArray, List.set_cons_zero, List.set_cons_succ])
  refine wpAnyH_take (i := 25) (oi := { dst := some 76, op := Op.slice 9 (Operand.tmp 75) (some (Operand.const (Value.int IntKind.i64 8))) (some (Operand.const (Value.int IntKind.i64 24))) none, type := 9, pos := "more.go:24", after := #[{ on := 24, ground := Ground.data }, { on := 23, ground := Ground.guard }], guard := some (23, false) }) (v := ?_) rfl (by kernel_rfl) (by kernel_rfl) (by kernel_rfl) (fun _ _ _ h => h) (Or.inl ⟨by rfl, ?_⟩) (by assumption) ?_
  rotate_left
  · (intro ww hSw; (try dsimp only at hSw); go_simp; try with_reducible rfl)
  (try simp only [Act.put, List.setIfInBounds_toArray, List.set_cons_zero, List.set_cons_succ])
  refine wpAnyH_take (i := 26) (oi := { dst := some 77, op := Op.move (Operand.tmp 10), type := 9, pos := "more.go:24", after := #[{ on := 23, ground := Ground.guard }], guard := some (23, false) }) (v := ?_) rfl (by kernel_rfl) (by kernel_rfl) (by kernel_rfl) (fun _ _ _ h => h) (Or.inl ⟨by rfl, ?_⟩) (by assumption) ?_
  rotate_left
  · (intro ww hSw; (try dsimp only at hSw); go_simp; try with_reducible rfl)
  (try simp only [Act.put, List.setIfInBounds_toArray, List.set_cons_zero, List.set_cons_succ])
  refine wpAnyH_take (i := 27) (oi := { dst := some 78, op := Op.slice 9 (Operand.tmp 77) (some (Operand.const (Value.int IntKind.i64 24))) (some (Operand.const (Value.int IntKind.i64 40))) none, type := 9, pos := "more.go:24", after := #[{ on := 26, ground := Ground.data }, { on := 23, ground := Ground.guard }], guard := some (23, false) }) (v := ?_) rfl (by kernel_rfl) (by kernel_rfl) (by kernel_rfl) (fun _ _ _ h => h) (Or.inl ⟨by rfl, ?_⟩) (by assumption) ?_
  rotate_left
  · (intro ww hSw; (try dsimp only at hSw); go_simp; try with_reducible rfl)
  (try simp only [Act.put, List.setIfInBounds_toArray, List.set_cons_zero, List.set_cons_succ])
  refine wpAnyH_take (i := 28) (oi := { dst := some 79, op := Op.binOp BinOp.neq 9 (Operand.tmp 76) (Operand.tmp 78) 9, type := 4, pos := "more.go:24", after := #[{ on := 25, ground := Ground.data }, { on := 27, ground := Ground.data }, { on := 23, ground := Ground.guard }], guard := some (23, false) }) (v := ?_) rfl (by kernel_rfl) (by kernel_rfl) (by kernel_rfl) (fun _ _ _ h => h) (Or.inl ⟨by rfl, ?_⟩) (by assumption) ?_
  rotate_left
  · (intro ww hSw; (try dsimp only at hSw); go_simp; try with_reducible rfl)
  (try simp only [Act.put, List.setIfInBounds_toArray, List.set_cons_zero, List.set_cons_succ])
  refine wpAnyH_take (i := 29) (oi := { dst := some 80, op := Op.pick (Operand.tmp 74) (Operand.const (Value.bool true)) (Operand.tmp 79), type := 4, pos := "more.go:24", after := #[{ on := 23, ground := Ground.data }, { on := 28, ground := Ground.data }], guard := none }) (v := ?_) rfl (by kernel_rfl) (by kernel_rfl) (by kernel_rfl) (fun _ _ _ h => h) (Or.inl ⟨by rfl, ?_⟩) (by assumption) ?_
  rotate_left
  · (intro ww hSw; (try dsimp only at hSw); go_simp; try with_reducible rfl)
  (try simp only [Act.put, List.setIfInBounds_toArray, List.set_cons_zero, List.set_cons_succ])
  refine wpAnyH_take (i := 30) (oi := { dst := some 81, op := Op.move (Operand.tmp 80), type := 4, pos := "more.go:24", after := #[{ on := 29, ground := Ground.data }, { on := 23, ground := Ground.chain }], guard := none }) (v := ?_) rfl (by kernel_rfl) (by kernel_rfl) (by kernel_rfl) (fun _ _ _ h => h) (Or.inl ⟨by rfl, ?_⟩) (by assumption) ?_
  rotate_left
  · (intro ww hSw; (try dsimp only at hSw); go_simp; try with_reducible rfl)
  (try simp only [Act.put, List.setIfInBounds_toArray, List.set_cons_zero, List.set_cons_succ])
  refine wpAnyH_take (i := 31) (oi := { dst := some 82, op := Op.move (Operand.tmp 7), type := 9, pos := "more.go:24", after := #[{ on := 30, ground := Ground.guard }], guard := some (30, false) }) (v := ?_) rfl (by kernel_rfl) (by kernel_rfl) (by kernel_rfl) (fun _ _ _ h => h) (Or.inl ⟨by rfl, ?_⟩) (by assumption) ?_
  rotate_left
  · (intro ww hSw; (try dsimp only at hSw); go_simp; try with_reducible rfl)
  (try simp only [Act.put, List.setIfInBounds_toArray, List.set_cons_zero, List.set_cons_succ])
  refine wpAnyH_take (i := 32) (oi := { dst := some 83, op := Op.slice 9 (Operand.tmp 82) (some (Operand.const (Value.int IntKind.i64 24))) (some (Operand.const (Value.int IntKind.i64 40))) none, type := 9, pos := "more.go:24", after := #[{ on := 31, ground := Ground.data }, { on := 30, ground := Ground.guard }], guard := some (30, false) }) (v := ?_) rfl (by kernel_rfl) (by kernel_rfl) (by kernel_rfl) (fun _ _ _ h => h) (Or.inl ⟨by rfl, ?_⟩) (by assumption) ?_
  rotate_left
  · (intro ww hSw; (try dsimp only at hSw); go_simp; try with_reducible rfl)
  (try simp only [Act.put, List.setIfInBounds_toArray, List.set_cons_zero, List.set_cons_succ])
  refine wpAnyH_take (i := 33) (oi := { dst := some 84, op := Op.move (Operand.tmp 10), type := 9, pos := "more.go:24", after := #[{ on := 30, ground := Ground.guard }], guard := some (30, false) }) (v := ?_) rfl (by kernel_rfl) (by kernel_rfl) (by kernel_rfl) (fun _ _ _ h => h) (Or.inl ⟨by rfl, ?_⟩) (by assumption) ?_
  rotate_left
  · (intro ww hSw; (try dsimp only at hSw); go_simp; try with_reducible rfl)
  (try simp only [Act.put, List.setIfInBounds_toArray, List.set_cons_zero, List.set_cons_succ])
  refine wpAnyH_take (i := 34) (oi := { dst := some 85, op := Op.slice 9 (Operand.tmp 84) (some (Operand.const (Value.int IntKind.i64 8))) (some (Operand.const (Value.int IntKind.i64 24))) none, type := 9, pos := "more.go:24", after := #[{ on := 33, ground := Ground.data }, { on := 30, ground := Ground.guard }], guard := some (30, false) }) (v := ?_) rfl (by kernel_rfl) (by kernel_rfl) (by kernel_rfl) (fun _ _ _ h => h) (Or.inl ⟨by rfl, ?_⟩) (by assumption) ?_
  rotate_left
  · (intro ww hSw; (try dsimp only at hSw); go_simp; try with_reducible rfl)
  (try simp only [Act.put, List.setIfInBounds_toArray, List.set_cons_zero, List.set_cons_succ])
  refine wpAnyH_take (i := 35) (oi := { dst := some 86, op := Op.binOp BinOp.neq 9 (Operand.tmp 83) (Operand.tmp 85) 9, type := 4, pos := "more.go:24", after := #[{ on := 32, ground := Ground.data }, { on := 34, ground := Ground.data }, { on := 30, ground := Ground.guard }], guard := some (30, false) }) (v := ?_) rfl (by kernel_rfl) (by kernel_rfl) (by kernel_rfl) (fun _ _ _ h => h) (Or.inl ⟨by rfl, ?_⟩) (by assumption) ?_
  rotate_left
  · (intro ww hSw; (try dsimp only at hSw); go_simp; try with_reducible rfl)
  (try simp only [Act.put, List.setIfInBounds_toArray, List.set_cons_zero, List.set_cons_succ])
  refine wpAnyH_take (i := 36) (oi := { dst := some 87, op := Op.pick (Operand.tmp 81) (Operand.const (Value.bool true)) (Operand.tmp 86), type := 4, pos := "more.go:24", after := #[{ on := 30, ground := Ground.data }, { on := 35, ground := Ground.data }], guard := none }) (v := ?_) rfl (by kernel_rfl) (by kernel_rfl) (by kernel_rfl) (fun _ _ _ h => h) (Or.inl ⟨by rfl, ?_⟩) (by assumption) ?_
  rotate_left
  · (intro ww hSw; (try dsimp only at hSw); go_simp; try with_reducible rfl)
  (try simp only [Act.put, List.setIfInBounds_toArray, List.set_cons_zero, List.set_cons_succ])
  refine wpAnyH_take (i := 37) (oi := { dst := some 88, op := Op.move (Operand.tmp 87), type := 4, pos := "more.go:24", after := #[{ on := 36, ground := Ground.data }, { on := 30, ground := Ground.chain }], guard := none }) (v := ?_) rfl (by kernel_rfl) (by kernel_rfl) (by kernel_rfl) (fun _ _ _ h => h) (Or.inl ⟨by rfl, ?_⟩) (by assumption) ?_
  rotate_left
  · (intro ww hSw; (try dsimp only at hSw); go_simp; try with_reducible rfl)
  (try simp only [Act.put, List.setIfInBounds_toArray, List.set_cons_zero, List.set_cons_succ])
  refine wpAnyH_take (i := 38) (oi := { dst := some 89, op := Op.move (Operand.tmp 7), type := 9, pos := "more.go:24", after := #[{ on := 37, ground := Ground.guard }], guard := some (37, false) }) (v := ?_) rfl (by kernel_rfl) (by kernel_rfl) (by kernel_rfl) (fun _ _ _ h => h) (Or.inl ⟨by rfl, ?_⟩) (by assumption) ?_
  rotate_left
  · (intro ww hSw; (try dsimp only at hSw); go_simp; try with_reducible rfl)
  (try simp only [Act.put, List.setIfInBounds_toArray, List.set_cons_zero, List.set_cons_succ])
  refine wpAnyH_take (i := 39) (oi := { dst := some 90, op := Op.slice 9 (Operand.tmp 89) (some (Operand.const (Value.int IntKind.i64 40))) none none, type := 9, pos := "more.go:24", after := #[{ on := 38, ground := Ground.data }, { on := 37, ground := Ground.guard }], guard := some (37, false) }) (v := ?_) rfl (by kernel_rfl) (by kernel_rfl) (by kernel_rfl) (fun _ _ _ h => h) (Or.inl ⟨by rfl, ?_⟩) (by assumption) ?_
  rotate_left
  · (intro ww hSw; (try dsimp only at hSw); go_simp; try with_reducible rfl)
  (try simp only [Act.put, List.setIfInBounds_toArray, List.set_cons_zero, List.set_cons_succ])
  refine wpAnyH_take (i := 40) (oi := { dst := some 91, op := Op.move (Operand.tmp 10), type := 9, pos := "more.go:24", after := #[{ on := 37, ground := Ground.guard }], guard := some (37, false) }) (v := ?_) rfl (by kernel_rfl) (by kernel_rfl) (by kernel_rfl) (fun _ _ _ h => h) (Or.inl ⟨by rfl, ?_⟩) (by assumption) ?_
  rotate_left
  · (intro ww hSw; (try dsimp only at hSw); go_simp; try with_reducible rfl)
  (try simp only [Act.put, List.setIfInBounds_toArray, List.set_cons_zero, List.set_cons_succ])
  refine wpAnyH_take (i := 41) (oi := { dst := some 92, op := Op.slice 9 (Operand.tmp 91) (some (Operand.const (Value.int IntKind.i64 40))) none none, type := 9, pos := "more.go:24", after := #[{ on := 40, ground := Ground.data }, { on := 37, ground := Ground.guard }], guard := some (37, false) }) (v := ?_) rfl (by kernel_rfl) (by kernel_rfl) (by kernel_rfl) (fun _ _ _ h => h) (Or.inl ⟨by rfl, ?_⟩) (by assumption) ?_
  rotate_left
  · (intro ww hSw; (try dsimp only at hSw); go_simp; try with_reducible rfl)
  (try simp only [Act.put, List.setIfInBounds_toArray, List.set_cons_zero, List.set_cons_succ])
  refine wpAnyH_take (i := 42) (oi := { dst := some 93, op := Op.binOp BinOp.neq 9 (Operand.tmp 90) (Operand.tmp 92) 9, type := 4, pos := "more.go:24", after := #[{ on := 39, ground := Ground.data }, { on := 41, ground := Ground.data }, { on := 37, ground := Ground.guard }], guard := some (37, false) }) (v := ?_) rfl (by kernel_rfl) (by kernel_rfl) (by kernel_rfl) (fun _ _ _ h => h) (Or.inl ⟨by rfl, ?_⟩) (by assumption) ?_
  rotate_left
  · (intro ww hSw; (try dsimp only at hSw); go_simp; try with_reducible rfl)
  (try simp only [Act.put, List.setIfInBounds_toArray, List.set_cons_zero, List.set_cons_succ])
  refine wpAnyH_take (i := 43) (oi := { dst := some 94, op := Op.pick (Operand.tmp 88) (Operand.const (Value.bool true)) (Operand.tmp 93), type := 4, pos := "more.go:24", after := #[{ on := 37, ground := Ground.data }, { on := 42, ground := Ground.data }], guard := none }) (v := ?_) rfl (by kernel_rfl) (by kernel_rfl) (by kernel_rfl) (fun _ _ _ h => h) (Or.inl ⟨by rfl, ?_⟩) (by assumption) ?_
  rotate_left
  · (intro ww hSw; (try dsimp only at hSw); go_simp; try with_reducible rfl)
  (try simp only [Act.put, List.setIfInBounds_toArray, List.set_cons_zero, List.set_cons_succ])
  refine wpAnyH_done (by kernel_rfl) ?_ _
  refine NoPanic.normal ?_
  clear e1 e2 e3 e4 e5 hHeld HEE
  have HK9 := Lib.hid hK9
  have HB9 := Lib.hid hB9
  have c36 := hK9.hd.at HC36.out
  clear hK9 hB9
  generalize w8.drew = w9 at *
  have d36 := HB9.out.at HD36.out
  have z36 := HB9.out.z 36
  go_upto_region 17 with (fail)
  clear d36 z36 c36
  have hB := HB9.out.set 36 (.bool true)
  rw [HS4.out] at hB
  have HKa := Lib.hid (HK9.out.set (c := b2) hN6 hG6 36 (.bool true))
  have HBa := Lib.hid hB
  clear hB HK9 HB9
  generalize w9.setCell ⟨b2, 36, none⟩ (.bool true) = wa at *
  have d37 := HBa.out.at HD37.out
  have z37 := HBa.out.z 37
  go_upto_region 18 with (fail)
  clear d37 z37
  have hB := HBa.out.set 37 (.int .u32 i)
  rw [HS5.out] at hB
  have HKb := Lib.hid (HKa.out.set (c := b2) hN6 hG6 37 (.int .u32 i))
  have HBb := Lib.hid hB
  clear hB HKa HBa
  generalize wa.setCell ⟨b2, 37, none⟩ (.int .u32 i) = wb at *
  have hrw := HBb.out.range
  go_wp2_with (refine wpList_load_mid rfl 31 _ rfl b2 0 rfl VW _ hrw Try.underlying31 rfl HIVW.out ?_)
  rw [HVW.out]
  refine (C5.out wb (HX0.out.below HKb.out.2.1 (by rw [HB1.out]; exact Nat.le_refl _))).mono ?_
  rintro e wc ⟨rfl, bc⟩
  rw [← HVW.out]
  have HKc := Lib.hid (HKb.out.below bc (Nat.le_refl _))
  clear bc HKb HBb hrw
  have c41 : wc.cell? ⟨b1, 41, none⟩ = some (.string p.data) := HKc.out.hd.at (by rw [HVV.out]; exact vals_tail p v 6)
  have c40 : wc.cell? ⟨b1, 40, none⟩ = some (.int .i64 p.proto) := HKc.out.hd.at (by rw [HVV.out]; exact vals_tail p v 5)
  clear HVV HVQ HVW
  generalize hdt : p.data = dt at *
  generalize hpr : p.proto = pr at *
  clear hdt hpr
  obtain ⟨g1, g2, g3, g4⟩ := HGG.out
  go_upto_region 22 with (fail)
  refine wp_region_noPanic ?_
  refine wp_region_held_drew (S := fun w' => Below b1 w w' ∧ w'.cell? ⟨b1, 41, none⟩ = some (.string dt) ∧ w'.cell? ⟨b1, 40, none⟩ = some (.int .i64 pr)) (by kernel_rfl) (⟨HKc.out.2.1.drew, c41, c40⟩) (fun hHeld => ?_)
  refine wpAnyH_take (i := 0) (oi := { dst := some 117, op := Op.move (Operand.tmp 12), type := 9, pos := "more.go:37", after := #[], guard := none }) (v := ?_) rfl (by kernel_rfl) (by kernel_rfl) (by kernel_rfl) (fun _ _ _ h => h) (Or.inl ⟨by rfl, ?_⟩) (by assumption) ?_
  rotate_left
  · (intro ww hSw; (try dsimp only at hSw); go_simp; try with_reducible rfl)
  (try simp only [Act.put, List.setIfInBounds_toArray, List.set_cons_zero, List.set_cons_succ])
  refine wpAnyH_take (i := 1) (oi := { dst := some 118, op := Op.call { callee := Callee.builtin Builtin.len, args := #[Operand.tmp 117], argTypes := #[9] }, type := 3, pos := "more.go:37", after := #[{ on := 0, ground := Ground.data }], guard := none }) (v := ?_) rfl (by kernel_rfl) (by kernel_rfl) (by kernel_rfl) (fun _ _ _ h => h) (Or.inl ⟨by rfl, ?_⟩) (by assumption) ?_
  rotate_left
  · (intro ww hSw; (try dsimp only at hSw); go_simp; try with_reducible rfl)
  (try simp only [Act.put, List.setIfInBounds_toArray, List.set_cons_zero, List.set_cons_succ])
  refine wpAnyH_take (i := 2) (oi := { dst := some 119, op := Op.move (Operand.tmp 7), type := 9, pos := "more.go:37", after := #[], guard := none }) (v := ?_) rfl (by kernel_rfl) (by kernel_rfl) (by kernel_rfl) (fun _ _ _ h => h) (Or.inl ⟨by rfl, ?_⟩) (by assumption) ?_
  rotate_left
  · (intro ww hSw; (try dsimp only at hSw); go_simp; try with_reducible rfl)
  (try simp only [Act.put, List.setIfInBounds_toArray, List.set_cons_zero, List.set_cons_succ])
  refine wpAnyH_take (i := 3) (oi := { dst := some 120, op := Op.call { callee := Callee.builtin Builtin.len, args := #[Operand.tmp 119], argTypes := #[9] }, type := 3, pos := "more.go:37", after := #[{ on := 2, ground := Ground.data }], guard := none }) (v := ?_) rfl (by kernel_rfl) (by kernel_rfl) (by kernel_rfl) (fun _ _ _ h => h) (Or.inl ⟨by rfl, ?_⟩) (by assumption) ?_
  rotate_left
  · (intro ww hSw; (try dsimp only at hSw); go_simp; try with_reducible rfl)
  (try simp only [Act.put, List.setIfInBounds_toArray, List.set_cons_zero, List.set_cons_succ])
  refine wpAnyH_take (i := 4) (oi := { dst := some 121, op := Op.binOp BinOp.add 3 (Operand.tmp 120) (Operand.const (Value.int IntKind.i64 8)) 3, type := 3, pos := "more.go:37", after := #[{ on := 3, ground := Ground.data }], guard := none }) (v := ?_) rfl (by kernel_rfl) (by kernel_rfl) (by kernel_rfl) (fun _ _ _ h => h) (Or.inl ⟨by rfl, ?_⟩) (by assumption) ?_
  rotate_left
  · (intro ww hSw; (try dsimp only at hSw); go_simp; try with_reducible rfl)
  (try simp only [Act.put, List.setIfInBounds_toArray, List.set_cons_zero, List.set_cons_succ])
  refine wpAnyH_take (i := 5) (oi := { dst := some 122, op := Op.binOp BinOp.eql 3 (Operand.tmp 118) (Operand.tmp 121) 3, type := 4, pos := "more.go:37", after := #[{ on := 1, ground := Ground.data }, { on := 4, ground := Ground.data }], guard := none }) (v := ?_) rfl (by kernel_rfl) (by kernel_rfl) (by kernel_rfl) (fun _ _ _ h => h) (Or.inl ⟨by rfl, ?_⟩) (by assumption) ?_
  rotate_left
  · (intro ww hSw; (try dsimp only at hSw); go_simp; try with_reducible rfl)
  (try simp only [Act.put, List.setIfInBounds_toArray, List.set_cons_zero, List.set_cons_succ])
  refine wpAnyH_take (i := 6) (oi := { dst := some 123, op := Op.move (Operand.tmp 122), type := 4, pos := "more.go:37", after := #[{ on := 5, ground := Ground.data }], guard := none }) (v := ?_) rfl (by kernel_rfl) (by kernel_rfl) (by kernel_rfl) (fun _ _ _ h => h) (Or.inl ⟨by rfl, ?_⟩) (by assumption) ?_
  rotate_left
  · (intro ww hSw; (try dsimp only at hSw); go_simp; try with_reducible rfl)
  (try simp only [Act.put, List.setIfInBounds_toArray, List.set_cons_zero, List.set_cons_succ])
  refine wpAnyH_take (i := 7) (oi := { dst := some 124, op := Op.move (Operand.tmp 14), type := 3, pos := "more.go:37", after := #[{ on := 6, ground := Ground.guard }], guard := some (6, true) }) (v := ?_) rfl (by kernel_rfl) (by kernel_rfl) (by kernel_rfl) (fun _ _ _ h => h) (Or.inl ⟨by rfl, ?_⟩) (by assumption) ?_
  rotate_left
  · (intro ww hSw; (try dsimp only at hSw); go_simp; try with_reducible rfl)
  (try simp only [Act.put, List.setIfInBounds_toArray, List.set_cons_zero, List.set_cons_succ])
  refine wpAnyH_take (i := 8) (oi := { dst := some 125, op := Op.binOp BinOp.geq 3 (Operand.tmp 124) (Operand.const (Value.int IntKind.i64 40)) 3, type := 4, pos := "more.go:37", after := #[{ on := 7, ground := Ground.data }, { on := 6, ground := Ground.guard }], guard := some (6, true) }) (v := ?_) rfl (by kernel_rfl) (by kernel_rfl) (by kernel_rfl) (fun _ _ _ h => h) (Or.inl ⟨by rfl, ?_⟩) (by assumption) ?_
  rotate_left
  · (intro ww hSw; (try dsimp only at hSw); go_simp; try with_reducible rfl)
  (try simp only [Act.put, List.setIfInBounds_toArray, List.set_cons_zero, List.set_cons_succ])
  refine wpAnyH_take (i := 9) (oi := { dst := some 126, op := Op.pick (Operand.tmp 123) (Operand.tmp 125) (Operand.const (Value.bool false)), type := 4, pos := "more.go:37", after := #[{ on := 6, ground := Ground.data }, { on := 8, ground := Ground.data }], guard := none }) (v := ?_) rfl (by kernel_rfl) (by kernel_rfl) (by kernel_rfl) (fun _ _ _ h => h) (Or.inl ⟨by rfl, ?_⟩) (by assumption) ?_
  rotate_left
  · (intro ww hSw; (try dsimp only at hSw); go_simp; try with_reducible rfl)
  (try simp only [Act.put, List.setIfInBounds_toArray, List.set_cons_zero, List.set_cons_succ])
  refine wpAnyH_take (i := 10) (oi := { dst := some 127, op := Op.move (Operand.tmp 126), type := 4, pos := "more.go:37", after := #[{ on := 9, ground := Ground.data }, { on := 6, ground := Ground.chain }], guard := none }) (v := ?_) rfl (by kernel_rfl) (by kernel_rfl) (by kernel_rfl) (fun _ _ _ h => h) (Or.inl ⟨by rfl, ?_⟩) (by assumption) ?_
  rotate_left
  · (intro ww hSw; (try dsimp only at hSw); go_simp; try with_reducible rfl)
  (try simp only [Act.put, List.setIfInBounds_toArray, List.set_cons_zero, List.set_cons_succ])
  refine wpAnyH_take (i := 11) (oi := { dst := some 128, op := Op.move (Operand.tmp 12), type := 9, pos := "more.go:37", after := #[{ on := 10, ground := Ground.guard }], guard := some (10, true) }) (v := ?_) rfl (by kernel_rfl) (by kernel_rfl) (by kernel_rfl) (fun _ _ _ h => h) (Or.inl ⟨by rfl, ?_⟩) (by assumption) ?_
  rotate_left
  · (intro ww hSw; (try dsimp only at hSw); go_simp; try with_reducible rfl)
  (try simp only [Act.put, List.setIfInBounds_toArray, List.set_cons_zero, List.set_cons_succ])
  refine wpAnyH_take (i := 12) (oi := { dst := some 129, op := Op.slice 9 (Operand.tmp 128) none (some (Operand.const (Value.int IntKind.i64 4))) none, type := 9, pos := "more.go:37", after := #[{ on := 11, ground := Ground.data }, { on := 10, ground := Ground.guard }], guard := some (10, true) }) (v := ?_) rfl (by kernel_rfl) (by kernel_rfl) (by kernel_rfl) (fun _ _ _ h => h) (Or.inl ⟨by rfl, ?_⟩) (by assumption) ?_
  rotate_left
  · (intro ww hSw; (try dsimp only at hSw); go_simp; try with_reducible rfl)
  (try simp only [Act.put, List.setIfInBounds_toArray, List.set_cons_zero, List.set_cons_succ])
  refine wpAnyH_take (i := 13) (oi := { dst := some 130, op := Op.move (Operand.tmp 10), type := 9, pos := "more.go:37", after := #[{ on := 10, ground := Ground.guard }], guard := some (10, true) }) (v := ?_) rfl (by kernel_rfl) (by kernel_rfl) (by kernel_rfl) (fun _ _ _ h => h) (Or.inl ⟨by rfl, ?_⟩) (by assumption) ?_
  rotate_left
  · (intro ww hSw; (try dsimp only at hSw); go_simp; try with_reducible rfl)
  (try simp only [Act.put, List.setIfInBounds_toArray, List.set_cons_zero, List.set_cons_succ])
  refine wpAnyH_take (i := 14) (oi := { dst := some 131, op := Op.slice 9 (Operand.tmp 130) none (some (Operand.const (Value.int IntKind.i64 4))) none, type := 9, pos := "more.go:37", after := #[{ on := 13, ground := Ground.data }, { on := 10, ground := Ground.guard }], guard := some (10, true) }) (v := ?_) rfl (by kernel_rfl) (by kernel_rfl) (by kernel_rfl) (fun _ _ _ h => h) (Or.inl ⟨by rfl, ?_⟩) (by assumption) ?_
  rotate_left
  · (intro ww hSw; (try dsimp only at hSw); go_simp; try with_reducible rfl)
  (try simp only [Act.put, List.setIfInBounds_toArray, List.set_cons_zero, List.set_cons_succ])
  refine wpAnyH_take (i := 15) (oi := { dst := some 132, op := Op.binOp BinOp.eql 9 (Operand.tmp 129) (Operand.tmp 131) 9, type := 4, pos := "more.go:37", after := #[{ on := 12, ground := Ground.data }, { on := 14, ground := Ground.data }, { on := 10, ground := Ground.guard }], guard := some (10, true) }) (v := ?_) rfl (by kernel_rfl) (by kernel_rfl) (by kernel_rfl) (fun _ _ _ h => h) (Or.inl ⟨by rfl, ?_⟩) (by assumption) ?_
  rotate_left
  · (intro ww hSw; (try dsimp only at hSw); go_simp; try with_reducible rfl)
  (try simp only [Act.put, List.setIfInBounds_toArray, List.set_cons_zero, List.set_cons_succ])
  refine wpAnyH_take (i := 16) (oi := { dst := some 133, op := Op.pick (Operand.tmp 127) (Operand.tmp 132) (Operand.const (Value.bool false)), type := 4, pos := "more.go:37", after := #[{ on := 10, ground := Ground.data }, { on := 15, ground := Ground.data }], guard := none }) (v := ?_) rfl (by kernel_rfl) (by kernel_rfl) (by kernel_rfl) (fun _ _ _ h => h) (Or.inl ⟨by rfl, ?_⟩) (by assumption) ?_
  rotate_left
  · (intro ww hSw; (try dsimp only at hSw); go_simp; try with_reducible rfl)
  (try simp only [Act.put, List.setIfInBounds_toArray, List.set_cons_zero, List.set_cons_succ])
  refine wpAnyH_take (i := 17) (oi := { dst := some 134, op := Op.move (Operand.tmp 133), type := 4, pos := "more.go:37", after := #[{ on := 16, ground := Ground.data }, { on := 10, ground := Ground.chain }], guard := none }) (v := ?_) rfl (by kernel_rfl) (by kernel_rfl) (by kernel_rfl) (fun _ _ _ h => h) (Or.inl ⟨by rfl, ?_⟩) (by assumption) ?_
  rotate_left
  · (intro ww hSw; (try dsimp only at hSw); go_simp; try with_reducible rfl)
  (try simp only [Act.put, List.setIfInBounds_toArray, List.set_cons_zero, List.set_cons_succ])
  refine wpAnyH_take (i := 18) (oi := { dst := some 135, op := Op.move (Operand.tmp 12), type := 9, pos := "more.go:37", after := #[{ on := 17, ground := Ground.guard }], guard := some (17, true) }) (v := ?_) rfl (by kernel_rfl) (by kernel_rfl) (by kernel_rfl) (fun _ _ _ h => h) (Or.inl ⟨by rfl, ?_⟩) (by assumption) ?_
  rotate_left
  · (intro ww hSw; (try dsimp only at hSw); go_simp; try with_reducible rfl)
  (try simp only [Act.put, List.setIfInBounds_toArray, List.set_cons_zero, List.set_cons_succ])
  refine wpAnyH_take (i := 19) (oi := { dst := some 136, op := Op.slice 9 (Operand.tmp 135) (some (Operand.const (Value.int IntKind.i64 7))) (some (Operand.const (Value.int IntKind.i64 40))) none, type := 9, pos := "more.go:37", after := #[{ on := 18, ground := Ground.data }, { on := 17, ground := Ground.guard }], guard := some (17, true) }) (v := ?_) rfl (by kernel_rfl) (by kernel_rfl) (by kernel_rfl) (fun _ _ _ h => h) (Or.inl ⟨by rfl, ?_⟩) (by assumption) ?_
  rotate_left
  · (intro ww hSw; (try dsimp only at hSw); go_simp; try with_reducible rfl)
  (try simp only [Act.put, List.setIfInBounds_toArray, List.set_cons_zero, List.set_cons_succ])
  refine wpAnyH_take (i := 20) (oi := { dst := some 137, op := Op.move (Operand.tmp 10), type := 9, pos := "more.go:37", after := #[{ on := 17, ground := Ground.guard }], guard := some (17, true) }) (v := ?_) rfl (by kernel_rfl) (by kernel_rfl) (by kernel_rfl) (fun _ _ _ h => h) (Or.inl ⟨by rfl, ?_⟩) (by assumption) ?_
  rotate_left
  · (intro ww hSw; (try dsimp only at hSw); go_simp; try with_reducible rfl)
  (try simp only [Act.put, List.setIfInBounds_toArray, List.set_cons_zero, List.set_cons_succ])
  refine wpAnyH_take (i := 21) (oi := { dst := some 138, op := Op.slice 9 (Operand.tmp 137) (some (Operand.const (Value.int IntKind.i64 7))) (some (Operand.const (Value.int IntKind.i64 40))) none, type := 9, pos := "more.go:37", after := #[{ on := 20, ground := Ground.data }, { on := 17, ground := Ground.guard }], guard := some (17, true) }) (v := ?_) rfl (by kernel_rfl) (by kernel_rfl) (by kernel_rfl) (fun _ _ _ h => h) (Or.inl ⟨by rfl, ?_⟩) (by assumption) ?_
  rotate_left
  · (intro ww hSw; (try dsimp only at hSw); go_simp; try with_reducible rfl)
  (try simp only [Act.put, List.setIfInBounds_toArray, List.set_cons_zero, List.set_cons_succ])
  refine wpAnyH_take (i := 22) (oi := { dst := some 139, op := Op.binOp BinOp.eql 9 (Operand.tmp 136) (Operand.tmp 138) 9, type := 4, pos := "more.go:37", after := #[{ on := 19, ground := Ground.data }, { on := 21, ground := Ground.data }, { on := 17, ground := Ground.guard }], guard := some (17, true) }) (v := ?_) rfl (by kernel_rfl) (by kernel_rfl) (by kernel_rfl) (fun _ _ _ h => h) (Or.inl ⟨by rfl, ?_⟩) (by assumption) ?_
  rotate_left
  · (intro ww hSw; (try dsimp only at hSw); go_simp; try with_reducible rfl)
  (try simp only [Act.put, List.setIfInBounds_toArray, List.set_cons_zero, List.set_cons_succ])
  refine wpAnyH_take (i := 23) (oi := { dst := some 140, op := Op.pick (Operand.tmp 134) (Operand.tmp 139) (Operand.const (Value.bool false)), type := 4, pos := "more.go:37", after := #[{ on := 17, ground := Ground.data }, { on := 22, ground := Ground.data }], guard := none }) (v := ?_) rfl (by kernel_rfl) (by kernel_rfl) (by kernel_rfl) (fun _ _ _ h => h) (Or.inl ⟨by rfl, ?_⟩) (by assumption) ?_
  rotate_left
  · (intro ww hSw; (try dsimp only at hSw); go_simp; try with_reducible rfl)
  (try simp only [Act.put, List.setIfInBounds_toArray, List.set_cons_zero, List.set_cons_succ])
  refine wpAnyH_take (i := 24) (oi := { dst := some 141, op := Op.move (Operand.tmp 140), type := 4, pos := "more.go:37", after := #[{ on := 23, ground := Ground.data }, { on := 17, ground := Ground.chain }], guard := none }) (v := ?_) rfl (by kernel_rfl) (by kernel_rfl) (by kernel_rfl) (fun _ _ _ h => h) (Or.inl ⟨by rfl, ?_⟩) (by assumption) ?_
  rotate_left
  · (intro ww hSw; (try dsimp only at hSw); go_simp; try with_reducible rfl)
  (try simp only [Act.put, List.setIfInBounds_toArray, List.set_cons_zero, List.set_cons_succ])
  refine wpAnyH_take (i := 25) (oi := { dst := some 142, op := Op.move (Operand.tmp 12), type := 9, pos := "more.go:37", after := #[{ on := 24, ground := Ground.guard }], guard := some (24, true) }) (v := ?_) rfl (by kernel_rfl) (by kernel_rfl) (by kernel_rfl) (fun _ _ _ h => h) (Or.inl ⟨by rfl, ?_⟩) (by assumption) ?_
  rotate_left
  · (intro ww hSw; (try dsimp only at hSw); go_simp; try with_reducible rfl)
  (try simp only [Act.put, List.setIfInBounds_toArray, List.set_cons_zero, List.set_cons_succ])
  refine wpAnyH_take (i := 26) (oi := { dst := some 143, op := Op.move (Operand.tmp 14), type := 3, pos := "more.go:37", after := #[{ on := 24, ground := Ground.guard }], guard := some (24, true) }) (v := ?_) rfl (by kernel_rfl) (by kernel_rfl) (by kernel_rfl) (fun _ _ _ h => h) (Or.inl ⟨by rfl, ?_⟩) (by assumption) ?_
  rotate_left
  · (intro ww hSw; (try dsimp only at hSw); go_simp; try with_reducible rfl)
  (try simp only [Act.put, List.setIfInBounds_toArray, List.set_cons_zero, List.set_cons_succ])
  refine wpAnyH_take (i := 27) (oi := { dst := some 144, op := Op.binOp BinOp.add 3 (Operand.tmp 143) (Operand.const (Value.int IntKind.i64 8)) 3, type := 3, pos := "more.go:37", after := #[{ on := 26, ground := Ground.data }, { on := 24, ground := Ground.guard }], guard := some (24, true) }) (v := ?_) rfl (by kernel_rfl) (by kernel_rfl) (by kernel_rfl) (fun _ _ _ h => h) (Or.inl ⟨by rfl, ?_⟩) (by assumption) ?_
  rotate_left
  · (intro ww hSw; (try dsimp only at hSw); go_simp; try with_reducible rfl)
  (try simp only [Act.put, List.setIfInBounds_toArray, List.set_cons_zero, List.set_cons_succ])
  refine wpAnyH_take (i := 28) (oi := { dst := some 145, op := Op.slice 9 (Operand.tmp 142) (some (Operand.tmp 144)) none none, type := 9, pos := "more.go:37", after := #[{ on := 25, ground := Ground.data }, { on := 27, ground := Ground.data }, { on := 24, ground := Ground.guard }], guard := some (24, true) }) (v := ?_) rfl (by kernel_rfl) (by kernel_rfl) (by kernel_rfl) (fun _ _ _ h => h) (Or.inl ⟨by rfl, ?_⟩) (by assumption) ?_
  rotate_left
  · (intro ww hSw; (try dsimp only at hSw); go_simp; try with_reducible rfl)
  (try simp only [Act.put, List.setIfInBounds_toArray, List.set_cons_zero, List.set_cons_succ])
  refine wpAnyH_take (i := 29) (oi := { dst := some 146, op := Op.fieldAddr 31 (Operand.tmp 3) 11, type := 0, pos := "more.go:37", after := #[{ on := 24, ground := Ground.guard }], guard := some (24, true) }) (v := ?_) rfl (by kernel_rfl) (by kernel_rfl) (by kernel_rfl) (fun _ _ _ h => h) (Or.inl ⟨by rfl, ?_⟩) (by assumption) ?_
  rotate_left
  · (intro ww hSw; (try dsimp only at hSw); go_simp; try with_reducible rfl)
  (try simp only [Act.put, List.setIfInBounds_toArray, List.set_cons_zero, List.set_cons_succ])
  refine wpAnyH_take (i := 30) (oi := { dst := some 147, op := Op.load 9 (Operand.tmp 146), type := 9, pos := "more.go:37", after := #[{ on := 29, ground := Ground.data }, { on := 24, ground := Ground.guard }], guard := some (24, true) }) (v := ?_) rfl (by kernel_rfl) (by kernel_rfl) (by kernel_rfl) (fun _ _ _ h => h) (Or.inl ⟨by rfl, ?_⟩) (by assumption) ?_
  rotate_left
  · (intro ww hSw; (try dsimp only at hSw); go_simp; try with_reducible rfl)
  (try simp only [Act.put, List.setIfInBounds_toArray, List.set_cons_zero, List.set_cons_succ])
  refine wpAnyH_take (i := 31) (oi := { dst := some 148, op := Op.binOp BinOp.eql 9 (Operand.tmp 145) (Operand.tmp 147) 9, type := 4, pos := "more.go:37", after := #[{ on := 28, ground := Ground.data }, { on := 30, ground := Ground.data }, { on := 24, ground := Ground.guard }], guard := some (24, true) }) (v := ?_) rfl (by kernel_rfl) (by kernel_rfl) (by kernel_rfl) (fun _ _ _ h => h) (Or.inl ⟨by rfl, ?_⟩) (by assumption) ?_
  rotate_left
  · (intro ww hSw; (try dsimp only at hSw); go_simp; try with_reducible rfl)
  (try simp only [Act.put, List.setIfInBounds_toArray, List.set_cons_zero, List.set_cons_succ])
  refine wpAnyH_take (i := 32) (oi := { dst := some 149, op := Op.pick (Operand.tmp 141) (Operand.tmp 148) (Operand.const (Value.bool false)), type := 4, pos := "more.go:37", after := #[{ on := 24, ground := Ground.data }, { on := 31, ground := Ground.data }], guard := none }) (v := ?_) rfl (by kernel_rfl) (by kernel_rfl) (by kernel_rfl) (fun _ _ _ h => h) (Or.inl ⟨by rfl, ?_⟩) (by assumption) ?_
  rotate_left
  · (intro ww hSw; (try dsimp only at hSw); go_simp; try with_reducible rfl)
  (try simp only [Act.put, List.setIfInBounds_toArray, List.set_cons_zero, List.set_cons_succ])
  refine wpAnyH_take (i := 33) (oi := { dst := some 150, op := Op.move (Operand.tmp 149), type := 4, pos := "more.go:37", after := #[{ on := 32, ground := Ground.data }, { on := 24, ground := Ground.chain }], guard := none }) (v := ?_) rfl (by kernel_rfl) (by kernel_rfl) (by kernel_rfl) (fun _ _ _ h => h) (Or.inl ⟨by rfl, ?_⟩) (by assumption) ?_
  rotate_left
  · (intro ww hSw; (try dsimp only at hSw); go_simp; try with_reducible rfl)
  (try simp only [Act.put, List.setIfInBounds_toArray, List.set_cons_zero, List.set_cons_succ])
  refine wpAnyH_take (i := 34) (oi := { dst := some 151, op := Op.move (Operand.tmp 12), type := 9, pos := "more.go:37", after := #[{ on := 33, ground := Ground.guard }], guard := some (33, true) }) (v := ?_) rfl (by kernel_rfl) (by kernel_rfl) (by kernel_rfl) (fun _ _ _ h => h) (Or.inl ⟨by rfl, ?_⟩) (by assumption) ?_
  rotate_left
  · (intro ww hSw; (try dsimp only at hSw); go_simp; try with_reducible rfl)
  (try simp only [Act.put, List.setIfInBounds_toArray, List.set_cons_zero, List.set_cons_succ])
  refine wpAnyH_take (i := 35) (oi := { dst := some 152, op := Op.move (Operand.tmp 14), type := 3, pos := "more.go:37", after := #[{ on := 33, ground := Ground.guard }], guard := some (33, true) }) (v := ?_) rfl (by kernel_rfl) (by kernel_rfl) (by kernel_rfl) (fun _ _ _ h => h) (Or.inl ⟨by rfl, ?_⟩) (by assumption) ?_
  rotate_left
  · (intro ww hSw; (try dsimp only at hSw); go_simp; try with_reducible rfl)
  (try simp only [Act.put, List.setIfInBounds_toArray, List.set_cons_zero, List.set_cons_succ])
  refine wpAnyH_take (i := 36) (oi := { dst := some 153, op := Op.index 9 (Operand.tmp 151) (Operand.tmp 152), type := 5, pos := "more.go:37", after := #[{ on := 34, ground := Ground.data }, { on := 35, ground := Ground.data }, { on := 33, ground := Ground.guard }], guard := some (33, true) }) (v := ?_) rfl (by kernel_rfl) (by kernel_rfl) (by kernel_rfl) (fun _ _ _ h => h) (Or.inl ⟨by rfl, ?_⟩) (by assumption) ?_
  rotate_left
  · (intro ww hSw; (try dsimp only at hSw); go_simp; try with_reducible rfl)
  (try simp only [Act.put, List.setIfInBounds_toArray, List.set_cons_zero, List.set_cons_succ])
  refine wpAnyH_take (i := 37) (oi := { dst := some 154, op := Op.fieldAddr 31 (Operand.tmp 3) 10, type := 0, pos := "more.go:37", after := #[{ on := 33, ground := Ground.guard }], guard := some (33, true) }) (v := ?_) rfl (by kernel_rfl) (by kernel_rfl) (by kernel_rfl) (fun _ _ _ h => h) (Or.inl ⟨by rfl, ?_⟩) (by assumption) ?_
  rotate_left
  · (intro ww hSw; (try dsimp only at hSw); go_simp; try with_reducible rfl)
  (try simp only [Act.put, List.setIfInBounds_toArray, List.set_cons_zero, List.set_cons_succ])
  refine wpAnyH_take (i := 38) (oi := { dst := some 155, op := Op.load 3 (Operand.tmp 154), type := 3, pos := "more.go:37", after := #[{ on := 37, ground := Ground.data }, { on := 33, ground := Ground.guard }], guard := some (33, true) }) (v := ?_) rfl (by kernel_rfl) (by kernel_rfl) (by kernel_rfl) (fun _ _ _ h => h) (Or.inl ⟨by rfl, ?_⟩) (by assumption) ?_
  rotate_left
  · (intro ww hSw; (try dsimp only at hSw); go_simp; try with_reducible rfl)
  (try simp only [Act.put, List.setIfInBounds_toArray, List.set_cons_zero, List.set_cons_succ])
  refine wpAnyH_take (i := 39) (oi := { dst := some 156, op := Op.convert 3 5 (Operand.tmp 155), type := 5, pos := "more.go:37", after := #[{ on := 38, ground := Ground.data }, { on := 33, ground := Ground.guard }], guard := some (33, true) }) (v := ?_) rfl (by kernel_rfl) (by kernel_rfl) (by kernel_rfl) (fun _ _ _ h => h) (Or.inl ⟨by rfl, ?_⟩) (by assumption) ?_
  rotate_left
  · (intro ww hSw; (try dsimp only at hSw); go_simp; try with_reducible rfl)
  (try simp only [Act.put, List.setIfInBounds_toArray, List.set_cons_zero, List.set_cons_succ])
  refine wpAnyH_take (i := 40) (oi := { dst := some 157, op := Op.binOp BinOp.eql 5 (Operand.tmp 153) (Operand.tmp 156) 5, type := 4, pos := "more.go:37", after := #[{ on := 36, ground := Ground.data }, { on := 39, ground := Ground.data }, { on := 33, ground := Ground.guard }], guard := some (33, true) }) (v := ?_) rfl (by kernel_rfl) (by kernel_rfl) (by kernel_rfl) (fun _ _ _ h => h) (Or.inl ⟨by rfl, ?_⟩) (by assumption) ?_
  rotate_left
  · (intro ww hSw; (try dsimp only at hSw); go_simp; try with_reducible rfl)
  (try simp only [Act.put, List.setIfInBounds_toArray, List.set_cons_zero, List.set_cons_succ])
  refine wpAnyH_take (i := 41) (oi := { dst := some 158, op := Op.pick (Operand.tmp 150) (Operand.tmp 157) (Operand.const (Value.bool false)), type := 4, pos := "more.go:37", after := #[{ on := 33, ground := Ground.data }, { on := 40, ground := Ground.data }], guard := none }) (v := ?_) rfl (by kernel_rfl) (by kernel_rfl) (by kernel_rfl) (fun _ _ _ h => h) (Or.inl ⟨by rfl, ?_⟩) (by assumption) ?_
  rotate_left
  · (intro ww hSw; (try dsimp only at hSw); go_simp; try with_reducible rfl)
  (try simp only [Act.put, List.setIfInBounds_toArray, List.set_cons_zero, List.set_cons_succ])
  refine wpAnyH_take (i := 42) (oi := { dst := some 6, op := Op.assign (Operand.tmp 158), type := 4, pos := "more.go:37", after := #[{ on := 41, ground := Ground.data }, { on := 33, ground := Ground.chain }, { on := 0, ground := Ground.phase }, { on := 1, ground := Ground.phase }, { on := 2, ground := Ground.phase }, { on := 3, ground := Ground.phase }, { on := 4, ground := Ground.phase }, { on := 5, ground := Ground.phase }, { on := 6, ground := Ground.phase }, { on := 7, ground := Ground.phase }, { on := 8, ground := Ground.phase }, { on := 9, ground := Ground.phase }, { on := 10, ground := Ground.phase }, { on := 11, ground := Ground.phase }, { on := 12, ground := Ground.phase }, { on := 13, ground := Ground.phase }, { on := 14, ground := Ground.phase }, { on := 15, ground := Ground.phase }, { on := 16, ground := Ground.phase }, { on := 17, ground := Ground.phase }, { on := 18, ground := Ground.phase }, { on := 19, ground := Ground.phase }, { on := 20, ground := Ground.phase }, { on := 21, ground := Ground.phase }, { on := 22, ground := Ground.phase }, { on := 23, ground := Ground.phase }, { on := 24, ground := Ground.phase }, { on := 25, ground := Ground.phase }, { on := 26, ground := Ground.phase }, { on := 27, ground := Ground.phase }, { on := 28, ground := Ground.phase }, { on := 29, ground := Ground.phase }, { on := 30, ground := Ground.phase }, { on := 31, ground := Ground.phase }, { on := 32, ground := Ground.phase }, { on := 33, ground := Ground.phase }, { on := 34, ground := Ground.phase }, { on := 35, ground := Ground.phase }, { on := 36, ground := Ground.phase }, { on := 37, ground := Ground.phase }, { on := 38, ground := Ground.phase }, { on := 39, ground := Ground.phase }, { on := 40, ground := Ground.phase }, { on := 41, ground := Ground.phase }], guard := none }) (v := ?_) rfl (by kernel_rfl) (by kernel_rfl) (by kernel_rfl) (fun _ _ _ h => h) (Or.inl ⟨by rfl, ?_⟩) (by assumption) ?_
  rotate_left
  · (intro ww hSw; (try dsimp only at hSw); go_simp; try with_reducible rfl)
  (try simp only [Act.put, List.setIfInBounds_toArray, List.set_cons_zero, List.set_cons_succ])
  refine wpAnyH_done (by kernel_rfl) ?_ _
  refine NoPanic.normal ?_
  have HE := Lib.hid (show Below w.heap.size w wc.drew by rw [HB1.out]; exact HKc.out.2.1.drew)
  clear hHeld g1 g2 g3 g4
  go_wp2_with fail
  go_ret
  exact ⟨rfl, HE.out⟩
end Go.Proofs.Ytphemimpkbjfoaa
