/-
  Proved here: the law Ip6Known answers true, and leaves old memory as it was.
  Conditions: none.
-/
import Derived.Test.YtphemimpkbjfoaaLinks
namespace Go.Proofs.Ytphemimpkbjfoaa
open Go.RowKit

def kn1 : Pk6 := { pk0 with proto := 44 }
def kn2 : Pk6 := { pk0 with flow := 1048576, proto := 44 }
def kn3 (d : ByteArray) : Pk6 := { pk0 with proto := 6, data := d }
theorem kn1_why : kn1.why = 10 := by decide +kernel
theorem kn2_why : kn2.why = 13 := by decide +kernel
theorem kn3_long (d : ByteArray) (h : 65535 < d.size) : (kn3 d).why = 3 := by
  unfold Pk6.why
  rw [if_neg (show ¬ (kn3 d).bnd = false by show ¬ true = false; decide), if_neg (show ¬ (kn3 d).kinds = false by show ¬ true = false; decide), if_neg (show ¬ (formed (kn3 d).exts = false ∨ (kn3 d).piece = false) by show ¬ (true = false ∨ true = false); decide), if_pos]
  right; right
  show 65535 < d.size + 0 + 0
  exact h
theorem kn3_good (d : ByteArray) (h : d.size ≤ 65535) : (kn3 d).why = 0 := by
  unfold Pk6.why
  rw [if_neg (show ¬ (kn3 d).bnd = false by show ¬ true = false; decide), if_neg (show ¬ (kn3 d).kinds = false by show ¬ true = false; decide), if_neg (show ¬ (formed (kn3 d).exts = false ∨ (kn3 d).piece = false) by show ¬ (true = false ∨ true = false); decide), if_neg]
  rintro (h1 | h1 | h1)
  · exact absurd h1 (by show ¬ 8 < 0; decide)
  · unfold Pk6.rch at h1
    rw [decide_eq_false_iff_not] at h1
    exact h1 (by show (0 : Int) + (d.size : Int) ≤ 65535; omega)
  · have h2 : 65535 < d.size + 0 + 0 := h1
    omega
def knC : Chn := ⟨[(60, ⟨#[1, 4, 0, 0, 0, 0]⟩)], 17, ⟨#[104, 105]⟩, 0⟩
theorem knC_eq : chnE [] 60 ⟨#[17, 0, 1, 4, 0, 0, 0, 0, 104, 105]⟩ = knC := by kernel_rfl
def kn39 : ByteArray := ⟨(Lib.repeatL [96] 39).toArray⟩
theorem kn39_code : pcode kn39 = 7 := by decide +kernel
theorem kn39_size : kn39.size = 39 := by decide +kernel
theorem kn_r1 : rtd [(43, ⟨#[0, 1]⟩)] = true := by decide +kernel
theorem kn_r2 : rtd [(60, ⟨#[0, 1]⟩), (43, ⟨#[1, 0]⟩)] = false := by decide +kernel
theorem small_nil (p : Pk6) (h : p.exts = []) (hd : p.data.size ≤ 70000) : Sm p := ⟨by rw [h]; exact Nat.zero_le _, hd, fun e he => by rw [h] at he; cases he⟩
theorem Try.execK1 (a : Act) (d : Option Tmp) (ty : TypeId) (ps : String) (af : Array Edge) (w : World) :
    (execOp a.eval { dst := d, op := .build 31 #[(10, .const (.int .i64 44))], type := ty, pos := ps, after := af, guard := none }).run Try.prog w = .ok (.value (.agg (kn1.vals (.slice none 0 0)).toArray)) w := by
  unfold execOp
  simp only [Sem.run_bind, List.map_toArray, List.map_cons, List.map_nil]
  show Result.andThen ((Instr.build 31 #[(10, .int .i64 44)]).run Try.prog w) _ = _
  rw [show (Instr.build 31 #[(10, .int .i64 44)]).run Try.prog w = .ok (.agg (kn1.vals (.slice none 0 0)).toArray) w by kernel_rfl]
  rfl
theorem Try.execK2 (a : Act) (d : Option Tmp) (ty : TypeId) (ps : String) (af : Array Edge) (w : World) :
    (execOp a.eval { dst := d, op := .build 31 #[(1, .const (.int .i64 1048576)), (10, .const (.int .i64 44))], type := ty, pos := ps, after := af, guard := none }).run Try.prog w = .ok (.value (.agg (kn2.vals (.slice none 0 0)).toArray)) w := by
  unfold execOp
  simp only [Sem.run_bind, List.map_toArray, List.map_cons, List.map_nil]
  show Result.andThen ((Instr.build 31 #[(1, .int .i64 1048576), (10, .int .i64 44)]).run Try.prog w) _ = _
  rw [show (Instr.build 31 #[(1, .int .i64 1048576), (10, .int .i64 44)]).run Try.prog w = .ok (.agg (kn2.vals (.slice none 0 0)).toArray) w by kernel_rfl]
  rfl
theorem Try.execK3 (a : Act) (t : Nat) (s : ByteArray) (d : Option Tmp) (ty : TypeId) (ps : String) (af : Array Edge) (w : World) (h1 : a.eval (.tmp t) = .string s) :
    (execOp a.eval { dst := d, op := .build 31 #[(10, .const (.int .i64 6)), (11, .tmp t)], type := ty, pos := ps, after := af, guard := none }).run Try.prog w = .ok (.value (.agg ((kn3 s).vals (.slice none 0 0)).toArray)) w := by
  unfold execOp
  simp only [Sem.run_bind, List.map_toArray, List.map_cons, List.map_nil, h1]
  show Result.andThen ((Instr.build 31 #[(10, .int .i64 6), (11, .string s)]).run Try.prog w) _ = _
  rw [show (Instr.build 31 #[(10, .int .i64 6), (11, .string s)]).run Try.prog w = .ok (.agg ((kn3 s).vals (.slice none 0 0)).toArray) w by kernel_rfl]
  rfl
theorem exs_one (w : World) (x : Int × ByteArray) : Exs (w.alloc (.cells #[.int .i64 x.1, .string x.2] 40)) (.slice (some ⟨w.heap.size, 0, none⟩) 1 1) [x] := by
  refine ⟨_, _, rfl, fun i hi => ⟨w.heap.size, 0, rfl, ?_, ?_⟩⟩
  all_goals
    obtain rfl : i = 0 := by simpa using hi
    rw [World.cell?_alloc_new]
    rfl
theorem exs_two (w : World) (x y : Int × ByteArray) : Exs (w.alloc (.cells #[.int .i64 x.1, .string x.2, .int .i64 y.1, .string y.2] 40)) (.slice (some ⟨w.heap.size, 0, none⟩) 2 2) [x, y] := by
  refine ⟨_, _, rfl, fun i hi => ⟨w.heap.size, 0, rfl, ?_, ?_⟩⟩
  all_goals
    rw [World.cell?_alloc_new]
    match i, hi with
    | 0, _ => rfl
    | 1, _ => rfl
set_option maxRecDepth 100000 in
set_option maxHeartbeats 4000000 in
theorem ip6Known_any (w : World) :
    Calls Try.prog 3 #[] w fun e w' => e = .returned (.bool true) ∧ Below w.heap.size w w' := by
  obtain ⟨S, hS⟩ : ∃ S, S = kn39 := ⟨_, rfl⟩
  have hrep : (⟨(Lib.repeatL [96] 39).toArray⟩ : ByteArray) = S := hS.symm
  have CR := Lib.hid (fun W => Try.strings_Repeat ⟨#[96]⟩ 39 W (by omega) (by show 1 * 39 ≤ _; omega))
  have CP := Lib.hid (fun W => parse_bad S W (by rw [hS, kn39_size]; omega) (by rw [hS, kn39_code]; decide))
  rw [show pcode S = 7 by rw [hS]; exact kn39_code] at CP
  have CC := Lib.hid (fun W => chain_any 60 ⟨#[17, 0, 1, 4, 0, 0, 0, 0, 104, 105]⟩ W (by decide))
  rw [knC_eq] at CC
  clear hS
  have CR : Hid (∀ W, Calls Try.prog 13 #[.string ⟨#[96]⟩, .int .i64 39] W fun e w' => e = .returned (.string S) ∧ Below W.heap.size W w') := Lib.hid (fun W => by rw [← hrep]; exact CR.out W)
  clear hrep
  obtain ⟨Q1, hQ1⟩ : ∃ Q, Q = zs 65536 := ⟨_, rfl⟩
  obtain ⟨Q2, hQ2⟩ : ∃ Q, Q = zs 65535 := ⟨_, rfl⟩
  have z1 : Q1.size = 65536 := by rw [hQ1, zs_size]
  have z2 : Q2.size = 65535 := by rw [hQ2, zs_size]
  have CZ1 := Lib.hid (fun W => zeros_at 65536 65536 rfl W (by omega))
  have CZ2 := Lib.hid (fun W => zeros_at 65535 65535 rfl W (by omega))
  rw [← hQ1] at CZ1
  rw [← hQ2] at CZ2
  clear hQ1 hQ2
  obtain ⟨V1, hV1⟩ : ∃ V, V = kn1.vals (.slice none 0 0) := ⟨_, rfl⟩
  obtain ⟨V2, hV2⟩ : ∃ V, V = kn2.vals (.slice none 0 0) := ⟨_, rfl⟩
  obtain ⟨V3, hV3⟩ : ∃ V, V = (kn3 Q1).vals (.slice none 0 0) := ⟨_, rfl⟩
  obtain ⟨V4, hV4⟩ : ∃ V, V = (kn3 Q2).vals (.slice none 0 0) := ⟨_, rfl⟩
  have CB1 : Hid (∀ W, Calls Try.prog 14 #[.agg V1.toArray] W (Bad (.string ⟨#[]⟩) 10 W)) := Lib.hid (fun W => by
    rw [hV1, ← kn1_why]; exact bytes_bad kn1 _ W (exs_nil W) (small_nil kn1 rfl (by show 0 ≤ _; omega)) (by rw [kn1_why]; rfl))
  have CB2 : Hid (∀ W, Calls Try.prog 14 #[.agg V2.toArray] W (Bad (.string ⟨#[]⟩) 13 W)) := Lib.hid (fun W => by
    rw [hV2, ← kn2_why]; exact bytes_bad kn2 _ W (exs_nil W) (small_nil kn2 rfl (by show 0 ≤ _; omega)) (by rw [kn2_why]; rfl))
  have hy3 : (kn3 Q1).why = 3 := kn3_long Q1 (by omega)
  have CB3 : Hid (∀ W, Calls Try.prog 14 #[.agg V3.toArray] W (Bad (.string ⟨#[]⟩) 3 W)) := Lib.hid (fun W => by
    rw [hV3, ← hy3]; exact bytes_bad (kn3 Q1) _ W (exs_nil W) (small_nil (kn3 Q1) rfl (by show Q1.size ≤ _; omega)) (by rw [hy3]; rfl))
  obtain ⟨B4, hB4⟩ : ∃ B, B = (kn3 Q2).bytes := ⟨_, rfl⟩
  have CB4 : Hid (∀ W, Calls Try.prog 14 #[.agg V4.toArray] W fun e w' => e = .returned (.tuple #[.string B4, .nilIface]) ∧ Below W.heap.size W w') := Lib.hid (fun W => by
    rw [hV4, hB4]; exact bytes_ok (kn3 Q2) _ W (exs_nil W) (small_nil (kn3 Q2) rfl (by show Q2.size ≤ _; omega)) (kn3_good Q2 (by omega)) ⟨by show (0 : Int) ≤ 0; omega, by show (0 : Int) < _; omega⟩)
  have HE1 : Hid (∀ (a : Act) (d : Option Tmp) (ty : TypeId) (ps : String) (af : Array Edge) (W : World), (execOp a.eval { dst := d, op := .build 31 #[(10, .const (.int .i64 44))], type := ty, pos := ps, after := af, guard := none }).run Try.prog W = .ok (.value (.agg V1.toArray)) W) := Lib.hid (fun a d ty ps af W => by rw [hV1]; exact Try.execK1 a d ty ps af W)
  have HE2 : Hid (∀ (a : Act) (d : Option Tmp) (ty : TypeId) (ps : String) (af : Array Edge) (W : World), (execOp a.eval { dst := d, op := .build 31 #[(1, .const (.int .i64 1048576)), (10, .const (.int .i64 44))], type := ty, pos := ps, after := af, guard := none }).run Try.prog W = .ok (.value (.agg V2.toArray)) W) := Lib.hid (fun a d ty ps af W => by rw [hV2]; exact Try.execK2 a d ty ps af W)
  have HE3 : Hid (∀ (a : Act) (t : Nat) (d : Option Tmp) (ty : TypeId) (ps : String) (af : Array Edge) (W : World), a.eval (.tmp t) = .string Q1 → (execOp a.eval { dst := d, op := .build 31 #[(10, .const (.int .i64 6)), (11, .tmp t)], type := ty, pos := ps, after := af, guard := none }).run Try.prog W = .ok (.value (.agg V3.toArray)) W) := Lib.hid (fun a t d ty ps af W h1 => by rw [hV3]; exact Try.execK3 a t Q1 d ty ps af W h1)
  have HE4 : Hid (∀ (a : Act) (t : Nat) (d : Option Tmp) (ty : TypeId) (ps : String) (af : Array Edge) (W : World), a.eval (.tmp t) = .string Q2 → (execOp a.eval { dst := d, op := .build 31 #[(10, .const (.int .i64 6)), (11, .tmp t)], type := ty, pos := ps, after := af, guard := none }).run Try.prog W = .ok (.value (.agg V4.toArray)) W) := Lib.hid (fun a t d ty ps af W h1 => by rw [hV4]; exact Try.execK3 a t Q2 d ty ps af W h1)
  clear hV1 hV2 hV3 hV4 hB4 hy3 z1 z2
  obtain ⟨Z, hZ⟩ : ∃ Z, Z = pk0.vals (.slice none 0 0) := ⟨_, rfl⟩
  have hz0 : Z.toArray = #[.int .i64 0, .int .i64 0, .int .i64 0, .int .u8 0, .int .u8 0, .int .u8 0, .int .u8 0, .int .u8 0, .int .u8 0, .int .u8 0, .int .u8 0, .int .u8 0, .int .u8 0, .int .u8 0, .int .u8 0, .int .u8 0, .int .u8 0, .int .u8 0, .int .u8 0, .int .u8 0, .int .u8 0, .int .u8 0, .int .u8 0, .int .u8 0, .int .u8 0, .int .u8 0, .int .u8 0, .int .u8 0, .int .u8 0, .int .u8 0, .int .u8 0, .int .u8 0, .int .u8 0, .int .u8 0, .int .u8 0, .slice none 0 0, .bool false, .int .u32 0, .int .i64 0, .bool false, .int .i64 0, .string ⟨#[]⟩] := by rw [hZ]; exact pk0_vals
  have HZ := Lib.hid hZ
  have HZ0 := Lib.hid hz0
  have HIf : Hid ((Try.prog.info? 31).map (·.size) = some Z.length) := Lib.hid (by rw [hZ]; exact Try.info6 _ _)
  have HOf : Hid (Z.toArray.all (·.oneCell') = true) := Lib.hid (by rw [hZ]; exact vals_one _ _ rfl)
  rw [← hZ] at CP
  clear hZ hz0
  go_enter Try.func3, Try.ntmps3
  go_wp2_with fail
  refine (CC.out w).mono ?_
  rintro e w1 ⟨v, x, rfl, hown, herr, b1⟩
  obtain rfl : x = .nilIface := by
    rcases herr with ⟨_, h⟩ | ⟨hc, _⟩
    · exact h
    · exact absurd rfl hc
  have hown : w1.ownsRow _ 40 2 v (((60, ⟨#[1, 4, 0, 0, 0, 0]⟩) : Int × ByteArray) :: []).length (extV ((60, ⟨#[1, 4, 0, 0, 0, 0]⟩) :: [])) := hown
  obtain ⟨g, cap, rfl, c0, c1, hcap⟩ := own_first hown
  have HQ1 := Lib.hid (show Below w.heap.size w w1 ∧ w1.cell? ⟨g, 0, none⟩ = some (.int .i64 60) ∧ w1.cell? ⟨g, 1, none⟩ = some (.string ⟨#[1, 4, 0, 0, 0, 0]⟩) from ⟨b1, c0, c1⟩)
  rw [show knC.proto = 17 from rfl, show knC.rest = ⟨#[104, 105]⟩ from rfl]
  clear herr hown c0 c1 hcap b1 CC
  go_wp2_with fail
  refine (CR.out w1).mono ?_
  rintro e w2 ⟨rfl, b2⟩
  have HQ2 := Lib.hid (ext_kept HQ1.out b2)
  clear b2 HQ1 CR
  go_wp2_with fail
  refine (CP.out w2).mono ?_
  rintro e w3 ⟨f1, rfl, hf1, hle1, b3⟩
  have HQ3 := Lib.hid (ext_kept HQ2.out b3)
  have HA3 := Lib.hid (show ErrV w2.heap.size 7 (.iface 83 (.pointer (some ⟨f1, 0, none⟩))) w3 from .inr ⟨by decide, f1, rfl, hf1, hle1⟩)
  clear b3 hf1 hle1 HQ2 CP
  obtain ⟨VF, hVF⟩ : ∃ VF, VF = Z := ⟨_, rfl⟩
  rw [← hVF]
  rw [← hVF] at HIf HOf
  have HVF := Lib.hid hVF
  clear hVF
  have ht : (w3.alloc (.cells Z.toArray 31)).there w3.heap.size 0 VF.toArray.size := (bk_new w3 31 Z.toArray).there _ (by rw [HVF.out]; exact Nat.le_refl _)
  have hbn : Below w3.heap.size w3 ((w3.alloc (.cells Z.toArray 31)).setCells w3.heap.size 0 VF) := below_sets _ (Nat.le_refl _) 0 _ ((Below.refl _ _).alloc (Nat.le_refl _) _)
  generalize hwn : (w3.alloc (.cells Z.toArray 31)).setCells w3.heap.size 0 VF = w4 at *
  rw [HZ0.out] at hwn ht
  have HQ4 := Lib.hid (ext_kept HQ3.out hbn)
  have HA4 := Lib.hid (HA3.out.below hbn (Nat.le_refl _))
  go_upto_region 3 with (refine wpList_store_mid rfl 31 _ _ rfl w3.heap.size 0 VF.toArray rfl rfl ht HIf.out HOf.out ?_)
  try rw [hwn]
  clear hwn ht hbn HQ3 HA3 HVF HIf HOf HZ HZ0
  go_wp2_with (refine Great.wpList_readTo rfl _ rfl (.agg V1.toArray) (HE1.out _ _ _ _ _ _) ?_)
  refine (CB1.out w4).mono ?_
  rintro e w5 ⟨f2, rfl, hf, hle, b5⟩
  have HQ5 := Lib.hid (ext_kept HQ4.out b5)
  have HA5 := Lib.hid (HA4.out.below b5 (Nat.le_refl _))
  have HB5 := Lib.hid (show ErrV w4.heap.size 10 (.iface 83 (.pointer (some ⟨f2, 0, none⟩))) w5 from .inr ⟨by decide, f2, rfl, hf, hle⟩)
  clear hf hle b5 HQ4 HA4 CB1 HE1
  go_wp2_with (refine Great.wpList_readTo rfl _ rfl (.agg V2.toArray) (HE2.out _ _ _ _ _ _) ?_)
  refine (CB2.out w5).mono ?_
  rintro e w6 ⟨f3, rfl, hf, hle, b6⟩
  have HQ6 := Lib.hid (ext_kept HQ5.out b6)
  have HA6 := Lib.hid (HA5.out.below b6 (Nat.le_refl _))
  have HB6 := Lib.hid (HB5.out.below b6 (Nat.le_refl _))
  have HC6 := Lib.hid (show ErrV w5.heap.size 13 (.iface 83 (.pointer (some ⟨f3, 0, none⟩))) w6 from .inr ⟨by decide, f3, rfl, hf, hle⟩)
  clear hf hle b6 HQ5 HA5 HB5 CB2 HE2
  go_wp2_with fail
  refine (CZ1.out w6).mono ?_
  rintro e w7 ⟨rfl, b7⟩
  have HQ7 := Lib.hid (ext_kept HQ6.out b7)
  have HA7 := Lib.hid (HA6.out.below b7 (Nat.le_refl _))
  have HB7 := Lib.hid (HB6.out.below b7 (Nat.le_refl _))
  have HC7 := Lib.hid (HC6.out.below b7 (Nat.le_refl _))
  clear b7 HQ6 HA6 HB6 HC6 CZ1
  go_wp2_with (refine Great.wpList_readTo rfl _ rfl (.agg V3.toArray) (HE3.out _ _ _ _ _ _ _ rfl) ?_)
  refine (CB3.out w7).mono ?_
  rintro e w8 ⟨f4, rfl, hf, hle, b8⟩
  have HQ8 := Lib.hid (ext_kept HQ7.out b8)
  have HA8 := Lib.hid (HA7.out.below b8 (Nat.le_refl _))
  have HB8 := Lib.hid (HB7.out.below b8 (Nat.le_refl _))
  have HC8 := Lib.hid (HC7.out.below b8 (Nat.le_refl _))
  have HD8 := Lib.hid (show ErrV w7.heap.size 3 (.iface 83 (.pointer (some ⟨f4, 0, none⟩))) w8 from .inr ⟨by decide, f4, rfl, hf, hle⟩)
  clear hf hle b8 HQ7 HA7 HB7 HC7 CB3 HE3
  go_wp2_with fail
  refine (CZ2.out w8).mono ?_
  rintro e w9 ⟨rfl, b9⟩
  have HQ9 := Lib.hid (ext_kept HQ8.out b9)
  have HA9 := Lib.hid (HA8.out.below b9 (Nat.le_refl _))
  have HB9 := Lib.hid (HB8.out.below b9 (Nat.le_refl _))
  have HC9 := Lib.hid (HC8.out.below b9 (Nat.le_refl _))
  have HD9 := Lib.hid (HD8.out.below b9 (Nat.le_refl _))
  clear b9 HQ8 HA8 HB8 HC8 HD8 CZ2
  go_wp2_with (refine Great.wpList_readTo rfl _ rfl (.agg V4.toArray) (HE4.out _ _ _ _ _ _ _ rfl) ?_)
  refine (CB4.out w9).mono ?_
  rintro e w10 ⟨rfl, b10⟩
  have HQ10 := Lib.hid (ext_kept HQ9.out b10)
  have HA10 := Lib.hid (HA9.out.below b10 (Nat.le_refl _))
  have HB10 := Lib.hid (HB9.out.below b10 (Nat.le_refl _))
  have HC10 := Lib.hid (HC9.out.below b10 (Nat.le_refl _))
  have HD10 := Lib.hid (HD9.out.below b10 (Nat.le_refl _))
  clear b10 HQ9 HA9 HB9 HC9 HD9 CB4 HE4
  go_wp2_with fail
  refine (awake_true w10).mono ?_
  rintro e w11 ⟨rfl, b11⟩
  have HQ11 := Lib.hid (ext_kept HQ10.out b11)
  have HA11 := Lib.hid (HA10.out.below b11 (Nat.le_refl _))
  have HB11 := Lib.hid (HB10.out.below b11 (Nat.le_refl _))
  have HC11 := Lib.hid (HC10.out.below b11 (Nat.le_refl _))
  have HD11 := Lib.hid (HD10.out.below b11 (Nat.le_refl _))
  clear b11 HQ10 HA10 HB10 HC10 HD10
  have c0 := HQ11.out.2.1
  have c1 := HQ11.out.2.2
  have HF := Lib.hid HQ11.out.1
  clear HQ11
  go_wp2_with fail
  refine (same_any HA11.out).mono ?_
  rintro e w12 ⟨rfl, rfl⟩
  go_wp2_with fail
  refine (same_any HB11.out).mono ?_
  rintro e w12 ⟨rfl, rfl⟩
  go_wp2_with fail
  refine (same_any HC11.out).mono ?_
  rintro e w12 ⟨rfl, rfl⟩
  go_wp2_with fail
  refine (same_any HD11.out).mono ?_
  rintro e w12 ⟨rfl, rfl⟩
  clear HA11 HB11 HC11 HD11
  go_wp2_with fail
  refine (routed_any _ _ _ (exs_one w11 (43, ⟨#[0, 1]⟩)) (by show 1 ≤ _; omega)).mono ?_
  rintro e w12 ⟨rfl, b12⟩
  rw [kn_r1]
  have hba : Below w11.heap.size w11 (w11.alloc (.cells #[.int .i64 43, .string ⟨#[0, 1]⟩] 40)) := (Below.refl _ _).alloc (Nat.le_refl _) _
  have hbb := hba.trans (b12.mono hba.size)
  have HG := Lib.hid (HF.out.trans (hbb.mono HF.out.size))
  clear hba hbb b12 HF c0 c1
  go_wp2_with fail
  refine (routed_any _ _ _ (exs_two w12 (60, ⟨#[0, 1]⟩) (43, ⟨#[1, 0]⟩)) (by show 2 ≤ _; omega)).mono ?_
  rintro e w13 ⟨rfl, b13⟩
  rw [kn_r2]
  have hba : Below w12.heap.size w12 (w12.alloc (.cells #[.int .i64 60, .string ⟨#[0, 1]⟩, .int .i64 43, .string ⟨#[1, 0]⟩] 40)) := (Below.refl _ _).alloc (Nat.le_refl _) _
  have hbb := hba.trans (b13.mono hba.size)
  have HH := Lib.hid (HG.out.trans (hbb.mono HG.out.size))
  clear hba hbb b13 HG
  go_wp2_with fail
  go_ret
  exact ⟨rfl, HH.out⟩
end Go.Proofs.Ytphemimpkbjfoaa
