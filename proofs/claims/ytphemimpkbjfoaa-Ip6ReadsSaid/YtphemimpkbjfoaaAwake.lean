/-
  Proved here: what the laws' own zeros, same and awake answer.
  Conditions: none.
-/
import Derived.Test.YtphemimpkbjfoaaParse
import Derived.Test.YtphemimpkbjfoaaSame
import Derived.Test.YtphemimpkbjfoaaShelf
namespace Go.Proofs.Ytphemimpkbjfoaa
open Go.RowKit

/-- So many noughts. -/
def zs (n : Nat) : ByteArray := ⟨(Lib.repeatL [0] n).toArray⟩
theorem zs_size (n : Nat) : (zs n).size = n := by
  rw [← ba_size]
  show (Lib.repeatL [0] n).length = n
  rw [Lib.repeatL_length]
  simp
theorem zeros_any (n : Nat) (w : World) (hn : n ≤ 70000) :
    Calls Try.prog 15 #[.int .i64 (n : Int)] w fun e w' => e = .returned (.string (zs n)) ∧ Below w.heap.size w w' := by
  have HR := Lib.hid (fun W => Try.strings_Repeat ⟨#[0]⟩ n W (by omega) (by show 1 * n ≤ _; omega))
  have HZ : Hid (zs n = ⟨(Lib.repeatL [0] n).toArray⟩) := Lib.hid rfl
  go_enter Try.func15, Try.ntmps15
  go_wp2_with fail
  refine (HR.out _).mono ?_
  rintro e w1 ⟨rfl, b1⟩
  have HB := Lib.hid b1
  clear b1
  go_wp2_with fail
  go_ret
  exact ⟨by rw [HZ.out]; rfl, HB.out⟩
theorem zeros_at (x : Int) (n : Nat) (h : x = n) (w : World) (hn : n ≤ 70000) :
    Calls Try.prog 15 #[.int .i64 x] w fun e w' => e = .returned (.string (zs n)) ∧ Below w.heap.size w w' := h ▸ zeros_any n w hn
theorem same_ok (w : World) :
    Calls Try.prog 17 #[.nilIface, .int .i64 0] w fun e w' => e = .returned (.bool true) ∧ w = w' := by
  go_enter Try.func17, Try.ntmps17
  go_wp2_with fail
  go_ret
  exact ⟨rfl, rfl⟩
theorem Try.isFault (v : Option Addr) (w : World) : (Instr.typeAssert (.iface 83 (.pointer v)) 24 83 true).run Try.prog w = .ok (.tuple #[.pointer v, .bool true]) w := by kernel_rfl
set_option maxRecDepth 100000 in
theorem same_fault {w : World} {b : Nat} {c : Int} (hf : Flt w b c 0) (hc : (c == 0) = false) :
    Calls Try.prog 17 #[.iface 83 (.pointer (some ⟨b, 0, none⟩)), .int .i64 c] w fun e w' => e = .returned (.bool true) ∧ w = w' := by
  have c0 := hf.c0
  have c1 := hf.c1
  have hT := Try.isFault
  clear hf
  go_enter Try.func17, Try.ntmps17
  go_wp2_with fail
  go_ret
  exact ⟨rfl, rfl⟩
/-- An error of a code is the one of that code. -/
theorem same_any {w : World} {B : Nat} {c : Int} {x : Value} (h : ErrV B c x w) :
    Calls Try.prog 17 #[x, .int .i64 c] w fun e w' => e = .returned (.bool true) ∧ w = w' := by
  rcases h with ⟨rfl, rfl⟩ | ⟨hc, f, rfl, hf, _⟩
  · exact same_ok w
  · exact same_fault hf (by rw [beq_eq_false_iff_ne]; exact hc)
theorem exs_nil (w : World) : Exs w (.slice none 0 0) [] := ⟨none, 0, rfl, fun i hi => by cases hi⟩
/-- The chapter's packet. -/
def exP : Pk6 := { pk0 with hop := 64, proto := 17, data := ⟨#[104, 105]⟩ }
/-- Its bytes. -/
def exB : ByteArray := ⟨#[96, 0, 0, 0, 0, 2, 17, 64, 0, 0, 0, 0, 0, 0, 0, 0, 0, 0, 0, 0, 0, 0, 0, 0, 0, 0, 0, 0, 0, 0, 0, 0, 0, 0, 0, 0, 0, 0, 0, 0, 104, 105]⟩
theorem Try.execE6 (a : Act) (d : Option Tmp) (ty : TypeId) (ps : String) (af : Array Edge) (w : World) :
    (execOp a.eval { dst := d, op := .build 31 #[(2, .const (.int .i64 64)), (10, .const (.int .i64 17)), (11, .const (.string ⟨#[104, 105]⟩))], type := ty, pos := ps, after := af, guard := none }).run Try.prog w = .ok (.value (.agg (exP.vals (.slice none 0 0)).toArray)) w := by
  unfold execOp
  simp only [Sem.run_bind, List.map_toArray, List.map_cons, List.map_nil]
  show Result.andThen ((Instr.build 31 #[(2, .int .i64 64), (10, .int .i64 17), (11, .string ⟨#[104, 105]⟩)]).run Try.prog w) _ = _
  rw [show (Instr.build 31 #[(2, .int .i64 64), (10, .int .i64 17), (11, .string ⟨#[104, 105]⟩)]).run Try.prog w = .ok (.agg (exP.vals (.slice none 0 0)).toArray) w by kernel_rfl]
  rfl
theorem exP_why : exP.why = 0 := by decide +kernel
theorem exP_bytes : exP.bytes = exB := by decide +kernel
theorem exB_code : pcode exB = 0 := by decide +kernel
theorem exB_pkt : ppkt exB = exP := by kernel_rfl
theorem exB_zeros : (⟨#[96, 0, 0, 0, 0, 2, 17, 64]⟩ : ByteArray) ++ zs 32 ++ ⟨#[104, 105]⟩ = exB := by decide +kernel
theorem exP_small : Sm exP := ⟨by decide, by decide, fun e he => by cases he⟩
set_option maxRecDepth 100000 in
set_option maxHeartbeats 1000000 in
theorem awake_true (w : World) :
    Calls Try.prog 16 #[] w fun e w' => e = .returned (.bool true) ∧ Below w.heap.size w w' := by
  obtain ⟨Z, hZ⟩ : ∃ Z, Z = pk0.vals (.slice none 0 0) := ⟨_, rfl⟩
  obtain ⟨VE, hVE⟩ : ∃ VE, VE = exP.vals (.slice none 0 0) := ⟨_, rfl⟩
  obtain ⟨EB, hEB⟩ : ∃ EB, EB = exB := ⟨_, rfl⟩
  have HEX : Hid (∀ (a : Act) (d : Option Tmp) (ty : TypeId) (ps : String) (af : Array Edge) (W : World), (execOp a.eval { dst := d, op := .build 31 #[(2, .const (.int .i64 64)), (10, .const (.int .i64 17)), (11, .const (.string ⟨#[104, 105]⟩))], type := ty, pos := ps, after := af, guard := none }).run Try.prog W = .ok (.value (.agg VE.toArray)) W) := Lib.hid (fun a d ty ps af W => by rw [hVE]; exact Try.execE6 a d ty ps af W)
  have hz0 : Z.toArray = #[.int .i64 0, .int .i64 0, .int .i64 0, .int .u8 0, .int .u8 0, .int .u8 0, .int .u8 0, .int .u8 0, .int .u8 0, .int .u8 0, .int .u8 0, .int .u8 0, .int .u8 0, .int .u8 0, .int .u8 0, .int .u8 0, .int .u8 0, .int .u8 0, .int .u8 0, .int .u8 0, .int .u8 0, .int .u8 0, .int .u8 0, .int .u8 0, .int .u8 0, .int .u8 0, .int .u8 0, .int .u8 0, .int .u8 0, .int .u8 0, .int .u8 0, .int .u8 0, .int .u8 0, .int .u8 0, .int .u8 0, .slice none 0 0, .bool false, .int .u32 0, .int .i64 0, .bool false, .int .i64 0, .string ⟨#[]⟩] := by rw [hZ]; exact pk0_vals
  have HZ := Lib.hid hZ
  have HZ0 := Lib.hid hz0
  have HIe : Hid ((Try.prog.info? 31).map (·.size) = some VE.length) := Lib.hid (by rw [hVE]; exact Try.info6 _ _)
  have HOe : Hid (VE.toArray.all (·.oneCell') = true) := Lib.hid (by rw [hVE]; exact vals_one _ _ rfl)
  have hLe : VE.length = Z.toArray.size := by rw [hVE, List.size_toArray, hZ, vals_len, vals_len]
  have HLe := Lib.hid hLe
  have HBy : Hid (∀ W, Calls Try.prog 14 #[.agg VE.toArray] W fun e w' => e = .returned (.tuple #[.string EB, .nilIface]) ∧ Below W.heap.size W w') := Lib.hid (fun W => by rw [hVE, hEB, ← exP_bytes]; exact bytes_ok exP _ W (exs_nil W) exP_small exP_why ⟨by decide, by decide⟩)
  have HPa : Hid (∀ W, Calls Try.prog 12 #[.string EB] W (GoodP exP W)) := Lib.hid (fun W => by rw [hEB, ← exB_pkt]; exact parse_ok exB W (by decide) exB_code)
  have hzz : (⟨#[96, 0, 0, 0, 0, 2, 17, 64]⟩ : ByteArray) ++ zs 32 ++ ⟨#[104, 105]⟩ = EB := by rw [hEB]; exact exB_zeros
  have hz32 := zs_size 32
  have HZs := Lib.hid (fun W => zeros_at 32 32 rfl W (by omega))
  generalize zs 32 = Q at *
  have HK0 := Lib.hid ((Kp.start w).put 31 Z.toArray VE hLe)
  have ht : (w.alloc (.cells Z.toArray 31)).there w.heap.size 0 VE.toArray.size := (bk_new w 31 Z.toArray).there _ (by rw [List.size_toArray, hLe]; exact Nat.le_refl _)
  generalize hw1 : (w.alloc (.cells Z.toArray 31)).setCells w.heap.size 0 VE = w1 at *
  rw [hz0] at hw1 ht
  have HVE := Lib.hid hVE
  clear hZ hVE hEB hLe hz0
  have hrg := HK0.out.hd.range
  go_enter Try.func16, Try.ntmps16
  go_upto_region 2 with (first | (refine Great.wpList_readTo rfl _ rfl (.agg VE.toArray) (HEX.out _ _ _ _ _ _) ?_) | (refine wpList_store_mid rfl 31 _ _ rfl w.heap.size 0 VE.toArray rfl rfl ht HIe.out HOe.out ?_))
  try rw [hw1]
  go_wp2_with (first | (refine wpList_load_mid rfl 31 _ rfl w.heap.size 0 rfl VE _ hrg Try.underlying31 rfl HIe.out ?_))
  refine (HBy.out _).mono ?_
  rintro e w2 ⟨rfl, b2⟩
  have HK2 := Lib.hid (HK0.out.below b2 (Nat.le_refl _))
  clear b2 HK0 ht hw1 hrg
  go_wp2_with fail
  refine (HPa.out _).mono ?_
  rintro e w3 ⟨v, rfl, hown, b3⟩
  have HK3 := Lib.hid (HK2.out.below b3 (Nat.le_refl _))
  obtain ⟨VF, hVF⟩ : ∃ VF, VF = exP.vals v := ⟨_, rfl⟩
  rw [← hVF]
  have hLf : VF.length = Z.toArray.size := by rw [hVF, List.size_toArray, HZ.out, vals_len, vals_len]
  have HIf : Hid ((Try.prog.info? 31).map (·.size) = some VF.length) := Lib.hid (by rw [hVF]; exact Try.info6 _ _)
  have HOf : Hid (VF.toArray.all (·.oneCell') = true) := Lib.hid (by rw [hVF]; exact vals_one _ _ (own_one hown))
  have HX := Lib.hid (exs_own hown)
  have HVF := Lib.hid hVF
  have HK4 := Lib.hid (HK3.out.put 31 Z.toArray VF hLf)
  have ht : (w3.alloc (.cells Z.toArray 31)).there w3.heap.size 0 VF.toArray.size := (bk_new w3 31 Z.toArray).there _ (by rw [List.size_toArray, hLf]; exact Nat.le_refl _)
  have hb4 : Below w3.heap.size w3 ((w3.alloc (.cells Z.toArray 31)).setCells w3.heap.size 0 VF) := below_sets _ (Nat.le_refl _) 0 _ ((Below.refl _ _).alloc (Nat.le_refl _) _)
  generalize hw4 : (w3.alloc (.cells Z.toArray 31)).setCells w3.heap.size 0 VF = w4 at *
  rw [HZ0.out] at hw4 ht
  have HX4 := Lib.hid (HX.out.below hb4 (Nat.le_refl _))
  have hr1 := (HK4.out.1 (w.heap.size, 31, VE) (by simp)).range
  have hr2 := HK4.out.hd.range
  clear hown b3 hVF hLf HX hb4 HK2 HK3
  go_upto_region 4 with (refine wpList_store_mid rfl 31 _ _ rfl w3.heap.size 0 VF.toArray rfl rfl ht HIf.out HOf.out ?_)
  try rw [hw4]
  go_wp2_with (first | (refine wpList_load_if (by rfl) 31 _ rfl w.heap.size 0 rfl VE _ hr1 Try.underlying31 rfl HIe.out ?_) | (refine wpList_load_if (by rfl) 31 _ rfl w3.heap.size 0 rfl VF _ hr2 Try.underlying31 rfl HIf.out ?_))
  rw [HVE.out, HVF.out]
  refine (rsame_true exP _ v _ (exs_nil _) HX4.out (by decide)).mono ?_
  rintro e w5 ⟨rfl, b5⟩
  rw [← HVE.out, ← HVF.out]
  have HB5 := Lib.hid (HK4.out.2.1.trans (b5.mono HK4.out.2.2))
  clear b5 hr1 hr2 ht hw4 HX4 HK4
  go_wp2_with fail
  refine (HZs.out _).mono ?_
  rintro e w6 ⟨rfl, b6⟩
  have HB6 := Lib.hid (HB5.out.trans (b6.mono HB5.out.size))
  clear b6 HB5
  have zc := cat_len
  go_wp2_with fail
  go_ret
  exact ⟨rfl, HB6.out⟩
end Go.Proofs.Ytphemimpkbjfoaa
