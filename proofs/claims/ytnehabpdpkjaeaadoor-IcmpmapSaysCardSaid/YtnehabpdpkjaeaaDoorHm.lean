/-
  Proved here: what the program's list of plateaus reads as; what its Plateau answers.
  Conditions: none.
-/
import Derived.Test.YtnehabpdpkjaeaaDoorRt
namespace Go.Proofs.YtnehabpdpkjaeaaDoor
open Go.RowKit

theorem rangeAt_below {w w' : World} {b : Nat} {cs : List Value} (h : w.rangeAt b 0 cs) (hb : Below w.heap.size w w') : w'.rangeAt b 0 cs := fun j v hj => (hb.cell (World.block_lt_of_cell? w _ (h j v hj))).trans (h j v hj)
def plD : List Int := [65535, 32000, 17914, 8166, 4352, 2002, 1492, 1006, 508, 296, 68]
def plV : List Value := [.int .i64 65535, .int .i64 32000, .int .i64 17914, .int .i64 8166, .int .i64 4352, .int .i64 2002, .int .i64 1492, .int .i64 1006, .int .i64 508, .int .i64 296, .int .i64 68]
/-- The program's plateaus stand. -/
def Hm (w : World) : Prop := w.rangeAt 0 0 plV
theorem Hm.below {w w' : World} (h : Hm w) (hb : Below w.heap.size w w') : Hm w' := rangeAt_below h hb
theorem Tryd.infoPl : (Tryd.prog.info? 39).map (·.size) = some plV.length := by kernel_rfl
theorem pl_len : plV.length = 11 := rfl
theorem Tryd.pl_i0 (W : World) : (Instr.index 39 (.agg plV.toArray) (.int .i64 0)).run Tryd.prog W = .ok (.int .i64 (plD.getD 0 0)) W := by kernel_rfl
theorem Tryd.pl_i1 (W : World) : (Instr.index 39 (.agg plV.toArray) (.int .i64 1)).run Tryd.prog W = .ok (.int .i64 (plD.getD 1 0)) W := by kernel_rfl
theorem Tryd.pl_i2 (W : World) : (Instr.index 39 (.agg plV.toArray) (.int .i64 2)).run Tryd.prog W = .ok (.int .i64 (plD.getD 2 0)) W := by kernel_rfl
theorem Tryd.pl_i3 (W : World) : (Instr.index 39 (.agg plV.toArray) (.int .i64 3)).run Tryd.prog W = .ok (.int .i64 (plD.getD 3 0)) W := by kernel_rfl
theorem Tryd.pl_i4 (W : World) : (Instr.index 39 (.agg plV.toArray) (.int .i64 4)).run Tryd.prog W = .ok (.int .i64 (plD.getD 4 0)) W := by kernel_rfl
theorem Tryd.pl_i5 (W : World) : (Instr.index 39 (.agg plV.toArray) (.int .i64 5)).run Tryd.prog W = .ok (.int .i64 (plD.getD 5 0)) W := by kernel_rfl
theorem Tryd.pl_i6 (W : World) : (Instr.index 39 (.agg plV.toArray) (.int .i64 6)).run Tryd.prog W = .ok (.int .i64 (plD.getD 6 0)) W := by kernel_rfl
theorem Tryd.pl_i7 (W : World) : (Instr.index 39 (.agg plV.toArray) (.int .i64 7)).run Tryd.prog W = .ok (.int .i64 (plD.getD 7 0)) W := by kernel_rfl
theorem Tryd.pl_i8 (W : World) : (Instr.index 39 (.agg plV.toArray) (.int .i64 8)).run Tryd.prog W = .ok (.int .i64 (plD.getD 8 0)) W := by kernel_rfl
theorem Tryd.pl_i9 (W : World) : (Instr.index 39 (.agg plV.toArray) (.int .i64 9)).run Tryd.prog W = .ok (.int .i64 (plD.getD 9 0)) W := by kernel_rfl
theorem Tryd.pl_i10 (W : World) : (Instr.index 39 (.agg plV.toArray) (.int .i64 10)).run Tryd.prog W = .ok (.int .i64 (plD.getD 10 0)) W := by kernel_rfl
theorem pl_at : ∀ k : Nat, k < 11 → ∀ W : World, (Instr.index 39 (.agg plV.toArray) (.int .i64 (k : Int))).run Tryd.prog W = .ok (.int .i64 (plD.getD k 0)) W := by
  intro k hk W
  rcases k with _ | _ | _ | _ | _ | _ | _ | _ | _ | _ | _ | k
  · exact Tryd.pl_i0 W
  · exact Tryd.pl_i1 W
  · exact Tryd.pl_i2 W
  · exact Tryd.pl_i3 W
  · exact Tryd.pl_i4 W
  · exact Tryd.pl_i5 W
  · exact Tryd.pl_i6 W
  · exact Tryd.pl_i7 W
  · exact Tryd.pl_i8 W
  · exact Tryd.pl_i9 W
  · exact Tryd.pl_i10 W
  · omega
/-- The first one of a list that is less. -/
def fstL (n : Int) : List Int → Int
  | [] => 68
  | x :: r => if x < n then x else fstL n r
theorem fst_all (n : Int) : fstL n plD = plat n := by
  unfold plat plD
  simp only [fstL]
  omega
theorem fst_next (n : Int) : ∀ k, k < 11 → fstL n (plD.drop k) = if plD.getD k 0 < n then plD.getD k 0 else fstL n (plD.drop (k + 1)) := by
  intro k hk
  match k, hk with
  | 0, _ => rfl
  | 1, _ => rfl
  | 2, _ => rfl
  | 3, _ => rfl
  | 4, _ => rfl
  | 5, _ => rfl
  | 6, _ => rfl
  | 7, _ => rfl
  | 8, _ => rfl
  | 9, _ => rfl
  | 10, _ => rfl
set_option maxRecDepth 100000 in
set_option maxHeartbeats 4000000 in
theorem pplat_any (n : Int) (w : World) (hm : Hm w := by assumption) : Calls Tryd.prog 14 #[.int .i64 n] w fun e w' => e = .returned (.int .i64 (plat n)) ∧ Below w.heap.size w w' := by
  have HIx := Lib.hid pl_at
  have HIM := Lib.hid Tryd.infoPl
  have HLn := Lib.hid pl_len
  have HNx := Lib.hid (fst_next n)
  have HA : Hid (plat n = fstL n (plD.drop 0)) := Lib.hid (fst_all n).symm
  have HE : Hid (fstL n (plD.drop 11) = 68) := Lib.hid rfl
  have hrM : w.rangeAt 0 0 plV := hm
  have h10 : w.cell? ⟨0, 10, none⟩ = some (.int .i64 68) := by have := hrM 10 (.int .i64 68) rfl; rwa [Nat.zero_add] at this
  clear hm
  generalize hplv : plV = MV at *
  clear hplv
  generalize hX : plat n = X at *
  clear hX
  go_enter Tryd.func14, Tryd.ntmps14
  go_upto_region 1 with (fail)
  go_wp2_with (refine wpList_load_mid rfl 39 _ rfl 0 0 rfl MV _ hrM Tryd.underlying39 rfl HIM.out ?_)
  go_loop [6] (fun i => ∃ k : Nat, k ≤ 11 ∧ i = .int .i64 k ∧ Hid (X = fstL n (plD.drop k))) (fun i => 11 - (intOf i).toNat)
  case atStart => exact ⟨0, Nat.zero_le _, rfl, HA⟩
  case round =>
    obtain ⟨k, hk, rfl, hJ⟩ := hrel
    by_cases hlt : k < 11
    · have il : ((k : Nat) : Int) < 11 := by omega
      have hix := HIx.out k hlt
      have HN1 := Lib.hid (HNx.out k hlt)
      by_cases hv : plD.getD k 0 < n
      · have HR : Hid (X = plD.getD k 0) := Lib.hid (by rw [hJ.out, HN1.out, if_pos hv])
        generalize plD.getD k 0 = x at *
        go_wp2_with fail
        go_ret
        exact ⟨by rw [HR.out]; rfl, Below.refl _ _⟩
      · have HR : Hid (X = fstL n (plD.drop (k + 1))) := Lib.hid (by rw [hJ.out, HN1.out, if_neg hv])
        generalize plD.getD k 0 = x at *
        go_wp2_with fail
        exact ⟨⟨k + 1, by omega, by go_num, HR⟩, by simp [intOf]; omega⟩
    · obtain rfl : k = 11 := by omega
      have HR : Hid (X = 68) := Lib.hid (by rw [hJ.out, HE.out])
      go_wp2_with fail
      go_ret
      exact ⟨by rw [HR.out]; rfl, Below.refl _ _⟩
end Go.Proofs.YtnehabpdpkjaeaaDoor
