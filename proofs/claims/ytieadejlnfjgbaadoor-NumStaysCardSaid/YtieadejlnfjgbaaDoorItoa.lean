/-
  Proved here: what strconv.Itoa answers of a number from 0 to 3000, whatever the table internal/strconv.uint64pow10 holds.
  Conditions: two cells of that table hold numbers.
-/
import Derived.Test.YtieadejlnfjgbaaDoorError
import Derived.Laws.BytesArg
import Derived.Lib.Strings
import Derived.Lib.Slices
import Derived.Lib.Small
import Derived.Lib.Walk
import Derived.Lib.BitFns
import Derived.Lib.ItoaWalk
namespace Go.Proofs.YtieadejlnfjgbaaDoor
open Go.RowKit Go.Extern.Stop Go.Stop Go.Extern Go.Lib

theorem len8_size : len8tab.size = 256 := by decide +kernel
theorem len8_one : ∀ i, i < 256 → 100 ≤ i → 7 ≤ (len8tab.data.toList.getD i 0).toNat ∧ (len8tab.data.toList.getD i 0).toNat ≤ 8 := by decide +kernel
theorem len8_two : ∀ i, i < 12 → (i = 1 → (len8tab.data.toList.getD i 0).toNat = 1) ∧ (2 ≤ i → 2 ≤ (len8tab.data.toList.getD i 0).toNat ∧ (len8tab.data.toList.getD i 0).toNat ≤ 4) := by decide +kernel

/-- How many bits: as much as the rest asks. -/
def Bits (x : Int) (w : World) (e : Ending) (w' : World) : Prop := ∃ L : Int, (x < 512 → 7 ≤ L ∧ L ≤ 9) ∧ (512 ≤ x → 10 ≤ L ∧ L ≤ 12) ∧ e = .returned (.int .i64 L) ∧ w = w'

set_option maxHeartbeats 4000000 in
set_option maxRecDepth 100000 in
theorem len64_low (x : Int) (w : World) (h0 : 100 ≤ x) (h1 : x < 256) : Calls Tryd.prog 51 #[.int .u64 x] w (Bits x w) := by
  have hsz := len8_size
  have hi : x.toNat < len8tab.size := by rw [hsz]; omega
  have hv := len8_one x.toNat (by omega) (by omega)
  rw [← getD_at len8tab x.toNat hi] at hv
  have hv1 := hv.1
  have hv2 := hv.2
  clear hv
  go_enter Tryd.func51, Tryd.ntmps51
  go_wp2
  go_ret
  exact ⟨_, fun _ => ⟨by omega, by omega⟩, fun _ => by omega, rfl, rfl⟩

set_option maxHeartbeats 4000000 in
set_option maxRecDepth 100000 in
theorem len64_high (x : Int) (w : World) (h0 : 256 ≤ x) (h1 : x ≤ 3000) : Calls Tryd.prog 51 #[.int .u64 x] w (Bits x w) := by
  have hsz := len8_size
  have hi : (x / 256).toNat < len8tab.size := by rw [hsz]; omega
  have hv := len8_two (x / 256).toNat (by omega)
  rw [← getD_at len8tab (x / 256).toNat hi] at hv
  have hv1 : x < 512 → len8tab[(x / 256).toNat].toNat = 1 := fun h => hv.1 (by omega)
  have hv2 : 512 ≤ x → 2 ≤ len8tab[(x / 256).toNat].toNat ∧ len8tab[(x / 256).toNat].toNat ≤ 4 := fun h => hv.2 (by omega)
  have hv3 : len8tab[(x / 256).toNat].toNat ≤ 4 := by
    rcases Int.lt_or_le x 512 with h | h
    · have := hv1 h; omega
    · exact (hv2 h).2
  have HV1 := Lib.hid hv1
  have HV2 := Lib.hid hv2
  clear hv hv1 hv2
  go_enter Tryd.func51, Tryd.ntmps51
  go_wp2
  go_ret
  refine ⟨_, fun h => ?_, fun h => ?_, rfl, rfl⟩
  · have := HV1.out h
    omega
  · have := HV2.out h
    omega
theorem len64_any (x : Int) (w : World) (h0 : 100 ≤ x) (h1 : x ≤ 3000) : Calls Tryd.prog 51 #[.int .u64 x] w (Bits x w) := by
  rcases Int.lt_or_le x 256 with h | h
  · exact len64_low x w h0 h
  · exact len64_high x w h h1

theorem log10_any (L d : Int) (w : World) (h0 : 0 ≤ L) (h1 : L ≤ 64) (hd : L * 78913 / 262144 = d) : Calls Tryd.prog 50 #[.int .i64 L] w fun e w' => e = .returned (.int .i64 d) ∧ w = w' := by
  have HD := Lib.hid hd
  clear hd
  go_enter Tryd.func50, Tryd.ntmps50
  go_wp2
  go_ret
  rw [← HD.out]
  exact ⟨rfl, rfl⟩
theorem bool2_true (w : World) : Calls Tryd.prog 52 #[.bool true] w fun e w' => e = .returned (.int .i64 1) ∧ w = w' := by
  go_enter Tryd.func52, Tryd.ntmps52
  go_wp2
  go_ret
  exact ⟨rfl, rfl⟩
theorem bool2_false (w : World) : Calls Tryd.prog 52 #[.bool false] w fun e w' => e = .returned (.int .i64 0) ∧ w = w' := by
  go_enter Tryd.func52, Tryd.ntmps52
  go_wp2
  go_ret
  exact ⟨rfl, rfl⟩

/-- The two cells of the table that numbers up to 3000 ask for. -/
def Tab (w : World) (t2 t3 : Int) : Prop := w.cell? ⟨1, 2, none⟩ = some (.int .u64 t2) ∧ w.cell? ⟨1, 3, none⟩ = some (.int .u64 t3)
/-- How many digits are told. -/
def ndOf (t2 t3 : Int) (x : Int) : Nat := if x < 512 then (if t2 ≤ x then 3 else 2) else (if t3 ≤ x then 4 else 3)

theorem numDigits_a (x : Int) (w : World) (t : Int) (hc : w.cell? ⟨1, 2, none⟩ = some (.int .u64 t)) (h0 : 100 ≤ x) (h1 : x ≤ 3000) (h : x < 512) (ht : t ≤ x) :
    Calls Tryd.prog 44 #[.int .u64 x] w fun e w' => e = .returned (.int .i64 3) ∧ w = w' := by
  go_enter Tryd.func44, Tryd.ntmps44
  go_wp2_with fail
  refine (len64_any x w h0 h1).mono ?_
  rintro e w' ⟨L, hL1, hL2, rfl, rfl⟩
  have hL := hL1 h
  clear hL1 hL2
  go_wp2_with fail
  refine (log10_any L 2 w (by omega) (by omega) (by omega)).mono ?_
  rintro e w' ⟨rfl, rfl⟩
  go_wp2_with fail
  refine (bool2_true w).mono ?_
  rintro e w' ⟨rfl, rfl⟩
  go_wp2_with fail
  go_ret
  exact ⟨rfl, rfl⟩
theorem numDigits_b (x : Int) (w : World) (t : Int) (hc : w.cell? ⟨1, 2, none⟩ = some (.int .u64 t)) (h0 : 100 ≤ x) (h1 : x ≤ 3000) (h : x < 512) (ht : decide (t ≤ x) = false) :
    Calls Tryd.prog 44 #[.int .u64 x] w fun e w' => e = .returned (.int .i64 2) ∧ w = w' := by
  go_enter Tryd.func44, Tryd.ntmps44
  go_wp2_with fail
  refine (len64_any x w h0 h1).mono ?_
  rintro e w' ⟨L, hL1, hL2, rfl, rfl⟩
  have hL := hL1 h
  clear hL1 hL2
  go_wp2_with fail
  refine (log10_any L 2 w (by omega) (by omega) (by omega)).mono ?_
  rintro e w' ⟨rfl, rfl⟩
  go_wp2_with fail
  refine (bool2_false w).mono ?_
  rintro e w' ⟨rfl, rfl⟩
  go_wp2_with fail
  go_ret
  exact ⟨rfl, rfl⟩
theorem numDigits_c (x : Int) (w : World) (t : Int) (hc : w.cell? ⟨1, 3, none⟩ = some (.int .u64 t)) (h0 : 100 ≤ x) (h1 : x ≤ 3000) (h : 512 ≤ x) (ht : t ≤ x) :
    Calls Tryd.prog 44 #[.int .u64 x] w fun e w' => e = .returned (.int .i64 4) ∧ w = w' := by
  go_enter Tryd.func44, Tryd.ntmps44
  go_wp2_with fail
  refine (len64_any x w h0 h1).mono ?_
  rintro e w' ⟨L, hL1, hL2, rfl, rfl⟩
  have hL := hL2 h
  clear hL1 hL2
  go_wp2_with fail
  refine (log10_any L 3 w (by omega) (by omega) (by omega)).mono ?_
  rintro e w' ⟨rfl, rfl⟩
  go_wp2_with fail
  refine (bool2_true w).mono ?_
  rintro e w' ⟨rfl, rfl⟩
  go_wp2_with fail
  go_ret
  exact ⟨rfl, rfl⟩
theorem numDigits_d (x : Int) (w : World) (t : Int) (hc : w.cell? ⟨1, 3, none⟩ = some (.int .u64 t)) (h0 : 100 ≤ x) (h1 : x ≤ 3000) (h : 512 ≤ x) (ht : decide (t ≤ x) = false) :
    Calls Tryd.prog 44 #[.int .u64 x] w fun e w' => e = .returned (.int .i64 3) ∧ w = w' := by
  go_enter Tryd.func44, Tryd.ntmps44
  go_wp2_with fail
  refine (len64_any x w h0 h1).mono ?_
  rintro e w' ⟨L, hL1, hL2, rfl, rfl⟩
  have hL := hL2 h
  clear hL1 hL2
  go_wp2_with fail
  refine (log10_any L 3 w (by omega) (by omega) (by omega)).mono ?_
  rintro e w' ⟨rfl, rfl⟩
  go_wp2_with fail
  refine (bool2_false w).mono ?_
  rintro e w' ⟨rfl, rfl⟩
  go_wp2_with fail
  go_ret
  exact ⟨rfl, rfl⟩
theorem numDigits_any (x : Int) (w : World) (t2 t3 : Int) (hT : Tab w t2 t3) (h0 : 100 ≤ x) (h1 : x ≤ 3000) :
    Calls Tryd.prog 44 #[.int .u64 x] w fun e w' => e = .returned (.int .i64 (ndOf t2 t3 x)) ∧ w = w' := by
  obtain ⟨c2, c3⟩ := hT
  unfold ndOf
  rcases Int.lt_or_le x 512 with h | h
  · rw [if_pos h]
    rcases Int.lt_or_le x t2 with h' | h'
    · rw [if_neg (by omega)]; exact numDigits_b x w t2 c2 h0 h1 h (by simpa using h')
    · rw [if_pos h']; exact numDigits_a x w t2 c2 h0 h1 h h'
  · rw [if_neg (by omega)]
    rcases Int.lt_or_le x t3 with h' | h'
    · rw [if_neg (by omega)]; exact numDigits_d x w t3 c3 h0 h1 h (by simpa using h')
    · rw [if_pos h']; exact numDigits_c x w t3 c3 h0 h1 h h'

/-- formatBase10 into two places. -/
def smI (i : Int) : Int := ((sm i.toNat).toNat : Int)
theorem idx_sm (k : IntKind) (z : Int) (h0 : 0 ≤ z) (h1 : z < 200) (w : World) : (Instr.index 9 (.string smalls) (.int k z)).run Tryd.prog w = .ok (.int .u8 (smI z)) w :=
  idx_smalls 9 Tryd.underlying9 k z z.toNat (by omega) (by omega) w
/-- What was written behind the first place of block b. -/
def Wrote (b : Nat) (vs : List Int) (w w' : World) : Prop := (∀ i, i < vs.length → w'.cell? ⟨b, 1 + i, none⟩ = some (.int .u8 (vs.getD i 0))) ∧ w.grownBy w' (some b)
set_option maxHeartbeats 4000000 in
set_option maxRecDepth 100000 in
theorem base10_two (x : Int) (b : Nat) (w : World) (h0 : 100 ≤ x) (h1 : x ≤ 3000) (c1 : w.cell? ⟨b, 1, none⟩ = some (.int .u8 0)) (c2 : w.cell? ⟨b, 2, none⟩ = some (.int .u8 0)) (z1 : w.frozen? ⟨b, 1, none⟩ = false) (z2 : w.frozen? ⟨b, 2, none⟩ = false) :
    Calls Tryd.prog 45 #[.slice (some ⟨b, 1, none⟩) 2 23, .int .u64 x] w fun e w' => e = .returned (.tuple #[]) ∧ Wrote b [smI (x % 100 * 2), smI (x % 100 * 2 + 1)] w w' := by
  have i0 := idx_sm .u32 (x % 100 * 2) (by omega) (by omega)
  have i1 := idx_sm .u32 (x % 100 * 2 + 1) (by omega) (by omega)
  go_enter Tryd.func45, Tryd.ntmps45
  go_name_bytes SM hSM
  have eSM : SM = Lib.smalls := by rw [← hSM]; decide +kernel
  subst eSM
  clear hSM
  go_wp2_with fail
  go_rounds 1
  go_region
  go_wp2_with fail
  go_end0
  refine ⟨rfl, fun i hi => ?_, up_drew (up_set (up_set (up_refl _ _) _ _) _ _)⟩
  rcases i with _ | _ | i
  · go_cell
  · go_cell
  · simp at hi; omega
set_option maxHeartbeats 4000000 in
set_option maxRecDepth 100000 in
theorem base10_three (x : Int) (b : Nat) (w : World) (h0 : 100 ≤ x) (h1 : x ≤ 3000) (c1 : w.cell? ⟨b, 1, none⟩ = some (.int .u8 0)) (c2 : w.cell? ⟨b, 2, none⟩ = some (.int .u8 0)) (c3 : w.cell? ⟨b, 3, none⟩ = some (.int .u8 0)) (z1 : w.frozen? ⟨b, 1, none⟩ = false) (z2 : w.frozen? ⟨b, 2, none⟩ = false) (z3 : w.frozen? ⟨b, 3, none⟩ = false) :
    Calls Tryd.prog 45 #[.slice (some ⟨b, 1, none⟩) 3 23, .int .u64 x] w fun e w' => e = .returned (.tuple #[]) ∧ Wrote b [48 + x / 100, smI (x % 100 * 2), smI (x % 100 * 2 + 1)] w w' := by
  have i0 := idx_sm .u32 (x % 100 * 2) (by omega) (by omega)
  have i1 := idx_sm .u32 (x % 100 * 2 + 1) (by omega) (by omega)
  go_enter Tryd.func45, Tryd.ntmps45
  go_name_bytes SM hSM
  have eSM : SM = Lib.smalls := by rw [← hSM]; decide +kernel
  subst eSM
  clear hSM
  go_wp2_with fail
  go_rounds 1
  go_region
  go_wp2_with fail
  go_end0
  refine ⟨rfl, fun i hi => ?_, up_drew (up_set (up_set (up_set (up_refl _ _) _ _) _ _) _ _)⟩
  rcases i with _ | _ | _ | i
  · go_cell
  · go_cell
  · go_cell
  · simp at hi; omega
set_option maxHeartbeats 4000000 in
set_option maxRecDepth 100000 in
theorem base10_four (x : Int) (b : Nat) (w : World) (h0 : 100 ≤ x) (h1 : x ≤ 3000) (c1 : w.cell? ⟨b, 1, none⟩ = some (.int .u8 0)) (c2 : w.cell? ⟨b, 2, none⟩ = some (.int .u8 0)) (c3 : w.cell? ⟨b, 3, none⟩ = some (.int .u8 0)) (c4 : w.cell? ⟨b, 4, none⟩ = some (.int .u8 0)) (z1 : w.frozen? ⟨b, 1, none⟩ = false) (z2 : w.frozen? ⟨b, 2, none⟩ = false) (z3 : w.frozen? ⟨b, 3, none⟩ = false) (z4 : w.frozen? ⟨b, 4, none⟩ = false) :
    Calls Tryd.prog 45 #[.slice (some ⟨b, 1, none⟩) 4 23, .int .u64 x] w fun e w' => e = .returned (.tuple #[]) ∧ Wrote b [smI (x % 10000 / 100 * 2), smI (x % 10000 / 100 * 2 + 1), smI (x % 100 * 2), smI (x % 100 * 2 + 1)] w w' := by
  have i0 := idx_sm .u32 (x % 100 * 2) (by omega) (by omega)
  have i1 := idx_sm .u32 (x % 100 * 2 + 1) (by omega) (by omega)
  have i2 := idx_sm .u32 (x % 10000 / 100 * 2) (by omega) (by omega)
  have i3 := idx_sm .u32 (x % 10000 / 100 * 2 + 1) (by omega) (by omega)
  go_enter Tryd.func45, Tryd.ntmps45
  go_name_bytes SM hSM
  have eSM : SM = Lib.smalls := by rw [← hSM]; decide +kernel
  subst eSM
  clear hSM
  go_wp2_with fail
  go_rounds 1
  go_region
  go_wp2_with fail
  go_region
  go_wp2_with fail
  go_end0
  refine ⟨rfl, fun i hi => ?_, up_drew (up_drew (up_set (up_set (up_set (up_set (up_refl _ _) _ _) _ _) _ _) _ _))⟩
  rcases i with _ | _ | _ | _ | i
  · go_cell
  · go_cell
  · go_cell
  · go_cell
  · simp at hi; omega
end Go.Proofs.YtieadejlnfjgbaaDoor
