/-
  Proved here: what (*num.Fault).Error says of a code of one digit and a place from 0 to 3000, whatever the table internal/strconv.uint64pow10 holds.
  Conditions: two cells of that table hold numbers.
-/
import Derived.Test.YtieadejlnfjgbaaDoorErrorAny
import Derived.Deep.RegionHeld3
namespace Go.Proofs.YtieadejlnfjgbaaDoor
open Go.RowKit Go.Extern.Stop Go.Stop Go.Extern Go.Lib

theorem itoa_back (k : Nat) (hk : k < 10) (w : World) :
    Calls Tryd.prog 31 #[.int .i64 k] w fun e w' => e = .returned (.string (dig k)) ∧ w = w' :=
  (itoa_small k hk w).mono fun _ _ ⟨he, hw⟩ => ⟨he, hw.symm⟩

def errT (t2 t3 : Int) (j k : Nat) : ByteArray := faultText ++ dig j ++ atText ++ itoaT t2 t3 k

theorem itoaT_size (t2 t3 : Int) (k : Nat) : (itoaT t2 t3 k).size ≤ 200 := by
  unfold itoaT
  split
  · unfold dig; simp; omega
  · split
    · unfold smallText; simp; omega
    · rw [strOfNums_size]
      unfold vsOf
      split
      · simp
      · split <;> simp

set_option maxHeartbeats 4000000 in
set_option maxRecDepth 100000 in
theorem error_all (b : Nat) (j k : Nat) (hj : j < 10) (hk : k ≤ 3000) (w : World) (t2 t3 : Int) (hf : Flt w b j k) (hT : Tab w t2 t3) :
    Calls Tryd.prog 19 #[.pointer (some ⟨b, 0, none⟩)] w fun e w' => e = .returned (.string (errT t2 t3 j k)) ∧ Below w.heap.size w w' := by
  have c0 := hf.c0
  have c1 := hf.c1
  have dj := dig_size j hj
  have dk : ¬ 9223372036854775807 < 11 + (itoaT t2 t3 k).size := by have := itoaT_size t2 t3 k; omega
  have HT := Lib.hid hT
  have hbl : b < w.heap.size := hf.lt
  have HC := Lib.hid (And.intro c0 c1)
  clear hf hT
  go_enter Tryd.func19, Tryd.ntmps19
  go_wp2_with fail
  go_region_held3 (fun w' => w'.cell? ⟨b, 0, none⟩ = some (.int .i64 j) ∧ w'.cell? ⟨b, 1, none⟩ = some (.int .i64 k)) (first | exact ⟨(Below.cell ‹Below w.drew.heap.size w.drew _› hbl).trans HC.out.1, (Below.cell ‹Below w.drew.heap.size w.drew _› hbl).trans HC.out.2⟩ | go_keep) (first | (go_at_call 31; refine (itoa_back j hj _).mono ?_; rintro e w' ⟨rfl, rfl⟩) | (go_at_call 31; refine (itoa_any k hk w.drew t2 t3 HT.out).mono ?_; rintro e w' ⟨rfl, hb⟩))
  go_wp2_with fail
  go_ret
  exact ⟨rfl, (Below.refl _ _).drew.trans ‹Below w.drew.heap.size w.drew _›⟩
end Go.Proofs.YtieadejlnfjgbaaDoor
