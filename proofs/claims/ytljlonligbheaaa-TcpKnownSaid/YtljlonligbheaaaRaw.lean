/-
  Proved here: what the laws' own raw answers; strings.Repeat of few noughts.
  Conditions: none.
-/
import Derived.Test.YtljlonligbheaaaErr
import Derived.Test.YtljlonligbheaaaShelf
namespace Go.Proofs.Ytljlonligbheaaa
open Go.RowKit

def rawB : ByteArray := ⟨#[0, 0, 0, 0, 0, 0, 0, 0, 0, 0, 0, 0, 80, 0, 0, 0, 0, 0, 0, 0]⟩
/-- n noughts. -/
def zs (n : Nat) : ByteArray := ⟨(Lib.repeatL [0] n).toArray⟩
theorem zs_size (n : Nat) : (zs n).size = n := by
  rw [← ba_size]
  show (Lib.repeatL [0] n).length = n
  rw [Lib.repeatL_length]
  simp
theorem zeros_at (n : Int) (k : Nat) (hn : n = (k : Int)) (w : World) (hk : k ≤ 70000) : Calls Try.prog 11 #[.string ⟨#[0]⟩, .int .i64 n] w fun e w' => e = .returned (.string (zs k)) ∧ Below w.heap.size w w' := by
  subst hn
  exact Try.strings_Repeat ⟨#[0]⟩ k w (by omega) (by show 1 * k ≤ _; omega)
theorem raw_eq : zs 12 ++ ⟨#[80]⟩ ++ zs 7 = rawB := by decide +kernel
set_option maxRecDepth 100000 in
theorem raw_any (w : World) : Calls Try.prog 10 #[] w fun e w' => e = .returned (.string rawB) ∧ Below w.heap.size w w' := by
  have H1 := Lib.hid (fun W => zeros_at 12 12 rfl W (by omega))
  have H2 := Lib.hid (fun W => zeros_at 7 7 rfl W (by omega))
  have HR := Lib.hid raw_eq
  have z1 := zs_size 12
  have z2 := zs_size 7
  have z3 : (zs 12 ++ ⟨#[80]⟩).size = 13 := by rw [dcat_len, z1]; rfl
  generalize zs 12 = A at *
  generalize zs 7 = B at *
  generalize rawB = R at *
  go_enter Try.func10, Try.ntmps10
  go_wp2_with fail
  refine (H1.out _).mono ?_
  rintro e w1 ⟨rfl, b1⟩
  have HB1 := Lib.hid b1
  clear b1
  go_wp2_with fail
  refine (H2.out _).mono ?_
  rintro e w2 ⟨rfl, b2⟩
  have HB2 := Lib.hid (HB1.out.trans (b2.mono HB1.out.size))
  clear b2 HB1
  go_wp2_with fail
  go_ret
  exact ⟨by rw [← HR.out]; rfl, HB2.out⟩
end Go.Proofs.Ytljlonligbheaaa
