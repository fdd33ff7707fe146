/-
  Proved here: what (*num.Fault).Error says of a code and a place of one digit each.
  Conditions: none.
-/
import Derived.Test.YtieadejlnfjgbaaDoorSame
namespace Go.Proofs.YtieadejlnfjgbaaDoor
open Go.RowKit Go.Extern.Stop Go.Stop Go.Extern

def digitsText : ByteArray := { data := #[48, 49, 50, 51, 52, 53, 54, 55, 56, 57, 97, 98, 99, 100, 101, 102, 103, 104, 105, 106, 107, 108, 109, 110, 111, 112, 113, 114, 115, 116, 117, 118, 119, 120, 121, 122] }
def dig (k : Nat) : ByteArray := digitsText.extract k (k + 1)
theorem small_any (k : Nat) (hk : k < 10) (w : World) :
    Calls Tryd.prog 43 #[.int .i64 k] w fun e w' => e = .returned (.string (dig k)) ∧ w = w' := by
  have hd : digitsText.size = 36 := rfl
  go_enter Tryd.func43, Tryd.ntmps43
  go_wp2_with fail
  go_ret
  exact ⟨rfl, rfl⟩
theorem itoa_small (k : Nat) (hk : k < 10) (w : World) :
    Calls Tryd.prog 31 #[.int .i64 k] w fun e w' => e = .returned (.string (dig k)) ∧ w' = w := by
  go_enter Tryd.func31, Tryd.ntmps31
  go_wp2_with (first | (go_at_call 43; refine (small_any k hk _).mono ?_; rintro e w' ⟨rfl, rfl⟩) | (go_at_call 35; go_in) | (go_at_call 38; go_in))
  go_ret
  exact ⟨rfl, rfl⟩

def faultText : ByteArray := { data := #[102, 97, 117, 108, 116, 32] }
def atText : ByteArray := { data := #[32, 97, 116, 32] }
theorem dig_size : ∀ k, k < 10 → (dig k).size = 1 := by decide
theorem below_drewN {B : Nat} {a w : World} (h : Below B a w) (n : Nat) : Below B a (w.drewN n) := by
  induction n with
  | zero => exact h
  | succ n ih => exact ih.drew
theorem error_small (b : Nat) (j k : Nat) (hj : j < 10) (hk : k < 10) (w : World) (hf : Flt w b j k) :
    Calls Tryd.prog 19 #[.pointer (some ⟨b, 0, none⟩)] w fun e w' => e = .returned (.string (faultText ++ dig j ++ atText ++ dig k)) ∧ Below w.heap.size w w' := by
  have c0 := hf.c0
  have c1 := hf.c1
  have dj := dig_size j hj
  have dk := dig_size k hk
  go_enter Tryd.func19, Tryd.ntmps19
  go_wp2_with fail
  go_quiet ((go_at_call 31; first | exact Calls.quiet_of_same (itoa_small _ hj _) | exact Calls.quiet_of_same (itoa_small _ hk _)))
  go_wp2_with fail
  go_ret
  exact ⟨rfl, below_drewN (Below.refl _ _) _⟩

theorem error_nil (w : World) :
    Calls Tryd.prog 19 #[.pointer none] w fun e w' => e = .returned (.string (faultText ++ dig 0 ++ atText ++ dig 0)) ∧ Below w.heap.size w w' := by
  have dj := dig_size 0 (by decide)
  go_enter Tryd.func19, Tryd.ntmps19
  go_wp2_with fail
  go_quiet ((go_at_call 31; exact Calls.quiet_of_same (itoa_small 0 (by decide) _)))
  go_wp2_with fail
  go_ret
  exact ⟨rfl, below_drewN ((Below.refl _ _).alloc (Nat.le_refl _) _) _⟩
end Go.Proofs.YtieadejlnfjgbaaDoor
