/-
  Proved here: what the laws' own awake answers, given what the program's functions answer.
  Conditions: USays.
-/
import Derived.Test.YtiemapkajpfikaaDoorErr
namespace Go.Proofs.YtiemapkajpfikaaDoor
open Go.RowKit

def exD : Dg := ⟨1, 2, 0, ⟨#[104, 105]⟩⟩
def exU : ByteArray := ⟨#[0, 1, 0, 2, 0, 10, 151, 137, 104, 105]⟩
theorem exD_why : exD.why = 0 := by decide +kernel
theorem exD_out : exD.out ⟨#[]⟩ = exU := by decide +kernel
theorem exU_code : dcode exU = 0 := by decide +kernel
theorem exU_parts : (dans exU).fr = 1 ∧ (dans exU).dst = 2 ∧ (dans exU).sm = 38793 ∧ (dans exU).data = ⟨#[104, 105]⟩ := by decide +kernel
set_option maxRecDepth 100000 in
theorem awake_true (U : USays) (w : World) :
    Calls Tryd.prog 4 #[] w fun e w' => e = .returned (.bool true) ∧ Below w.heap.size w w' := by
  have C1 : Hid (∀ W, Calls Tryd.prog 8 #[.agg #[.int .i64 1, .int .i64 2, .int .i64 0, .string ⟨#[104, 105]⟩], .string ⟨#[]⟩] W fun e w' => e = .returned (.tuple #[.string exU, .nilIface]) ∧ Below W.heap.size W w') := Lib.hid (fun W => by
    refine (U.bytes exD ⟨#[]⟩ W (by decide) (by decide)).mono ?_
    rintro e w' ⟨x, rfl, he, b⟩
    rw [exD_why] at he
    rw [he.nil, exD_out]
    exact ⟨rfl, b⟩)
  have C2 : Hid (∀ W, Calls Tryd.prog 5 #[.string exU] W fun e w' => e = .returned (.tuple #[.agg #[.int .i64 1, .int .i64 2, .int .i64 38793, .string ⟨#[104, 105]⟩], .nilIface]) ∧ Below W.heap.size W w') := Lib.hid (fun W => by
    refine (U.parse exU W (by decide)).mono ?_
    rintro e w' ⟨x, rfl, he, b⟩
    obtain ⟨e0, e1, e2, e3⟩ := exU_parts
    rw [exU_code] at he
    rw [he.nil, e0, e1, e2, e3]
    exact ⟨rfl, b⟩)
  have HU : Hid (exU = ⟨#[0, 1, 0, 2, 0, 10, 151, 137, 104, 105]⟩) := Lib.hid rfl
  generalize exU = EU at *
  have hq := fun W => eqlDg 1 2 38793 ⟨#[104, 105]⟩ W
  go_enter Tryd.func4, Tryd.ntmps4
  go_wp2_with fail
  refine (C1.out _).mono ?_
  rintro e w1 ⟨rfl, b1⟩
  have HB1 := Lib.hid b1
  clear b1
  go_wp2_with fail
  refine (C2.out _).mono ?_
  rintro e w2 ⟨rfl, b2⟩
  have HB2 := Lib.hid (HB1.out.trans (b2.mono HB1.out.size))
  have HS2 := Lib.hid (Nat.le_trans HB1.out.size b2.size)
  clear b2 HB1
  rw [HU.out]
  go_wp2_with fail
  go_ret
  exact ⟨rfl, HB2.out.alloc HS2.out _⟩
end Go.Proofs.YtiemapkajpfikaaDoor
