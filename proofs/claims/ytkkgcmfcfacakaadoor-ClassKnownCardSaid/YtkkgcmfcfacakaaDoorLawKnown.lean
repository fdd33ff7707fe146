/-
  Proved here: the law ClassKnown answers true.
  Conditions: what the library's and the package's variables hold.
-/
import Derived.Test.YtkkgcmfcfacakaaDoorKnw
import Derived.Test.YtkkgcmfcfacakaaDoorLiftc
namespace Go.Proofs.YtkkgcmfcfacakaaDoor
open Go.RowKit

theorem k6t0_t : txt6 [32, 1, 13, 184, 0, 0, 0, 0, 0, 1, 0, 0, 0, 0, 0, 1] = [50, 48, 48, 49, 58, 100, 98, 56, 58, 58, 49, 58, 48, 58, 48, 58, 49] := by decide +kernel
theorem k6t0_tp (W : World) (h0 : Hw W) : Calls Tryd.prog 12 #[.agg (bu [32, 1, 13, 184, 0, 0, 0, 0, 0, 1, 0, 0, 0, 0, 0, 1]).toArray] W fun e w' => e = .returned (.string ⟨#[50, 48, 48, 49, 58, 100, 98, 56, 58, 58, 49, 58, 48, 58, 48, 58, 49]⟩) ∧ Below W.heap.size W w' := by
  have h := text6_any [32, 1, 13, 184, 0, 0, 0, 0, 0, 1, 0, 0, 0, 0, 0, 1] W rfl h0.db
  rwa [k6t0_t] at h
theorem k6t1_t : txt6 [0, 0, 0, 0, 0, 0, 0, 0, 0, 0, 0, 0, 0, 0, 0, 0] = [58, 58] := by decide +kernel
theorem k6t1_tp (W : World) (h0 : Hw W) : Calls Tryd.prog 12 #[.agg (bu [0, 0, 0, 0, 0, 0, 0, 0, 0, 0, 0, 0, 0, 0, 0, 0]).toArray] W fun e w' => e = .returned (.string ⟨#[58, 58]⟩) ∧ Below W.heap.size W w' := by
  have h := text6_any [0, 0, 0, 0, 0, 0, 0, 0, 0, 0, 0, 0, 0, 0, 0, 0] W rfl h0.db
  rwa [k6t1_t] at h
theorem k6t2_t : txt6 [0, 0, 0, 0, 0, 1, 0, 1, 0, 1, 0, 1, 0, 1, 0, 1] = [58, 58, 49, 58, 49, 58, 49, 58, 49, 58, 49, 58, 49] := by decide +kernel
theorem k6t2_tp (W : World) (h0 : Hw W) : Calls Tryd.prog 12 #[.agg (bu [0, 0, 0, 0, 0, 1, 0, 1, 0, 1, 0, 1, 0, 1, 0, 1]).toArray] W fun e w' => e = .returned (.string ⟨#[58, 58, 49, 58, 49, 58, 49, 58, 49, 58, 49, 58, 49]⟩) ∧ Below W.heap.size W w' := by
  have h := text6_any [0, 0, 0, 0, 0, 1, 0, 1, 0, 1, 0, 1, 0, 1, 0, 1] W rfl h0.db
  rwa [k6t2_t] at h
theorem k6t3_t : txt6 [0, 1, 0, 0, 0, 1, 0, 1, 0, 1, 0, 1, 0, 1, 0, 1] = [49, 58, 48, 58, 49, 58, 49, 58, 49, 58, 49, 58, 49, 58, 49] := by decide +kernel
theorem k6t3_tp (W : World) (h0 : Hw W) : Calls Tryd.prog 12 #[.agg (bu [0, 1, 0, 0, 0, 1, 0, 1, 0, 1, 0, 1, 0, 1, 0, 1]).toArray] W fun e w' => e = .returned (.string ⟨#[49, 58, 48, 58, 49, 58, 49, 58, 49, 58, 49, 58, 49, 58, 49]⟩) ∧ Below W.heap.size W w' := by
  have h := text6_any [0, 1, 0, 0, 0, 1, 0, 1, 0, 1, 0, 1, 0, 1, 0, 1] W rfl h0.db
  rwa [k6t3_t] at h
theorem k6a_ok : ok6 ⟨#[49, 58, 58, 50, 58, 58, 51]⟩ = false := by decide +kernel
theorem k6a_val : val6u ⟨#[49, 58, 58, 50, 58, 58, 51]⟩ = ([0, 0, 0, 0, 0, 0, 0, 0, 0, 0, 0, 0, 0, 0, 0, 0] : List UInt8) := by decide +kernel
theorem k6a_p (W : World) (h0 : Hw W) : Calls Tryd.prog 13 #[.string ⟨#[49, 58, 58, 50, 58, 58, 51]⟩] W fun e w' => e = .returned (.tuple #[.agg (bu [0, 0, 0, 0, 0, 0, 0, 0, 0, 0, 0, 0, 0, 0, 0, 0]).toArray, .bool false]) ∧ Below W.heap.size W w' := by
  have h := parse6_any ⟨#[49, 58, 58, 50, 58, 58, 51]⟩ W (by decide) h0.ml
  rwa [← val6u_b8, k6a_val, k6a_ok] at h
theorem k6b_ok : ok6 ⟨#[49, 58, 50, 58, 51, 58, 52, 58, 53, 58, 54, 58, 55, 58, 58, 56]⟩ = false := by decide +kernel
theorem k6b_val : val6u ⟨#[49, 58, 50, 58, 51, 58, 52, 58, 53, 58, 54, 58, 55, 58, 58, 56]⟩ = ([0, 0, 0, 0, 0, 0, 0, 0, 0, 0, 0, 0, 0, 0, 0, 0] : List UInt8) := by decide +kernel
theorem k6b_p (W : World) (h0 : Hw W) : Calls Tryd.prog 13 #[.string ⟨#[49, 58, 50, 58, 51, 58, 52, 58, 53, 58, 54, 58, 55, 58, 58, 56]⟩] W fun e w' => e = .returned (.tuple #[.agg (bu [0, 0, 0, 0, 0, 0, 0, 0, 0, 0, 0, 0, 0, 0, 0, 0]).toArray, .bool false]) ∧ Below W.heap.size W w' := by
  have h := parse6_any ⟨#[49, 58, 50, 58, 51, 58, 52, 58, 53, 58, 54, 58, 55, 58, 58, 56]⟩ W (by decide) h0.ml
  rwa [← val6u_b8, k6b_val, k6b_ok] at h
theorem k4a_ok : ok4 ⟨#[49, 46, 50, 46, 51, 46, 48, 52]⟩ = false := by decide +kernel
theorem k4a_val : val4u ⟨#[49, 46, 50, 46, 51, 46, 48, 52]⟩ = ([0, 0, 0, 0] : List UInt8) := by decide +kernel
theorem k4a_p (W : World) : Calls Tryd.prog 14 #[.string ⟨#[49, 46, 50, 46, 51, 46, 48, 52]⟩] W fun e w' => e = .returned (.tuple #[.agg (bu [0, 0, 0, 0]).toArray, .bool false]) ∧ Below W.heap.size W w' := by
  have h := parse4_any ⟨#[49, 46, 50, 46, 51, 46, 48, 52]⟩ W
  rwa [← val4u_b8, k4a_val, k4a_ok] at h
theorem k4b_ok : ok4 ⟨#[49, 46, 50, 46, 51, 46, 50, 53, 54]⟩ = false := by decide +kernel
theorem k4b_val : val4u ⟨#[49, 46, 50, 46, 51, 46, 50, 53, 54]⟩ = ([0, 0, 0, 0] : List UInt8) := by decide +kernel
theorem k4b_p (W : World) : Calls Tryd.prog 14 #[.string ⟨#[49, 46, 50, 46, 51, 46, 50, 53, 54]⟩] W fun e w' => e = .returned (.tuple #[.agg (bu [0, 0, 0, 0]).toArray, .bool false]) ∧ Below W.heap.size W w' := by
  have h := parse4_any ⟨#[49, 46, 50, 46, 51, 46, 50, 53, 54]⟩ W
  rwa [← val4u_b8, k4b_val, k4b_ok] at h
theorem kn4_ok : okN4 ⟨#[49, 48, 46, 48, 46, 48, 46, 48, 47, 56]⟩ = true := by decide +kernel
theorem kn4_ad : (valN4 ⟨#[49, 48, 46, 48, 46, 48, 46, 48, 47, 56]⟩).ad = ([10, 0, 0, 0] : List UInt8) := by decide +kernel
theorem kn4_ln : (valN4 ⟨#[49, 48, 46, 48, 46, 48, 46, 48, 47, 56]⟩).ln = 8 := by decide +kernel
theorem kn4_v : valN4 ⟨#[49, 48, 46, 48, 46, 48, 46, 48, 47, 56]⟩ = ⟨[10, 0, 0, 0], 8⟩ := by
  have h1 := kn4_ad
  have h2 := kn4_ln
  cases h : valN4 ⟨#[49, 48, 46, 48, 46, 48, 46, 48, 47, 56]⟩ with
  | mk a l =>
    rw [h] at h1 h2
    subst h1 h2
    rfl
theorem kn4_p (W : World) (h0 : Hw W) : Calls Tryd.prog 15 #[.string ⟨#[49, 48, 46, 48, 46, 48, 46, 48, 47, 56]⟩] W fun e w' => e = .returned (.tuple #[.agg (Nn.mk [10, 0, 0, 0] 8).vals.toArray, .bool true]) ∧ Below W.heap.size W w' := by
  have h := parsenet4_any ⟨#[49, 48, 46, 48, 46, 48, 46, 48, 47, 56]⟩ W (by decide) h0.ml
  rwa [kn4_v, kn4_ok] at h
theorem kn4b_ok : okN4 ⟨#[49, 48, 46, 48, 46, 48, 46, 49, 47, 56]⟩ = false := by decide +kernel
theorem kn4b_ad : (valN4 ⟨#[49, 48, 46, 48, 46, 48, 46, 49, 47, 56]⟩).ad = ([0, 0, 0, 0] : List UInt8) := by decide +kernel
theorem kn4b_ln : (valN4 ⟨#[49, 48, 46, 48, 46, 48, 46, 49, 47, 56]⟩).ln = 0 := by decide +kernel
theorem kn4b_v : valN4 ⟨#[49, 48, 46, 48, 46, 48, 46, 49, 47, 56]⟩ = ⟨[0, 0, 0, 0], 0⟩ := by
  have h1 := kn4b_ad
  have h2 := kn4b_ln
  cases h : valN4 ⟨#[49, 48, 46, 48, 46, 48, 46, 49, 47, 56]⟩ with
  | mk a l =>
    rw [h] at h1 h2
    subst h1 h2
    rfl
theorem kn4b_p (W : World) (h0 : Hw W) : Calls Tryd.prog 15 #[.string ⟨#[49, 48, 46, 48, 46, 48, 46, 49, 47, 56]⟩] W fun e w' => e = .returned (.tuple #[.agg (Nn.mk [0, 0, 0, 0] 0).vals.toArray, .bool false]) ∧ Below W.heap.size W w' := by
  have h := parsenet4_any ⟨#[49, 48, 46, 48, 46, 48, 46, 49, 47, 56]⟩ W (by decide) h0.ml
  rwa [kn4b_v, kn4b_ok] at h
def z32 : Nn := ⟨[0, 0, 0, 0, 0, 0, 0, 0, 0, 0, 0, 0, 0, 0, 0, 0], 32⟩
theorem km0_v : mayv knN [10, 1, 2, 3] = false := by decide +kernel
theorem km0_p (W : World) (h0 : Vc W) : Calls Tryd.prog 18 #[.agg knN.vals.toArray, .agg (bu [10, 1, 2, 3]).toArray] W fun e w' => e = .returned (.bool false) ∧ Below W.heap.size W w' := by
  have h := may_any knN [10, 1, 2, 3] W rfl rfl h0.m4 h0.pr h0.kn
  rwa [km0_v] at h
theorem km1_v : mayv knN [192, 0, 2, 1] = true := by decide +kernel
theorem km1_p (W : World) (h0 : Vc W) : Calls Tryd.prog 18 #[.agg knN.vals.toArray, .agg (bu [192, 0, 2, 1]).toArray] W fun e w' => e = .returned (.bool true) ∧ Below W.heap.size W w' := by
  have h := may_any knN [192, 0, 2, 1] W rfl rfl h0.m4 h0.pr h0.kn
  rwa [km1_v] at h
theorem km2_v : mayv z32 [10, 1, 2, 3] = true := by decide +kernel
theorem km2_p (W : World) (h0 : Vc W) : Calls Tryd.prog 18 #[.agg z32.vals.toArray, .agg (bu [10, 1, 2, 3]).toArray] W fun e w' => e = .returned (.bool true) ∧ Below W.heap.size W w' := by
  have h := may_any z32 [10, 1, 2, 3] W rfl rfl h0.m4 h0.pr h0.kn
  rwa [km2_v] at h
theorem km3_v : mayv z32 [127, 1, 2, 3] = false := by decide +kernel
theorem km3_p (W : World) (h0 : Vc W) : Calls Tryd.prog 18 #[.agg z32.vals.toArray, .agg (bu [127, 1, 2, 3]).toArray] W fun e w' => e = .returned (.bool false) ∧ Below W.heap.size W w' := by
  have h := may_any z32 [127, 1, 2, 3] W rfl rfl h0.m4 h0.pr h0.kn
  rwa [km3_v] at h
set_option maxRecDepth 100000 in
set_option maxHeartbeats 8000000 in
theorem classKnown_any (w : World) (h0 : Hw w) (hv : Vc w) :
    Calls Tryd.prog 3 #[] w fun e w' => e = .returned (.bool true) ∧ Below w.heap.size w w' := by
  have HW := Lib.hid h0
  have HV := Lib.hid hv
  have CA := Lib.hid (fun W (h : Hw W) => awakec_true W h)
  have T0 : Hid (∀ W, Hw W → Calls Tryd.prog 12 #[.agg #[.int .u8 32, .int .u8 1, .int .u8 13, .int .u8 184, .int .u8 0, .int .u8 0, .int .u8 0, .int .u8 0, .int .u8 0, .int .u8 1, .int .u8 0, .int .u8 0, .int .u8 0, .int .u8 0, .int .u8 0, .int .u8 1]] W fun e w' => e = .returned (.string ⟨#[50, 48, 48, 49, 58, 100, 98, 56, 58, 58, 49, 58, 48, 58, 48, 58, 49]⟩) ∧ Below W.heap.size W w') := Lib.hid k6t0_tp
  have T1 : Hid (∀ W, Hw W → Calls Tryd.prog 12 #[.agg #[.int .u8 0, .int .u8 0, .int .u8 0, .int .u8 0, .int .u8 0, .int .u8 0, .int .u8 0, .int .u8 0, .int .u8 0, .int .u8 0, .int .u8 0, .int .u8 0, .int .u8 0, .int .u8 0, .int .u8 0, .int .u8 0]] W fun e w' => e = .returned (.string ⟨#[58, 58]⟩) ∧ Below W.heap.size W w') := Lib.hid k6t1_tp
  have T2 : Hid (∀ W, Hw W → Calls Tryd.prog 12 #[.agg #[.int .u8 0, .int .u8 0, .int .u8 0, .int .u8 0, .int .u8 0, .int .u8 1, .int .u8 0, .int .u8 1, .int .u8 0, .int .u8 1, .int .u8 0, .int .u8 1, .int .u8 0, .int .u8 1, .int .u8 0, .int .u8 1]] W fun e w' => e = .returned (.string ⟨#[58, 58, 49, 58, 49, 58, 49, 58, 49, 58, 49, 58, 49]⟩) ∧ Below W.heap.size W w') := Lib.hid k6t2_tp
  have T3 : Hid (∀ W, Hw W → Calls Tryd.prog 12 #[.agg #[.int .u8 0, .int .u8 1, .int .u8 0, .int .u8 0, .int .u8 0, .int .u8 1, .int .u8 0, .int .u8 1, .int .u8 0, .int .u8 1, .int .u8 0, .int .u8 1, .int .u8 0, .int .u8 1, .int .u8 0, .int .u8 1]] W fun e w' => e = .returned (.string ⟨#[49, 58, 48, 58, 49, 58, 49, 58, 49, 58, 49, 58, 49, 58, 49]⟩) ∧ Below W.heap.size W w') := Lib.hid k6t3_tp
  have P1 := Lib.hid k6a_p
  have P2 := Lib.hid k6b_p
  have P3 := Lib.hid k4a_p
  have P4 := Lib.hid k4b_p
  have P5 := Lib.hid kn4_p
  have P6 := Lib.hid kn4b_p
  have P7 := Lib.hid knw_p
  have hqn : ∀ W, (binOp .eql 32 (.agg (Nn.mk [10, 0, 0, 0] 8).vals.toArray) (.agg #[.int .u8 10, .int .u8 0, .int .u8 0, .int .u8 0, .int .i64 8])).run Tryd.prog W = .ok (.bool true) W := fun W => eqN4 ⟨[10, 0, 0, 0], 8⟩ ⟨[10, 0, 0, 0], 8⟩ rfl rfl W
  have M0 : Hid (∀ W, Vc W → Calls Tryd.prog 18 #[.agg (Nn.mk [0, 100, 255, 155, 0, 0, 0, 0, 0, 0, 0, 0, 0, 0, 0, 0] 96).vals.toArray, .agg #[.int .u8 10, .int .u8 1, .int .u8 2, .int .u8 3]] W fun e w' => e = .returned (.bool false) ∧ Below W.heap.size W w') := Lib.hid km0_p
  have M1 : Hid (∀ W, Vc W → Calls Tryd.prog 18 #[.agg (Nn.mk [0, 100, 255, 155, 0, 0, 0, 0, 0, 0, 0, 0, 0, 0, 0, 0] 96).vals.toArray, .agg #[.int .u8 192, .int .u8 0, .int .u8 2, .int .u8 1]] W fun e w' => e = .returned (.bool true) ∧ Below W.heap.size W w') := Lib.hid km1_p
  have M2 : Hid (∀ W, Vc W → Calls Tryd.prog 18 #[.agg #[.int .u8 0, .int .u8 0, .int .u8 0, .int .u8 0, .int .u8 0, .int .u8 0, .int .u8 0, .int .u8 0, .int .u8 0, .int .u8 0, .int .u8 0, .int .u8 0, .int .u8 0, .int .u8 0, .int .u8 0, .int .u8 0, .int .i64 32], .agg #[.int .u8 10, .int .u8 1, .int .u8 2, .int .u8 3]] W fun e w' => e = .returned (.bool true) ∧ Below W.heap.size W w') := Lib.hid km2_p
  have M3 : Hid (∀ W, Vc W → Calls Tryd.prog 18 #[.agg #[.int .u8 0, .int .u8 0, .int .u8 0, .int .u8 0, .int .u8 0, .int .u8 0, .int .u8 0, .int .u8 0, .int .u8 0, .int .u8 0, .int .u8 0, .int .u8 0, .int .u8 0, .int .u8 0, .int .u8 0, .int .u8 0, .int .i64 32], .agg #[.int .u8 127, .int .u8 1, .int .u8 2, .int .u8 3]] W fun e w' => e = .returned (.bool false) ∧ Below W.heap.size W w') := Lib.hid km3_p
  have HI_VZ6 : Hid ((Tryd.prog.info? 24).map (·.size) = some (bu [0, 0, 0, 0, 0, 0, 0, 0, 0, 0, 0, 0, 0, 0, 0, 0]).length) := Lib.hid (Tryd.infoU6 _ rfl)
  have HO_VZ6 : Hid ((bu [0, 0, 0, 0, 0, 0, 0, 0, 0, 0, 0, 0, 0, 0, 0, 0]).toArray.all (·.oneCell') = true) := Lib.hid (bu_one _)
  have HL_VZ6 : Hid ((bu [0, 0, 0, 0, 0, 0, 0, 0, 0, 0, 0, 0, 0, 0, 0, 0]).length = 16) := Lib.hid (rfl)
  have HI_VZ4 : Hid ((Tryd.prog.info? 28).map (·.size) = some (bu [0, 0, 0, 0]).length) := Lib.hid (Tryd.infoU4 _ rfl)
  have HO_VZ4 : Hid ((bu [0, 0, 0, 0]).toArray.all (·.oneCell') = true) := Lib.hid (bu_one _)
  have HL_VZ4 : Hid ((bu [0, 0, 0, 0]).length = 4) := Lib.hid (rfl)
  have HI_VN : Hid ((Tryd.prog.info? 32).map (·.size) = some ((Nn.mk [10, 0, 0, 0] 8).vals).length) := Lib.hid (Tryd.infoNn4 _ rfl)
  have HO_VN : Hid (((Nn.mk [10, 0, 0, 0] 8).vals).toArray.all (·.oneCell') = true) := Lib.hid (nn_one _)
  have HL_VN : Hid (((Nn.mk [10, 0, 0, 0] 8).vals).length = 5) := Lib.hid (rfl)
  have HI_VM : Hid ((Tryd.prog.info? 32).map (·.size) = some ((Nn.mk [0, 0, 0, 0] 0).vals).length) := Lib.hid (Tryd.infoNn4 _ rfl)
  have HO_VM : Hid (((Nn.mk [0, 0, 0, 0] 0).vals).toArray.all (·.oneCell') = true) := Lib.hid (nn_one _)
  have HL_VM : Hid (((Nn.mk [0, 0, 0, 0] 0).vals).length = 5) := Lib.hid (rfl)
  have HI_VK : Hid ((Tryd.prog.info? 36).map (·.size) = some ((Nn.mk [0, 100, 255, 155, 0, 0, 0, 0, 0, 0, 0, 0, 0, 0, 0, 0] 96).vals).length) := Lib.hid (Tryd.infoNn6 _ rfl)
  have HO_VK : Hid (((Nn.mk [0, 100, 255, 155, 0, 0, 0, 0, 0, 0, 0, 0, 0, 0, 0, 0] 96).vals).toArray.all (·.oneCell') = true) := Lib.hid (nn_one _)
  have HL_VK : Hid (((Nn.mk [0, 100, 255, 155, 0, 0, 0, 0, 0, 0, 0, 0, 0, 0, 0, 0] 96).vals).length = 17) := Lib.hid (rfl)
  generalize bu [0, 0, 0, 0, 0, 0, 0, 0, 0, 0, 0, 0, 0, 0, 0, 0] = VZ6 at *
  generalize bu [0, 0, 0, 0] = VZ4 at *
  generalize (Nn.mk [10, 0, 0, 0] 8).vals = VN at *
  generalize (Nn.mk [0, 0, 0, 0] 0).vals = VM at *
  generalize (Nn.mk [0, 100, 255, 155, 0, 0, 0, 0, 0, 0, 0, 0, 0, 0, 0, 0] 96).vals = VK at *
  have HK0 := Lib.hid (Kp.start w)
  clear h0 hv
  go_enter Tryd.func3, Tryd.ntmps3
  go_wp2_with (fail)
  refine (T0.out _ (HW.out.below HK0.out.2.1)).mono ?_
  rintro e w1 ⟨rfl, bb⟩
  have HK1 := Lib.hid (HK0.out.below bb (Nat.le_refl _))
  clear bb HK0
  go_wp2_with (fail)
  refine (T1.out _ (HW.out.below HK1.out.2.1)).mono ?_
  rintro e w2 ⟨rfl, bb⟩
  have HK2 := Lib.hid (HK1.out.below bb (Nat.le_refl _))
  clear bb HK1
  go_wp2_with (fail)
  refine (T2.out _ (HW.out.below HK2.out.2.1)).mono ?_
  rintro e w3 ⟨rfl, bb⟩
  have HK3 := Lib.hid (HK2.out.below bb (Nat.le_refl _))
  clear bb HK2
  go_wp2_with (fail)
  refine (T3.out _ (HW.out.below HK3.out.2.1)).mono ?_
  rintro e w4 ⟨rfl, bb⟩
  have HK4 := Lib.hid (HK3.out.below bb (Nat.le_refl _))
  clear bb HK3
  go_upto_region 6 with (fail)
  go_wp2_with (fail)
  refine (P1.out _ (HW.out.below HK4.out.2.1)).mono ?_
  rintro e w5 ⟨rfl, bb⟩
  have HK5 := Lib.hid (HK4.out.below bb (Nat.le_refl _))
  clear bb HK4
  have ht := (bk_new w5 24 ([.int .u8 0, .int .u8 0, .int .u8 0, .int .u8 0, .int .u8 0, .int .u8 0, .int .u8 0, .int .u8 0, .int .u8 0, .int .u8 0, .int .u8 0, .int .u8 0, .int .u8 0, .int .u8 0, .int .u8 0, .int .u8 0] : List Value).toArray).there VZ6.toArray.size (by have := HL_VZ6.out; simp; omega)
  go_upto_region 7 with ((refine wpList_store_mid rfl 24 _ _ rfl w5.heap.size 0 VZ6.toArray rfl rfl ht (by simpa using HI_VZ6.out) HO_VZ6.out ?_))
  have HK6 := Lib.hid (HK5.out.put 24 ([.int .u8 0, .int .u8 0, .int .u8 0, .int .u8 0, .int .u8 0, .int .u8 0, .int .u8 0, .int .u8 0, .int .u8 0, .int .u8 0, .int .u8 0, .int .u8 0, .int .u8 0, .int .u8 0, .int .u8 0, .int .u8 0] : List Value).toArray VZ6 (by have := HL_VZ6.out; simp; omega))
  clear ht HK5
  generalize (w5.alloc (.cells ([.int .u8 0, .int .u8 0, .int .u8 0, .int .u8 0, .int .u8 0, .int .u8 0, .int .u8 0, .int .u8 0, .int .u8 0, .int .u8 0, .int .u8 0, .int .u8 0, .int .u8 0, .int .u8 0, .int .u8 0, .int .u8 0] : List Value).toArray 24)).setCells w5.heap.size 0 VZ6 = w6 at *
  generalize w5.heap.size = g1 at *
  go_wp2_with (fail)
  refine (P2.out _ (HW.out.below HK6.out.2.1)).mono ?_
  rintro e w7 ⟨rfl, bb⟩
  have HK7 := Lib.hid (HK6.out.below bb (Nat.le_refl _))
  clear bb HK6
  have ht := (bk_new w7 24 ([.int .u8 0, .int .u8 0, .int .u8 0, .int .u8 0, .int .u8 0, .int .u8 0, .int .u8 0, .int .u8 0, .int .u8 0, .int .u8 0, .int .u8 0, .int .u8 0, .int .u8 0, .int .u8 0, .int .u8 0, .int .u8 0] : List Value).toArray).there VZ6.toArray.size (by have := HL_VZ6.out; simp; omega)
  go_upto_region 8 with ((refine wpList_store_mid rfl 24 _ _ rfl w7.heap.size 0 VZ6.toArray rfl rfl ht (by simpa using HI_VZ6.out) HO_VZ6.out ?_))
  have HK8 := Lib.hid (HK7.out.put 24 ([.int .u8 0, .int .u8 0, .int .u8 0, .int .u8 0, .int .u8 0, .int .u8 0, .int .u8 0, .int .u8 0, .int .u8 0, .int .u8 0, .int .u8 0, .int .u8 0, .int .u8 0, .int .u8 0, .int .u8 0, .int .u8 0] : List Value).toArray VZ6 (by have := HL_VZ6.out; simp; omega))
  clear ht HK7
  generalize (w7.alloc (.cells ([.int .u8 0, .int .u8 0, .int .u8 0, .int .u8 0, .int .u8 0, .int .u8 0, .int .u8 0, .int .u8 0, .int .u8 0, .int .u8 0, .int .u8 0, .int .u8 0, .int .u8 0, .int .u8 0, .int .u8 0, .int .u8 0] : List Value).toArray 24)).setCells w7.heap.size 0 VZ6 = w8 at *
  generalize w7.heap.size = g2 at *
  go_wp2_with (fail)
  refine (P3.out _).mono ?_
  rintro e w9 ⟨rfl, bb⟩
  have HK9 := Lib.hid (HK8.out.below bb (Nat.le_refl _))
  clear bb HK8
  have ht := (bk_new w9 28 ([.int .u8 0, .int .u8 0, .int .u8 0, .int .u8 0] : List Value).toArray).there VZ4.toArray.size (by have := HL_VZ4.out; simp; omega)
  go_upto_region 9 with ((refine wpList_store_mid rfl 28 _ _ rfl w9.heap.size 0 VZ4.toArray rfl rfl ht (by simpa using HI_VZ4.out) HO_VZ4.out ?_))
  have HK10 := Lib.hid (HK9.out.put 28 ([.int .u8 0, .int .u8 0, .int .u8 0, .int .u8 0] : List Value).toArray VZ4 (by have := HL_VZ4.out; simp; omega))
  clear ht HK9
  generalize (w9.alloc (.cells ([.int .u8 0, .int .u8 0, .int .u8 0, .int .u8 0] : List Value).toArray 28)).setCells w9.heap.size 0 VZ4 = w10 at *
  generalize w9.heap.size = g3 at *
  go_wp2_with (fail)
  refine (P4.out _).mono ?_
  rintro e w11 ⟨rfl, bb⟩
  have HK11 := Lib.hid (HK10.out.below bb (Nat.le_refl _))
  clear bb HK10
  have ht := (bk_new w11 28 ([.int .u8 0, .int .u8 0, .int .u8 0, .int .u8 0] : List Value).toArray).there VZ4.toArray.size (by have := HL_VZ4.out; simp; omega)
  go_upto_region 10 with ((refine wpList_store_mid rfl 28 _ _ rfl w11.heap.size 0 VZ4.toArray rfl rfl ht (by simpa using HI_VZ4.out) HO_VZ4.out ?_))
  have HK12 := Lib.hid (HK11.out.put 28 ([.int .u8 0, .int .u8 0, .int .u8 0, .int .u8 0] : List Value).toArray VZ4 (by have := HL_VZ4.out; simp; omega))
  clear ht HK11
  generalize (w11.alloc (.cells ([.int .u8 0, .int .u8 0, .int .u8 0, .int .u8 0] : List Value).toArray 28)).setCells w11.heap.size 0 VZ4 = w12 at *
  generalize w11.heap.size = g4 at *
  go_wp2_with (fail)
  refine (P5.out _ (HW.out.below HK12.out.2.1)).mono ?_
  rintro e w13 ⟨rfl, bb⟩
  have HK13 := Lib.hid (HK12.out.below bb (Nat.le_refl _))
  clear bb HK12
  have ht := (bk_new w13 32 ([.int .u8 0, .int .u8 0, .int .u8 0, .int .u8 0, .int .i64 0] : List Value).toArray).there VN.toArray.size (by have := HL_VN.out; simp; omega)
  go_upto_region 11 with ((refine wpList_store_mid rfl 32 _ _ rfl w13.heap.size 0 VN.toArray rfl rfl ht (by simpa using HI_VN.out) HO_VN.out ?_))
  have HK14 := Lib.hid (HK13.out.put 32 ([.int .u8 0, .int .u8 0, .int .u8 0, .int .u8 0, .int .i64 0] : List Value).toArray VN (by have := HL_VN.out; simp; omega))
  clear ht HK13
  generalize (w13.alloc (.cells ([.int .u8 0, .int .u8 0, .int .u8 0, .int .u8 0, .int .i64 0] : List Value).toArray 32)).setCells w13.heap.size 0 VN = w14 at *
  generalize w13.heap.size = g5 at *
  go_wp2_with (fail)
  refine (P6.out _ (HW.out.below HK14.out.2.1)).mono ?_
  rintro e w15 ⟨rfl, bb⟩
  have HK15 := Lib.hid (HK14.out.below bb (Nat.le_refl _))
  clear bb HK14
  have ht := (bk_new w15 32 ([.int .u8 0, .int .u8 0, .int .u8 0, .int .u8 0, .int .i64 0] : List Value).toArray).there VM.toArray.size (by have := HL_VM.out; simp; omega)
  go_upto_region 12 with ((refine wpList_store_mid rfl 32 _ _ rfl w15.heap.size 0 VM.toArray rfl rfl ht (by simpa using HI_VM.out) HO_VM.out ?_))
  have HK16 := Lib.hid (HK15.out.put 32 ([.int .u8 0, .int .u8 0, .int .u8 0, .int .u8 0, .int .i64 0] : List Value).toArray VM (by have := HL_VM.out; simp; omega))
  clear ht HK15
  generalize (w15.alloc (.cells ([.int .u8 0, .int .u8 0, .int .u8 0, .int .u8 0, .int .i64 0] : List Value).toArray 32)).setCells w15.heap.size 0 VM = w16 at *
  generalize w15.heap.size = g6 at *
  go_wp2_with (fail)
  refine (P7.out _ (HW.out.below HK16.out.2.1)).mono ?_
  rintro e w17 ⟨rfl, bb⟩
  have HK17 := Lib.hid (HK16.out.below bb (Nat.le_refl _))
  clear bb HK16
  have ht := (bk_new w17 36 ([.int .u8 0, .int .u8 0, .int .u8 0, .int .u8 0, .int .u8 0, .int .u8 0, .int .u8 0, .int .u8 0, .int .u8 0, .int .u8 0, .int .u8 0, .int .u8 0, .int .u8 0, .int .u8 0, .int .u8 0, .int .u8 0, .int .i64 0] : List Value).toArray).there VK.toArray.size (by have := HL_VK.out; simp; omega)
  go_upto_region 13 with ((refine wpList_store_mid rfl 36 _ _ rfl w17.heap.size 0 VK.toArray rfl rfl ht (by simpa using HI_VK.out) HO_VK.out ?_))
  have HK18 := Lib.hid (HK17.out.put 36 ([.int .u8 0, .int .u8 0, .int .u8 0, .int .u8 0, .int .u8 0, .int .u8 0, .int .u8 0, .int .u8 0, .int .u8 0, .int .u8 0, .int .u8 0, .int .u8 0, .int .u8 0, .int .u8 0, .int .u8 0, .int .u8 0, .int .i64 0] : List Value).toArray VK (by have := HL_VK.out; simp; omega))
  clear ht HK17
  generalize (w17.alloc (.cells ([.int .u8 0, .int .u8 0, .int .u8 0, .int .u8 0, .int .u8 0, .int .u8 0, .int .u8 0, .int .u8 0, .int .u8 0, .int .u8 0, .int .u8 0, .int .u8 0, .int .u8 0, .int .u8 0, .int .u8 0, .int .u8 0, .int .i64 0] : List Value).toArray 36)).setCells w17.heap.size 0 VK = w18 at *
  generalize w17.heap.size = g7 at *
  go_wp2_with (fail)
  refine (CA.out _ (HW.out.below HK18.out.2.1)).mono ?_
  rintro e w19 ⟨rfl, bb⟩
  have HK19 := Lib.hid (HK18.out.below bb (Nat.le_refl _))
  clear bb HK18
  have hr0 := HK19.out.tl.tl.hd.range
  have hr1 := HK19.out.hd.range
  go_wp2_with (first | (refine wpList_load_if (by rfl) 32 _ rfl (g5) 0 rfl VN _ hr0 Tryd.underlying32 rfl HI_VN.out ?_) | (refine wpList_load_if (by rfl) 36 _ rfl (g7) 0 rfl VK _ hr1 Tryd.underlying36 rfl HI_VK.out ?_))
  clear hr0 hr1
  refine (M0.out _ (HV.out.below HK19.out.2.1)).mono ?_
  rintro e w20 ⟨rfl, bb⟩
  have HK20 := Lib.hid (HK19.out.below bb (Nat.le_refl _))
  clear bb HK19
  have hr0 := HK20.out.hd.range
  go_wp2_with ((refine wpList_load_if (by rfl) 36 _ rfl (g7) 0 rfl VK _ hr0 Tryd.underlying36 rfl HI_VK.out ?_))
  clear hr0
  refine (M1.out _ (HV.out.below HK20.out.2.1)).mono ?_
  rintro e w21 ⟨rfl, bb⟩
  have HK21 := Lib.hid (HK20.out.below bb (Nat.le_refl _))
  clear bb HK20
  go_wp2_with (fail)
  refine (M2.out _ (HV.out.below HK21.out.2.1)).mono ?_
  rintro e w22 ⟨rfl, bb⟩
  have HK22 := Lib.hid (HK21.out.below bb (Nat.le_refl _))
  clear bb HK21
  go_wp2_with (fail)
  refine (M3.out _ (HV.out.below HK22.out.2.1)).mono ?_
  rintro e w23 ⟨rfl, bb⟩
  have HK23 := Lib.hid (HK22.out.below bb (Nat.le_refl _))
  clear bb HK22
  go_wp2_with fail
  go_ret
  exact ⟨rfl, HK23.out.2.1⟩
end Go.Proofs.YtkkgcmfcfacakaaDoor
