/-
  Proved here: the law IcmpmapData answers true of what is too long.
  Conditions: none.
-/
import Derived.Test.YtnehabpdpkjaeaaDoorAwk14
import Derived.Test.YtnehabpdpkjaeaaDoorIcb
namespace Go.Proofs.YtnehabpdpkjaeaaDoor
open Go.RowKit

theorem nm_vals2 (m : Mg) (r : Int) : m.vals.set 2 (.int .u32 r) = (⟨m.kd, m.cd, r, m.da⟩ : Mg).vals := rfl
theorem nm_vals3 (m : Mg) (r : Int) (d : ByteArray) : (⟨m.kd, m.cd, r, m.da⟩ : Mg).vals.set 3 (.string d) = (⟨m.kd, m.cd, r, d⟩ : Mg).vals := rfl
theorem mg_eta (m : Mg) : (⟨m.kd, m.cd, m.rs, m.da⟩ : Mg) = m := rfl
set_option maxRecDepth 100000 in
set_option maxHeartbeats 4000000 in
theorem data_long1 (m : Mg) (r : Int) (d : ByteArray) (a b len : Int) (w : World) (hm : Hm w) (hd : (1000 : Int) < (m.da.size : Int)) : Calls Tryd.prog 10 #[.agg m.vals.toArray, .int .u32 r, .string d, .int .i64 a, .int .i64 b, .int .i64 len] w (fun e w' => e = .returned (.bool true) ∧ Below w.heap.size w w') := by
  have HMB : Hid (∀ W, Below w.heap.size w W → Hm W) := Lib.hid (fun W hW => hm.below hW)
  have HI_VM : Hid ((Tryd.prog.info? 24).map (·.size) = some m.vals.length) := Lib.hid (Tryd.infoMg _)
  have HO_VM : Hid (m.vals.toArray.all (·.oneCell') = true) := Lib.hid (mg_one _)
  have HL_VM : Hid (m.vals.length = 4) := Lib.hid rfl
  have HM0 : Hid (m.vals[0]? = some (.int .i64 m.kd)) := Lib.hid (rfl)
  have HM1 : Hid (m.vals[1]? = some (.int .i64 m.cd)) := Lib.hid (rfl)
  have HM2 : Hid (m.vals[2]? = some (.int .u32 m.rs)) := Lib.hid (rfl)
  have HM3 : Hid (m.vals[3]? = some (.string m.da)) := Lib.hid (rfl)
  have HK1 : Hid (Kp w w.heap.size [(w.heap.size, 24, m.vals)] (w.alloc (.cells m.vals.toArray 24))) := Lib.hid ((Kp.start w).new 24 m.vals)
  generalize m.vals = VM at *
  generalize hw1 : w.alloc (.cells VM.toArray 24) = w1 at *
  go_enter Tryd.func10, Tryd.ntmps10
  go_upto_region 1 with (fail)
  clear hw1
  go_wp2_with (fail)
  refine (awake14_true _ (HMB.out _ HK1.out.2.1)).mono ?_
  rintro e w2 ⟨rfl, bb⟩
  have HK2 := Lib.hid (HK1.out.below bb (Nat.le_refl _))
  clear bb HK1
  have c3 : w2.cell? ⟨w.heap.size, 3, none⟩ = some (.string m.da) := HK2.out.hd.at HM3.out
  go_wp2_with (fail)
  go_ret
  exact ⟨rfl, HK2.out.2.1⟩
set_option maxRecDepth 100000 in
set_option maxHeartbeats 4000000 in
theorem data_long2 (m : Mg) (r : Int) (d : ByteArray) (a b len : Int) (w : World) (hm : Hm w) (hd : ¬ (1000 : Int) < (m.da.size : Int)) (he : (1000 : Int) < (d.size : Int)) : Calls Tryd.prog 10 #[.agg m.vals.toArray, .int .u32 r, .string d, .int .i64 a, .int .i64 b, .int .i64 len] w (fun e w' => e = .returned (.bool true) ∧ Below w.heap.size w w') := by
  have HMB : Hid (∀ W, Below w.heap.size w W → Hm W) := Lib.hid (fun W hW => hm.below hW)
  have HI_VM : Hid ((Tryd.prog.info? 24).map (·.size) = some m.vals.length) := Lib.hid (Tryd.infoMg _)
  have HO_VM : Hid (m.vals.toArray.all (·.oneCell') = true) := Lib.hid (mg_one _)
  have HL_VM : Hid (m.vals.length = 4) := Lib.hid rfl
  have HM0 : Hid (m.vals[0]? = some (.int .i64 m.kd)) := Lib.hid (rfl)
  have HM1 : Hid (m.vals[1]? = some (.int .i64 m.cd)) := Lib.hid (rfl)
  have HM2 : Hid (m.vals[2]? = some (.int .u32 m.rs)) := Lib.hid (rfl)
  have HM3 : Hid (m.vals[3]? = some (.string m.da)) := Lib.hid (rfl)
  have HK1 : Hid (Kp w w.heap.size [(w.heap.size, 24, m.vals)] (w.alloc (.cells m.vals.toArray 24))) := Lib.hid ((Kp.start w).new 24 m.vals)
  generalize m.vals = VM at *
  generalize hw1 : w.alloc (.cells VM.toArray 24) = w1 at *
  go_enter Tryd.func10, Tryd.ntmps10
  go_upto_region 1 with (fail)
  clear hw1
  go_wp2_with (fail)
  refine (awake14_true _ (HMB.out _ HK1.out.2.1)).mono ?_
  rintro e w2 ⟨rfl, bb⟩
  have HK2 := Lib.hid (HK1.out.below bb (Nat.le_refl _))
  clear bb HK1
  have c3 : w2.cell? ⟨w.heap.size, 3, none⟩ = some (.string m.da) := HK2.out.hd.at HM3.out
  go_wp2_with (fail)
  go_ret
  exact ⟨rfl, HK2.out.2.1⟩
end Go.Proofs.YtnehabpdpkjaeaaDoor
