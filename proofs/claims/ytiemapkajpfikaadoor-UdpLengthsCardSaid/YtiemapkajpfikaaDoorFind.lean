/-
  Proved here: what errors.As answers at the target '**num.Fault' (the whole function), and, out of that, num.find, num.Code, num.Only: at nil, at a fault, at an error of errors.New, and at these wrapped once.
  Conditions: errors.errorType holds its type handle.
-/
import Derived.Test.YtiemapkajpfikaaDoorAs
import Derived.RegionTactic
import Derived.Defers
import Derived.Recover
namespace Go.Proofs.YtiemapkajpfikaaDoor
open Go.RowKit Go.Extern.Stop Go.Stop Go.Extern

/-- The variable errors.errorType holds its handle. -/
def Held (w : World) : Prop := w.cell? ⟨0, 0, none⟩ = some (.iface 77 (.agg #[.pointer (some ⟨1, 26, none⟩)]))
theorem Held.lt {w : World} (h : Held w) : 0 < w.heap.size := lt_of_cell (t := ⟨0, 0, none⟩) h
theorem Held.below {w w' : World} {B : Nat} (h : Held w) (hb : Below B w w') (hB : 0 < B) : Held w' := (hb.cell (p := ⟨0, 0, none⟩) hB).trans h

def Gives (b : Bool) (t : Addr) (p : Option Addr) (w w' : World) : Prop := ∃ w1, Below w.heap.size w w1 ∧ w' = if b then w1.setCell t (.pointer p) else w1

/-- errors.As of x, at a target: answers b, and lays p if so. -/
def AsGives (x : Value) (b : Bool) (p : Option Addr) : Prop :=
  ∀ (t : Addr) (old : Value) (w : World), Held w → w.cell? t = some old → w.frozen? t = false →
    Calls Tryd.prog 20 #[x, .iface 53 (.pointer (some t))] w fun e w' => e = .returned (.bool b) ∧ Gives b t p w w'

theorem asGives_nil : AsGives .nilIface false none := fun t _ w _ _ _ =>
  (as_nil (.iface 53 (.pointer (some t))) w).mono fun _ _ ⟨he, hw⟩ => ⟨he, w, Below.refl _ _, hw⟩

def As2Gives (T : TypeId) (v : Value) (b : Bool) (p : Option Addr) : Prop :=
  ∀ (a t : Addr) (old : Value) (w : World), w.cell? a = some (.pointer (some t)) → w.cell? t = some old → w.frozen? t = false →
    Calls Tryd.prog 29 #[.iface T v, .iface 53 (.pointer (some t)), .agg #[.pointer (some ⟨1, 53, none⟩), .pointer (some a), .int .u64 150], .iface 77 (.agg #[.pointer (some ⟨1, 38, none⟩)])] w fun e w' => e = .returned (.bool b) ∧ Gives b t p w w'

set_option maxHeartbeats 1000000 in
theorem asGives_of {T : TypeId} {v : Value} {b : Bool} {p : Option Addr} (h2 : As2Gives T v b p) : AsGives (.iface T v) b p := by
  intro t old w hg0 ht0 hf0
  have hval := @run_callFunc_extern Tryd.prog 26 _ (fun args => ReflectliteValue.unpack (args.getD 0 (.tuple #[]))) Tryd.func26 (by kernel_rfl) (by kernel_rfl) (by kernel_rfl) (by kernel_rfl)
  have htype := @run_callFunc_extern Tryd.prog 27 _ (ReflectliteValue.methodAny (ReflectliteValue.valueError "reflectlite.Value.Type" 0) (fun t _ _ _ => ReflectliteType.toType t)) Tryd.func27 (by kernel_rfl) (by kernel_rfl) (by kernel_rfl) (by kernel_rfl)
  have hnil := @run_callFunc_extern Tryd.prog 28 _ (ReflectliteValue.method (ReflectliteValue.valueError "reflectlite.Value.IsNil" 0) ReflectliteValue.isNil) Tryd.func28 (by kernel_rfl) (by kernel_rfl) (by kernel_rfl) (by kernel_rfl)
  have hkind := @run_callFunc_extern Tryd.prog 51 _ (ReflectliteType.abiMethod fun t => do pure (.int .u8 (← Rtype.kind t))) Tryd.func51 (by kernel_rfl) (by kernel_rfl) (by kernel_rfl) (by kernel_rfl)
  have hel := @run_callFunc_extern Tryd.prog 62 _ (ReflectliteType.method ReflectliteType.elem) Tryd.func62 (by kernel_rfl) (by kernel_rfl) (by kernel_rfl) (by kernel_rfl)
  have himp := @run_callFunc_extern Tryd.prog 63 _ (ReflectliteType.relation "Implements" ReflectliteType.implements_) Tryd.func63 (by kernel_rfl) (by kernel_rfl) (by kernel_rfl) (by kernel_rfl)
  have f6 := Tryd.valueOfFF
  have f7 := Tryd.typeFF
  have k1 := Tryd.kindFF
  have k2 := Tryd.kindF
  have e1 := Tryd.elemFF
  have i1 := Tryd.implementsF
  have hlt := hg0.lt
  have htl := lt_of_cell ht0
  have n8 := Tryd.isNilFF ⟨w.heap.size, 0, none⟩ t ((w.alloc (.cells #[.pointer (some t)] 53)).alloc (.cells #[.pointer (some ⟨1, 53, none⟩), .pointer (some ⟨w.heap.size, 0, none⟩), .int .u64 150] 64)) (by simp)
  have hg2 : ((w.alloc (.cells #[.pointer (some t)] 53)).alloc (.cells #[.pointer (some ⟨1, 53, none⟩), .pointer (some ⟨w.heap.size, 0, none⟩), .int .u64 150] 64)).cell? ⟨0, 0, none⟩ = some (.iface 77 (.agg #[.pointer (some ⟨1, 26, none⟩)])) := by
    rw [World.cell?_alloc_lt _ _ ⟨0, 0, none⟩ (by simp), World.cell?_alloc_lt _ _ ⟨0, 0, none⟩ hlt]; exact hg0
  have H2 := Lib.hid h2
  clear h2
  have HT := Lib.hid ht0
  clear ht0
  have HF := Lib.hid hf0
  clear hf0
  go_enter Tryd.func20, Tryd.ntmps20
  go_wp2_with fail
  refine (H2.out ⟨w.heap.size, 0, none⟩ t old _ (by simp) ?_ ?_).mono ?_
  · rw [World.cell?_alloc_lt _ _ t (by simp; omega), World.cell?_alloc_lt _ _ t htl]; exact HT.out
  · rw [World.frozen?_alloc_old _ _ t (by simp; omega), World.frozen?_alloc_old _ _ t (Nat.ne_of_lt htl)]; exact HF.out
  rintro e w' ⟨rfl, hw⟩
  go_wp2
  go_ret
  obtain ⟨w1, hb, rfl⟩ := hw
  exact ⟨rfl, w1, (((Below.refl _ _).alloc (Nat.le_refl _) _).alloc (by simp) _).trans (hb.mono (by simp; omega)), rfl⟩
end Go.Proofs.YtiemapkajpfikaaDoor
