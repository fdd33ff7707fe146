/-
  Proved here: what the listed variable of the laws of layer 14 gives, and a world that meets it.
  Conditions: none.
-/
import Derived.Test.YtnehabpdpkjaeaaDoorHm
import Derived.Test.YtnehabpdpkjaeaaDoorOpen
import Derived.Lib.LaidTab
import Derived.ProofKit
import Derived.ChangeVars
import Derived.LaidLaws
import Derived.LaidHandle
import Derived.Stop.Joined
namespace Go.Proofs.YtnehabpdpkjaeaaDoor
open Go.ChangeShapes Go.WideShapes Go.RowKit

/-- One more listed variable. -/
def VarIs (w : World) (n : String) (d : DataW Unit) : Prop := ∃ g t cs fuel p, Tryd.prog.globalNamed n = some g ∧ (Tryd.prog.globals[g]?).map (·.type) = some t ∧ w.var? Tryd.prog n = some cs ∧ DataW.trod (fun _ => ()) Tryd.prog w 0 (fun _ => true) false fuel t cs.toList = some (d, p)
theorem laid_step {w : World} {n : String} {d : DataW Unit} {r : List (String × DataW Unit)} {ps : List MemPlace} (h : DataW.LaidVars Tryd.prog w ((n, d) :: r) ps) : VarIs w n d ∧ ∃ q, DataW.LaidVars Tryd.prog w r q := by
  obtain ⟨g, t, cs, fuel, p, q, h1, h2, h3, h4, h5, _⟩ := h
  exact ⟨⟨g, t, cs, fuel, p, h1, h2, h3, h4⟩, q, h5⟩
theorem tab_var {w : World} {name : String} {k : IntKind} {zs : List Int} {g : Nat} {t e : TypeId} {n : Nat} (hg : Tryd.prog.globalNamed name = some g) (hty : (Tryd.prog.globals[g]?).map (·.type) = some t) (ht : Tryd.prog.underlying t = some (.array n e)) (he : Tryd.prog.underlying e = some (.int k)) (hce : Tryd.prog.cellsOf e = 1) (hct : Tryd.prog.cellsOf t = n) (h : VarIs w name (Lib.tabData k zs)) : Lib.TabIs Tryd.prog w name k zs := by
  obtain ⟨g', t', cs, fuel, p, hg', ht', hvar, hd⟩ := h
  obtain rfl := Option.some.inj (hg.symm.trans hg')
  obtain rfl := Option.some.inj (hty.symm.trans ht')
  unfold Lib.TabIs
  rw [hvar, ← Lib.cells_of_tab ht he hce hct hd]
theorem var_range {w : World} {name : String} {g : Nat} {cs : Array Value} (hg : Tryd.prog.globalNamed name = some g) (h : w.var? Tryd.prog name = some cs) : w.rangeAt g 0 cs.toList := fun j v hj => by
  have h1 := World.var?_cell hg h j
  rw [Nat.zero_add, h1]
  simpa using hj
theorem hm_of {w : World} (h : laidMetH Tryd.prog [("interpreter/icmpmap.plateaus", Rows.laid_interpreter_icmpmap_plateaus)] w) : Hm w := by
  have h' : laidMet Tryd.prog [("interpreter/icmpmap.plateaus", Rows.laid_interpreter_icmpmap_plateaus)] w := h
  obtain ⟨ps, h0, _⟩ := h'
  obtain ⟨v0, _, _⟩ := laid_step h0
  obtain ⟨g', t', cs, fuel, p, hg', ht', hvar, hd⟩ := v0
  have hg : Tryd.prog.globalNamed "interpreter/icmpmap.plateaus" = some 0 := by kernel_rfl
  have hty : (Tryd.prog.globals[0]?).map (·.type) = some 39 := by kernel_rfl
  obtain rfl := Option.some.inj (hg.symm.trans hg')
  obtain rfl := Option.some.inj (hty.symm.trans ht')
  have hr := var_range hg hvar
  have hd' : DataW.trod (fun _ => ()) Tryd.prog w 0 (fun _ => true) false fuel 39 cs.toList = some (Lib.tabData .i64 plD, p) := hd
  have hc := Lib.cells_of_tab (k := .i64) (zs := plD) Tryd.underlying39 Tryd.underlying3 (by kernel_rfl) (by kernel_rfl) hd'
  rw [hc] at hr
  exact hr
/-- A world that meets the condition: the settled one, the variable laid. -/
noncomputable def laidWorld14 (os : Os) : World :=
  let w0 := World.holding Tryd.prog os ⟨#[], #[], []⟩
  { w0 with heap := w0.heap.modify 0 fun
      | .cells _ t frozen => .cells #[.int .i64 65535, .int .i64 32000, .int .i64 17914, .int .i64 8166, .int .i64 4352, .int .i64 2002, .int .i64 1492, .int .i64 1006, .int .i64 508, .int .i64 296, .int .i64 68] t frozen
      | o => o }
theorem laidWorld14_met (os : Os) (args : Array Value) : laidMetH Tryd.prog [("interpreter/icmpmap.plateaus", Rows.laid_interpreter_icmpmap_plateaus)] ((laidWorld14 os).forCall (fun _ _ => 0) ⟨#[], args, []⟩).memory :=
  laidMetH_of_parts (laidMet_of_run' 100 (by kernel_rfl) (by kernel_rfl)) (by kernel_rfl)
end Go.Proofs.YtnehabpdpkjaeaaDoor
