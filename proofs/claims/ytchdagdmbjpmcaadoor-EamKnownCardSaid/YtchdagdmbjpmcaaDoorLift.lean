/-
  Proved here: what the listed variables of the laws of layer 11 give.
  Conditions: none.
-/
import Derived.Test.YtchdagdmbjpmcaaDoorEc
import Derived.Test.YtchdagdmbjpmcaaDoorRows
import Derived.Lib.LaidTab
import Derived.ProofKit
import Derived.ChangeVars
import Derived.LaidLaws
import Derived.LaidHandle
import Derived.Stop.Joined
namespace Go.Proofs.YtchdagdmbjpmcaaDoor
open Go.ChangeShapes Go.WideShapes Go.RowKit

theorem Tryd.own : ownKnob Tryd.prog.godebug = none := by kernel_rfl
/-- One more listed variable. -/
def VarIs (w : World) (n : String) (d : DataW Unit) : Prop := ∃ g t cs fuel p, Tryd.prog.globalNamed n = some g ∧ (Tryd.prog.globals[g]?).map (·.type) = some t ∧ w.var? Tryd.prog n = some cs ∧ DataW.trod (fun _ => ()) Tryd.prog w 0 (fun _ => true) false fuel t cs.toList = some (d, p)
theorem laid_step {w : World} {n : String} {d : DataW Unit} {r : List (String × DataW Unit)} {ps : List MemPlace} (h : DataW.LaidVars Tryd.prog w ((n, d) :: r) ps) : VarIs w n d ∧ ∃ q, DataW.LaidVars Tryd.prog w r q := by
  obtain ⟨g, t, cs, fuel, p, q, h1, h2, h3, h4, h5, _⟩ := h
  exact ⟨⟨g, t, cs, fuel, p, h1, h2, h3, h4⟩, q, h5⟩
theorem tab_var {w : World} {name : String} {k : IntKind} {zs : List Int} {g : Nat} {t e : TypeId} {n : Nat} (hg : Tryd.prog.globalNamed name = some g) (hty : (Tryd.prog.globals[g]?).map (·.type) = some t) (ht : Tryd.prog.underlying t = some (.array n e)) (he : Tryd.prog.underlying e = some (.int k)) (hce : Tryd.prog.cellsOf e = 1) (hct : Tryd.prog.cellsOf t = n) (h : VarIs w name (Lib.tabData k zs)) : Lib.TabIs Tryd.prog w name k zs := by
  obtain ⟨g', t', cs, fuel, p, hg', ht', hvar, hd⟩ := h
  obtain rfl := Option.some.inj (hg.symm.trans hg')
  obtain rfl := Option.some.inj (hty.symm.trans ht')
  unfold Lib.TabIs
  rw [hvar, ← Lib.cells_of_tab ht he hce hct hd]
theorem Tryd.cU8 : Tryd.prog.cellsOf 5 = 1 := by kernel_rfl
theorem Tryd.cInt : Tryd.prog.cellsOf 3 = 1 := by kernel_rfl
/-- A prefix as data. -/
def netD (p : Nn) : DataW Unit := .agg [Lib.tabData .u8 (iu p.ad), .lit (.int .i64 p.ln)]
theorem Tryd.cV4 : Tryd.prog.cellsOf 36 = 4 := by kernel_rfl
theorem Tryd.cN4 : Tryd.prog.cellsOf 102 = 5 := by kernel_rfl
theorem net_cells4 {w : World} {fuel : Nat} {cs : List Value} {p : Nn} {q : List MemPlace} (h : DataW.trod (fun _ => ()) Tryd.prog w 0 (fun _ => true) false fuel 102 cs = some (netD p, q)) : cs = p.vals := by
  obtain ⟨xs, n, _, hx, hl, hlen, hg⟩ := DataW.trod_struct Tryd.underlying102 h
  rw [Tryd.cN4] at hl
  have hlen' : xs.length = 2 := hlen
  have f0 : DataW.trod (fun _ => ()) Tryd.prog w 0 (fun _ => true) false n 36 ((cs.drop 0).take (Tryd.prog.cellsOf 36)) = xs[0]? := hg 0 _ rfl
  have f1 : DataW.trod (fun _ => ()) Tryd.prog w 0 (fun _ => true) false n 3 ((cs.drop 4).take (Tryd.prog.cellsOf 3)) = xs[1]? := hg 1 _ rfl
  rw [Tryd.cV4, List.drop_zero] at f0
  rw [Tryd.cInt] at f1
  obtain ⟨a, b, rfl⟩ : ∃ a b, xs = [a, b] := by
    match xs, hlen' with
    | [a, b], _ => exact ⟨a, b, rfl⟩
  have hd : netD p = .agg [a.1, b.1] := congrArg Prod.fst hx
  unfold netD at hd
  have hd2 : [Lib.tabData .u8 (iu p.ad), DataW.lit (.int .i64 p.ln)] = [a.1, b.1] := by injection hd
  have ha : a.1 = Lib.tabData .u8 (iu p.ad) := (List.cons.inj hd2).1.symm
  have hb : b.1 = DataW.lit (.int .i64 p.ln) := (List.cons.inj (List.cons.inj hd2).2).1.symm
  obtain ⟨a1, a2⟩ := a
  obtain ⟨b1, b2⟩ := b
  dsimp only at ha hb
  subst ha hb
  have g0 := Lib.cells_of_tab Tryd.underlying36 Tryd.underlying5 Tryd.cU8 Tryd.cV4 f0
  obtain ⟨z, g1, g2, _⟩ := DataW.trod_int Tryd.underlying3 f1
  have hz : z = p.ln := by
    have := congrArg Prod.fst g2
    injection this with this
    injection this with _ this
    exact this.symm
  rw [hz] at g1
  have hdr : cs.drop 4 = [.int .i64 p.ln] := by
    rw [← g1]
    exact (List.take_of_length_le (by rw [List.length_drop, hl]; decide)).symm
  have hc : cs = cs.take 4 ++ cs.drop 4 := (List.take_append_drop _ _).symm
  rw [hc, g0, hdr]
  unfold Nn.vals
  rw [bu_b8]
  rfl
theorem nets_cells4 {w : World} {fuel cnt : Nat} {T : TypeId} {cs : List Value} {l : List Nn} {q : List MemPlace} (hT : Tryd.prog.underlying T = some (.array cnt 102)) (hc : Tryd.prog.cellsOf T = cnt * 5) (hcl : l.length = cnt) (h : DataW.trod (fun _ => ()) Tryd.prog w 0 (fun _ => true) false fuel T cs = some (.agg (l.map netD), q)) : cs = flatN l := by
  obtain ⟨xs, m, _, hx, hl, hlen, hall⟩ := DataW.trod_array hT h
  rw [hc] at hl
  have hd : l.map netD = xs.map (·.1) := by
    have := congrArg Prod.fst hx
    injection this
  have key : ∀ i (hi : i < l.length), (cs.drop (i * 5)).take 5 = (l[i]).vals := by
    intro i hi
    have h1 := hall i (by omega)
    rw [Tryd.cN4] at h1
    have hxi : i < xs.length := by omega
    rw [List.getElem?_eq_getElem hxi] at h1
    have h2 : netD l[i] = (xs[i]).1 := by
      have h3 : (l.map netD)[i]? = (xs.map (·.1))[i]? := by rw [hd]
      rw [List.getElem?_map, List.getElem?_map, List.getElem?_eq_getElem hi, List.getElem?_eq_getElem hxi] at h3
      exact Option.some.inj h3
    have h4 : xs[i] = (netD l[i], (xs[i]).2) := by rw [h2]
    rw [h4] at h1
    exact net_cells4 h1
  have hlen2 : cs.length = l.length * 5 := by rw [hl, hcl]
  clear hall hd hx hlen hl hcl h hc hT
  induction l generalizing cs with
  | nil =>
    have : cs.length = 0 := by simpa using hlen2
    rw [List.length_eq_zero_iff.mp this]
    rfl
  | cons p r ih =>
    have h0 := key 0 (by simp)
    rw [Nat.zero_mul, List.drop_zero] at h0
    have h1 := ih (cs := cs.drop 5) (fun i hi => by
      have h2 := key (i + 1) (by simp; omega)
      rw [Nat.succ_mul] at h2
      rw [List.drop_drop, Nat.add_comm]
      exact h2) (by rw [List.length_drop, hlen2, List.length_cons]; omega)
    rw [← List.take_append_drop 5 cs, h0, h1]
    rfl
theorem Tryd.cV6 : Tryd.prog.cellsOf 23 = 16 := by kernel_rfl
theorem Tryd.cN6 : Tryd.prog.cellsOf 106 = 17 := by kernel_rfl
theorem net_cells6 {w : World} {fuel : Nat} {cs : List Value} {p : Nn} {q : List MemPlace} (h : DataW.trod (fun _ => ()) Tryd.prog w 0 (fun _ => true) false fuel 106 cs = some (netD p, q)) : cs = p.vals := by
  obtain ⟨xs, n, _, hx, hl, hlen, hg⟩ := DataW.trod_struct Tryd.underlying106 h
  rw [Tryd.cN6] at hl
  have hlen' : xs.length = 2 := hlen
  have f0 : DataW.trod (fun _ => ()) Tryd.prog w 0 (fun _ => true) false n 23 ((cs.drop 0).take (Tryd.prog.cellsOf 23)) = xs[0]? := hg 0 _ rfl
  have f1 : DataW.trod (fun _ => ()) Tryd.prog w 0 (fun _ => true) false n 3 ((cs.drop 16).take (Tryd.prog.cellsOf 3)) = xs[1]? := hg 1 _ rfl
  rw [Tryd.cV6, List.drop_zero] at f0
  rw [Tryd.cInt] at f1
  obtain ⟨a, b, rfl⟩ : ∃ a b, xs = [a, b] := by
    match xs, hlen' with
    | [a, b], _ => exact ⟨a, b, rfl⟩
  have hd : netD p = .agg [a.1, b.1] := congrArg Prod.fst hx
  unfold netD at hd
  have hd2 : [Lib.tabData .u8 (iu p.ad), DataW.lit (.int .i64 p.ln)] = [a.1, b.1] := by injection hd
  have ha : a.1 = Lib.tabData .u8 (iu p.ad) := (List.cons.inj hd2).1.symm
  have hb : b.1 = DataW.lit (.int .i64 p.ln) := (List.cons.inj (List.cons.inj hd2).2).1.symm
  obtain ⟨a1, a2⟩ := a
  obtain ⟨b1, b2⟩ := b
  dsimp only at ha hb
  subst ha hb
  have g0 := Lib.cells_of_tab Tryd.underlying23 Tryd.underlying5 Tryd.cU8 Tryd.cV6 f0
  obtain ⟨z, g1, g2, _⟩ := DataW.trod_int Tryd.underlying3 f1
  have hz : z = p.ln := by
    have := congrArg Prod.fst g2
    injection this with this
    injection this with _ this
    exact this.symm
  rw [hz] at g1
  have hdr : cs.drop 16 = [.int .i64 p.ln] := by
    rw [← g1]
    exact (List.take_of_length_le (by rw [List.length_drop, hl]; decide)).symm
  have hc : cs = cs.take 16 ++ cs.drop 16 := (List.take_append_drop _ _).symm
  rw [hc, g0, hdr]
  unfold Nn.vals
  rw [bu_b8]
  rfl
theorem nets_cells6 {w : World} {fuel cnt : Nat} {T : TypeId} {cs : List Value} {l : List Nn} {q : List MemPlace} (hT : Tryd.prog.underlying T = some (.array cnt 106)) (hc : Tryd.prog.cellsOf T = cnt * 17) (hcl : l.length = cnt) (h : DataW.trod (fun _ => ()) Tryd.prog w 0 (fun _ => true) false fuel T cs = some (.agg (l.map netD), q)) : cs = flatN l := by
  obtain ⟨xs, m, _, hx, hl, hlen, hall⟩ := DataW.trod_array hT h
  rw [hc] at hl
  have hd : l.map netD = xs.map (·.1) := by
    have := congrArg Prod.fst hx
    injection this
  have key : ∀ i (hi : i < l.length), (cs.drop (i * 17)).take 17 = (l[i]).vals := by
    intro i hi
    have h1 := hall i (by omega)
    rw [Tryd.cN6] at h1
    have hxi : i < xs.length := by omega
    rw [List.getElem?_eq_getElem hxi] at h1
    have h2 : netD l[i] = (xs[i]).1 := by
      have h3 : (l.map netD)[i]? = (xs.map (·.1))[i]? := by rw [hd]
      rw [List.getElem?_map, List.getElem?_map, List.getElem?_eq_getElem hi, List.getElem?_eq_getElem hxi] at h3
      exact Option.some.inj h3
    have h4 : xs[i] = (netD l[i], (xs[i]).2) := by rw [h2]
    rw [h4] at h1
    exact net_cells6 h1
  have hlen2 : cs.length = l.length * 17 := by rw [hl, hcl]
  clear hall hd hx hlen hl hcl h hc hT
  induction l generalizing cs with
  | nil =>
    have : cs.length = 0 := by simpa using hlen2
    rw [List.length_eq_zero_iff.mp this]
    rfl
  | cons p r ih =>
    have h0 := key 0 (by simp)
    rw [Nat.zero_mul, List.drop_zero] at h0
    have h1 := ih (cs := cs.drop 17) (fun i hi => by
      have h2 := key (i + 1) (by simp; omega)
      rw [Nat.succ_mul] at h2
      rw [List.drop_drop, Nat.add_comm]
      exact h2) (by rw [List.length_drop, hlen2, List.length_cons]; omega)
    rw [← List.take_append_drop 17 cs, h0, h1]
    rfl
theorem var_range {w : World} {name : String} {g : Nat} {cs : Array Value} (hg : Tryd.prog.globalNamed name = some g) (h : w.var? Tryd.prog name = some cs) : w.rangeAt g 0 cs.toList := fun j v hj => by
  have h1 := World.var?_cell hg h j
  rw [Nat.zero_add, h1]
  simpa using hj
theorem nets_var4 {w : World} {name : String} {g cnt : Nat} {T : TypeId} {l : List Nn} (hg : Tryd.prog.globalNamed name = some g) (hty : (Tryd.prog.globals[g]?).map (·.type) = some T) (hT : Tryd.prog.underlying T = some (.array cnt 102)) (hc : Tryd.prog.cellsOf T = cnt * 5) (hcl : l.length = cnt) (h : VarIs w name (.agg (l.map netD))) : w.rangeAt g 0 (flatN l) := by
  obtain ⟨g', t', cs, fuel, p, hg', ht', hvar, hd⟩ := h
  obtain rfl := Option.some.inj (hg.symm.trans hg')
  obtain rfl := Option.some.inj (hty.symm.trans ht')
  have := var_range hg hvar
  rwa [nets_cells4 hT hc hcl hd] at this
theorem nets_var6 {w : World} {name : String} {g cnt : Nat} {T : TypeId} {l : List Nn} (hg : Tryd.prog.globalNamed name = some g) (hty : (Tryd.prog.globals[g]?).map (·.type) = some T) (hT : Tryd.prog.underlying T = some (.array cnt 106)) (hc : Tryd.prog.cellsOf T = cnt * 17) (hcl : l.length = cnt) (h : VarIs w name (.agg (l.map netD))) : w.rangeAt g 0 (flatN l) := by
  obtain ⟨g', t', cs, fuel, p, hg', ht', hvar, hd⟩ := h
  obtain rfl := Option.some.inj (hg.symm.trans hg')
  obtain rfl := Option.some.inj (hty.symm.trans ht')
  have := var_range hg hvar
  rwa [nets_cells6 hT hc hcl hd] at this
theorem net_var6 {w : World} {name : String} {g : Nat} {q : Nn} (hg : Tryd.prog.globalNamed name = some g) (hty : (Tryd.prog.globals[g]?).map (·.type) = some 106) (h : VarIs w name (netD q)) : w.rangeAt g 0 q.vals := by
  obtain ⟨g', t', cs, fuel, p, hg', ht', hvar, hd⟩ := h
  obtain rfl := Option.some.inj (hg.symm.trans hg')
  obtain rfl := Option.some.inj (hty.symm.trans ht')
  have := var_range hg hvar
  rwa [net_cells6 hd] at this
theorem hm_of2 {w : World} (h : laidMetH Tryd.prog [("interpreter/class.martians4", Rows.laid_interpreter_class_martians4), ("interpreter/class.martians6", Rows.laid_interpreter_class_martians6)] w) : Hm w := by
  have h' : laidMet Tryd.prog [("interpreter/class.martians4", Rows.laid_interpreter_class_martians4), ("interpreter/class.martians6", Rows.laid_interpreter_class_martians6)] w := h
  obtain ⟨ps, h0, _⟩ := h'
  obtain ⟨v0, q1, h1⟩ := laid_step h0
  obtain ⟨v1, _, _⟩ := laid_step h1
  exact ⟨nets_var4 (cnt := 5) (T := 103) (l := mL4) (by kernel_rfl) (by kernel_rfl) Tryd.underlying103 (by kernel_rfl) rfl v0, nets_var6 (cnt := 5) (T := 107) (l := mL6) (by kernel_rfl) (by kernel_rfl) Tryd.underlying107 (by kernel_rfl) rfl v1⟩
/-- A world that meets the conditions: the settled one, the variables laid. -/
noncomputable def laidWorld11 (os : Os) : World :=
  let w0 := World.holding Tryd.prog os ⟨#[], #[], []⟩
  { w0 with heap := ((w0.heap.modify 0 fun
      | .cells _ t frozen => .cells #[.int .u8 0, .int .u8 0, .int .u8 0, .int .u8 0, .int .i64 8, .int .u8 127, .int .u8 0, .int .u8 0, .int .u8 0, .int .i64 8, .int .u8 169, .int .u8 254, .int .u8 0, .int .u8 0, .int .i64 16, .int .u8 224, .int .u8 0, .int .u8 0, .int .u8 0, .int .i64 4, .int .u8 240, .int .u8 0, .int .u8 0, .int .u8 0, .int .i64 4] t frozen
      | o => o).modify 1 fun
      | .cells _ t frozen => .cells #[.int .u8 0, .int .u8 0, .int .u8 0, .int .u8 0, .int .u8 0, .int .u8 0, .int .u8 0, .int .u8 0, .int .u8 0, .int .u8 0, .int .u8 0, .int .u8 0, .int .u8 0, .int .u8 0, .int .u8 0, .int .u8 0, .int .i64 128, .int .u8 0, .int .u8 0, .int .u8 0, .int .u8 0, .int .u8 0, .int .u8 0, .int .u8 0, .int .u8 0, .int .u8 0, .int .u8 0, .int .u8 0, .int .u8 0, .int .u8 0, .int .u8 0, .int .u8 0, .int .u8 1, .int .i64 128, .int .u8 0, .int .u8 0, .int .u8 0, .int .u8 0, .int .u8 0, .int .u8 0, .int .u8 0, .int .u8 0, .int .u8 0, .int .u8 0, .int .u8 255, .int .u8 255, .int .u8 0, .int .u8 0, .int .u8 0, .int .u8 0, .int .i64 96, .int .u8 254, .int .u8 128, .int .u8 0, .int .u8 0, .int .u8 0, .int .u8 0, .int .u8 0, .int .u8 0, .int .u8 0, .int .u8 0, .int .u8 0, .int .u8 0, .int .u8 0, .int .u8 0, .int .u8 0, .int .u8 0, .int .i64 10, .int .u8 255, .int .u8 0, .int .u8 0, .int .u8 0, .int .u8 0, .int .u8 0, .int .u8 0, .int .u8 0, .int .u8 0, .int .u8 0, .int .u8 0, .int .u8 0, .int .u8 0, .int .u8 0, .int .u8 0, .int .u8 0, .int .i64 8] t frozen
      | o => o) }
theorem laidWorld11_met (os : Os) (args : Array Value) : laidMetH Tryd.prog [("interpreter/class.martians4", Rows.laid_interpreter_class_martians4), ("interpreter/class.martians6", Rows.laid_interpreter_class_martians6)] ((laidWorld11 os).forCall (fun _ _ => 0) ⟨#[], args, []⟩).memory :=
  laidMetH_of_parts (laidMet_of_run' 100 (by kernel_rfl) (by kernel_rfl)) (by kernel_rfl)
end Go.Proofs.YtchdagdmbjpmcaaDoor
