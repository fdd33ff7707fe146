/-
  Proved here: what the rows' conditions on laid variables give, and worlds that meet them.
  Conditions: none.
  Proved here: how addresses and prefixes by value among a law's arguments are opened.
  Conditions: none.
  Proved here: the law ClassWords answers true whatever it is given, and its arguments read afterwards as before (the tied card).
  Conditions: none but the row's own (the listed variables start as the program's text lays them, tied by the given tie).
-/
import Derived.Test.YtkdplnbabelkoaaDoorAwakec
import Derived.Test.YtkdplnbabelkoaaDoorRows
import Derived.Lib.LaidTab
import Derived.ProofKit
import Derived.ChangeVars
import Derived.LaidLaws
import Derived.LaidHandle
import Derived.Stop.Joined
import Derived.OpenShut
import Derived.Deep.SlicePairs
import Derived.Test.YtkdplnbabelkoaaDoorLawWords
import Derived.Test.YtkdplnbabelkoaaDoorCards
import Derived.Test.YtkdplnbabelkoaaDoorTie
namespace Go.Proofs.YtkdplnbabelkoaaDoor
open Go.ChangeShapes Go.WideShapes Go.RowKit
open Go.ChangeShapes Go.WideShapes Go.RowKit Go.ChangeMaps
open Go.ChangeShapes Go.WideShapes Go.RowKit Go.ChangeMaps Go.Deep

theorem Tryd.own : ownKnob Tryd.prog.godebug = none := by kernel_rfl
/-- One more listed variable. -/
def VarIs (w : World) (n : String) (d : DataW Unit) : Prop := ∃ g t cs fuel p, Tryd.prog.globalNamed n = some g ∧ (Tryd.prog.globals[g]?).map (·.type) = some t ∧ w.var? Tryd.prog n = some cs ∧ DataW.trod (fun _ => ()) Tryd.prog w 0 (fun _ => true) false fuel t cs.toList = some (d, p)
theorem laid_step {w : World} {n : String} {d : DataW Unit} {r : List (String × DataW Unit)} {ps : List MemPlace} (h : DataW.LaidVars Tryd.prog w ((n, d) :: r) ps) : VarIs w n d ∧ ∃ q, DataW.LaidVars Tryd.prog w r q := by
  obtain ⟨g, t, cs, fuel, p, q, h1, h2, h3, h4, h5, _⟩ := h
  exact ⟨⟨g, t, cs, fuel, p, h1, h2, h3, h4⟩, q, h5⟩
theorem tab_var {w : World} {name : String} {k : IntKind} {zs : List Int} {g : Nat} {t e : TypeId} {n : Nat} (hg : Tryd.prog.globalNamed name = some g) (hty : (Tryd.prog.globals[g]?).map (·.type) = some t) (ht : Tryd.prog.underlying t = some (.array n e)) (he : Tryd.prog.underlying e = some (.int k)) (hce : Tryd.prog.cellsOf e = 1) (hct : Tryd.prog.cellsOf t = n) (h : VarIs w name (Lib.tabData k zs)) : Lib.TabIs Tryd.prog w name k zs := by
  obtain ⟨g', t', cs, fuel, p, hg', ht', hvar, hd⟩ := h
  obtain rfl := Option.some.inj (hg.symm.trans hg')
  obtain rfl := Option.some.inj (hty.symm.trans ht')
  unfold Lib.TabIs
  rw [hvar, ← Lib.cells_of_tab ht he hce hct hd]
theorem Tryd.cU8 : Tryd.prog.cellsOf 5 = 1 := by kernel_rfl
theorem Tryd.cInt : Tryd.prog.cellsOf 3 = 1 := by kernel_rfl
/-- A prefix as data. -/
def netD (p : Nn) : DataW Unit := .agg [Lib.tabData .u8 (iu p.ad), .lit (.int .i64 p.ln)]
theorem Tryd.cV4 : Tryd.prog.cellsOf 28 = 4 := by kernel_rfl
theorem Tryd.cN4 : Tryd.prog.cellsOf 32 = 5 := by kernel_rfl
theorem net_cells4 {w : World} {fuel : Nat} {cs : List Value} {p : Nn} {q : List MemPlace} (h : DataW.trod (fun _ => ()) Tryd.prog w 0 (fun _ => true) false fuel 32 cs = some (netD p, q)) : cs = p.vals := by
  obtain ⟨xs, n, _, hx, hl, hlen, hg⟩ := DataW.trod_struct Tryd.underlying32 h
  rw [Tryd.cN4] at hl
  have hlen' : xs.length = 2 := hlen
  have f0 : DataW.trod (fun _ => ()) Tryd.prog w 0 (fun _ => true) false n 28 ((cs.drop 0).take (Tryd.prog.cellsOf 28)) = xs[0]? := hg 0 _ rfl
  have f1 : DataW.trod (fun _ => ()) Tryd.prog w 0 (fun _ => true) false n 3 ((cs.drop 4).take (Tryd.prog.cellsOf 3)) = xs[1]? := hg 1 _ rfl
  rw [Tryd.cV4, List.drop_zero] at f0
  rw [Tryd.cInt] at f1
  obtain ⟨a, b, rfl⟩ : ∃ a b, xs = [a, b] := by
    match xs, hlen' with
    | [a, b], _ => exact ⟨a, b, rfl⟩
  have hd : netD p = .agg [a.1, b.1] := congrArg Prod.fst hx
  unfold netD at hd
  have hd2 : [Lib.tabData .u8 (iu p.ad), DataW.lit (.int .i64 p.ln)] = [a.1, b.1] := by injection hd
  have ha : a.1 = Lib.tabData .u8 (iu p.ad) := (List.cons.inj hd2).1.symm
  have hb : b.1 = DataW.lit (.int .i64 p.ln) := (List.cons.inj (List.cons.inj hd2).2).1.symm
  obtain ⟨a1, a2⟩ := a
  obtain ⟨b1, b2⟩ := b
  dsimp only at ha hb
  subst ha hb
  have g0 := Lib.cells_of_tab Tryd.underlying28 Tryd.underlying5 Tryd.cU8 Tryd.cV4 f0
  obtain ⟨z, g1, g2, _⟩ := DataW.trod_int Tryd.underlying3 f1
  have hz : z = p.ln := by
    have := congrArg Prod.fst g2
    injection this with this
    injection this with _ this
    exact this.symm
  rw [hz] at g1
  have hdr : cs.drop 4 = [.int .i64 p.ln] := by
    rw [← g1]
    exact (List.take_of_length_le (by rw [List.length_drop, hl]; decide)).symm
  have hc : cs = cs.take 4 ++ cs.drop 4 := (List.take_append_drop _ _).symm
  rw [hc, g0, hdr]
  unfold Nn.vals
  rw [bu_b8]
  rfl
theorem nets_cells4 {w : World} {fuel cnt : Nat} {T : TypeId} {cs : List Value} {l : List Nn} {q : List MemPlace} (hT : Tryd.prog.underlying T = some (.array cnt 32)) (hc : Tryd.prog.cellsOf T = cnt * 5) (hcl : l.length = cnt) (h : DataW.trod (fun _ => ()) Tryd.prog w 0 (fun _ => true) false fuel T cs = some (.agg (l.map netD), q)) : cs = flatN l := by
  obtain ⟨xs, m, _, hx, hl, hlen, hall⟩ := DataW.trod_array hT h
  rw [hc] at hl
  have hd : l.map netD = xs.map (·.1) := by
    have := congrArg Prod.fst hx
    injection this
  have key : ∀ i (hi : i < l.length), (cs.drop (i * 5)).take 5 = (l[i]).vals := by
    intro i hi
    have h1 := hall i (by omega)
    rw [Tryd.cN4] at h1
    have hxi : i < xs.length := by omega
    rw [List.getElem?_eq_getElem hxi] at h1
    have h2 : netD l[i] = (xs[i]).1 := by
      have h3 : (l.map netD)[i]? = (xs.map (·.1))[i]? := by rw [hd]
      rw [List.getElem?_map, List.getElem?_map, List.getElem?_eq_getElem hi, List.getElem?_eq_getElem hxi] at h3
      exact Option.some.inj h3
    have h4 : xs[i] = (netD l[i], (xs[i]).2) := by rw [h2]
    rw [h4] at h1
    exact net_cells4 h1
  have hlen2 : cs.length = l.length * 5 := by rw [hl, hcl]
  clear hall hd hx hlen hl hcl h hc hT
  induction l generalizing cs with
  | nil =>
    have : cs.length = 0 := by simpa using hlen2
    rw [List.length_eq_zero_iff.mp this]
    rfl
  | cons p r ih =>
    have h0 := key 0 (by simp)
    rw [Nat.zero_mul, List.drop_zero] at h0
    have h1 := ih (cs := cs.drop 5) (fun i hi => by
      have h2 := key (i + 1) (by simp; omega)
      rw [Nat.succ_mul] at h2
      rw [List.drop_drop, Nat.add_comm]
      exact h2) (by rw [List.length_drop, hlen2, List.length_cons]; omega)
    rw [← List.take_append_drop 5 cs, h0, h1]
    rfl
theorem Tryd.cV6 : Tryd.prog.cellsOf 24 = 16 := by kernel_rfl
theorem Tryd.cN6 : Tryd.prog.cellsOf 36 = 17 := by kernel_rfl
theorem net_cells6 {w : World} {fuel : Nat} {cs : List Value} {p : Nn} {q : List MemPlace} (h : DataW.trod (fun _ => ()) Tryd.prog w 0 (fun _ => true) false fuel 36 cs = some (netD p, q)) : cs = p.vals := by
  obtain ⟨xs, n, _, hx, hl, hlen, hg⟩ := DataW.trod_struct Tryd.underlying36 h
  rw [Tryd.cN6] at hl
  have hlen' : xs.length = 2 := hlen
  have f0 : DataW.trod (fun _ => ()) Tryd.prog w 0 (fun _ => true) false n 24 ((cs.drop 0).take (Tryd.prog.cellsOf 24)) = xs[0]? := hg 0 _ rfl
  have f1 : DataW.trod (fun _ => ()) Tryd.prog w 0 (fun _ => true) false n 3 ((cs.drop 16).take (Tryd.prog.cellsOf 3)) = xs[1]? := hg 1 _ rfl
  rw [Tryd.cV6, List.drop_zero] at f0
  rw [Tryd.cInt] at f1
  obtain ⟨a, b, rfl⟩ : ∃ a b, xs = [a, b] := by
    match xs, hlen' with
    | [a, b], _ => exact ⟨a, b, rfl⟩
  have hd : netD p = .agg [a.1, b.1] := congrArg Prod.fst hx
  unfold netD at hd
  have hd2 : [Lib.tabData .u8 (iu p.ad), DataW.lit (.int .i64 p.ln)] = [a.1, b.1] := by injection hd
  have ha : a.1 = Lib.tabData .u8 (iu p.ad) := (List.cons.inj hd2).1.symm
  have hb : b.1 = DataW.lit (.int .i64 p.ln) := (List.cons.inj (List.cons.inj hd2).2).1.symm
  obtain ⟨a1, a2⟩ := a
  obtain ⟨b1, b2⟩ := b
  dsimp only at ha hb
  subst ha hb
  have g0 := Lib.cells_of_tab Tryd.underlying24 Tryd.underlying5 Tryd.cU8 Tryd.cV6 f0
  obtain ⟨z, g1, g2, _⟩ := DataW.trod_int Tryd.underlying3 f1
  have hz : z = p.ln := by
    have := congrArg Prod.fst g2
    injection this with this
    injection this with _ this
    exact this.symm
  rw [hz] at g1
  have hdr : cs.drop 16 = [.int .i64 p.ln] := by
    rw [← g1]
    exact (List.take_of_length_le (by rw [List.length_drop, hl]; decide)).symm
  have hc : cs = cs.take 16 ++ cs.drop 16 := (List.take_append_drop _ _).symm
  rw [hc, g0, hdr]
  unfold Nn.vals
  rw [bu_b8]
  rfl
theorem nets_cells6 {w : World} {fuel cnt : Nat} {T : TypeId} {cs : List Value} {l : List Nn} {q : List MemPlace} (hT : Tryd.prog.underlying T = some (.array cnt 36)) (hc : Tryd.prog.cellsOf T = cnt * 17) (hcl : l.length = cnt) (h : DataW.trod (fun _ => ()) Tryd.prog w 0 (fun _ => true) false fuel T cs = some (.agg (l.map netD), q)) : cs = flatN l := by
  obtain ⟨xs, m, _, hx, hl, hlen, hall⟩ := DataW.trod_array hT h
  rw [hc] at hl
  have hd : l.map netD = xs.map (·.1) := by
    have := congrArg Prod.fst hx
    injection this
  have key : ∀ i (hi : i < l.length), (cs.drop (i * 17)).take 17 = (l[i]).vals := by
    intro i hi
    have h1 := hall i (by omega)
    rw [Tryd.cN6] at h1
    have hxi : i < xs.length := by omega
    rw [List.getElem?_eq_getElem hxi] at h1
    have h2 : netD l[i] = (xs[i]).1 := by
      have h3 : (l.map netD)[i]? = (xs.map (·.1))[i]? := by rw [hd]
      rw [List.getElem?_map, List.getElem?_map, List.getElem?_eq_getElem hi, List.getElem?_eq_getElem hxi] at h3
      exact Option.some.inj h3
    have h4 : xs[i] = (netD l[i], (xs[i]).2) := by rw [h2]
    rw [h4] at h1
    exact net_cells6 h1
  have hlen2 : cs.length = l.length * 17 := by rw [hl, hcl]
  clear hall hd hx hlen hl hcl h hc hT
  induction l generalizing cs with
  | nil =>
    have : cs.length = 0 := by simpa using hlen2
    rw [List.length_eq_zero_iff.mp this]
    rfl
  | cons p r ih =>
    have h0 := key 0 (by simp)
    rw [Nat.zero_mul, List.drop_zero] at h0
    have h1 := ih (cs := cs.drop 17) (fun i hi => by
      have h2 := key (i + 1) (by simp; omega)
      rw [Nat.succ_mul] at h2
      rw [List.drop_drop, Nat.add_comm]
      exact h2) (by rw [List.length_drop, hlen2, List.length_cons]; omega)
    rw [← List.take_append_drop 17 cs, h0, h1]
    rfl
theorem var_range {w : World} {name : String} {g : Nat} {cs : Array Value} (hg : Tryd.prog.globalNamed name = some g) (h : w.var? Tryd.prog name = some cs) : w.rangeAt g 0 cs.toList := fun j v hj => by
  have h1 := World.var?_cell hg h j
  rw [Nat.zero_add, h1]
  simpa using hj
theorem nets_var4 {w : World} {name : String} {g cnt : Nat} {T : TypeId} {l : List Nn} (hg : Tryd.prog.globalNamed name = some g) (hty : (Tryd.prog.globals[g]?).map (·.type) = some T) (hT : Tryd.prog.underlying T = some (.array cnt 32)) (hc : Tryd.prog.cellsOf T = cnt * 5) (hcl : l.length = cnt) (h : VarIs w name (.agg (l.map netD))) : w.rangeAt g 0 (flatN l) := by
  obtain ⟨g', t', cs, fuel, p, hg', ht', hvar, hd⟩ := h
  obtain rfl := Option.some.inj (hg.symm.trans hg')
  obtain rfl := Option.some.inj (hty.symm.trans ht')
  have := var_range hg hvar
  rwa [nets_cells4 hT hc hcl hd] at this
theorem nets_var6 {w : World} {name : String} {g cnt : Nat} {T : TypeId} {l : List Nn} (hg : Tryd.prog.globalNamed name = some g) (hty : (Tryd.prog.globals[g]?).map (·.type) = some T) (hT : Tryd.prog.underlying T = some (.array cnt 36)) (hc : Tryd.prog.cellsOf T = cnt * 17) (hcl : l.length = cnt) (h : VarIs w name (.agg (l.map netD))) : w.rangeAt g 0 (flatN l) := by
  obtain ⟨g', t', cs, fuel, p, hg', ht', hvar, hd⟩ := h
  obtain rfl := Option.some.inj (hg.symm.trans hg')
  obtain rfl := Option.some.inj (hty.symm.trans ht')
  have := var_range hg hvar
  rwa [nets_cells6 hT hc hcl hd] at this
theorem net_var6 {w : World} {name : String} {g : Nat} {q : Nn} (hg : Tryd.prog.globalNamed name = some g) (hty : (Tryd.prog.globals[g]?).map (·.type) = some 36) (h : VarIs w name (netD q)) : w.rangeAt g 0 q.vals := by
  obtain ⟨g', t', cs, fuel, p, hg', ht', hvar, hd⟩ := h
  obtain rfl := Option.some.inj (hg.symm.trans hg')
  obtain rfl := Option.some.inj (hty.symm.trans ht')
  have := var_range hg hvar
  rwa [net_cells6 hd] at this
theorem Tryd.mlRow : ((begin Tryd.prog (fun _ _ => 0) default).world.heap[5]?).bind Obj.row? = some (#[Value.int .i64 0], 3) := by kernel_rfl
theorem Tryd.mlBuilds : Tryd.prog.buildable 3 = true := by kernel_rfl
theorem Tryd.globalsSize : Tryd.prog.globals.size = 8 := by kernel_rfl
set_option maxRecDepth 100000 in
theorem ml_of {w : World} (h : w.ShapedOpen Tryd.prog) : ML w := by
  obtain ⟨cs, hh, hs, hr⟩ := h.1 5 _ _ (by rw [Tryd.globalsSize]; decide) Tryd.mlRow
  obtain ⟨ts, hts, _, hall⟩ := hr Tryd.mlBuilds
  rw [show Tryd.prog.cellTypes Tryd.prog.depth 3 = some [3] by kernel_rfl] at hts
  cases hts
  have h1 : 0 < cs.size := by rw [hs]; decide
  obtain ⟨u, hu', hok⟩ := hall 0 cs[0] (by simp [h1])
  have hu : u = 3 := (Option.some.inj hu').symm
  subst hu
  have hcell : w.cell? ⟨5, 0, none⟩ = some cs[0] := by simp [World.cell?, hh, h1]
  unfold Cell.ok at hok
  rw [Tryd.underlying3] at hok
  cases hv : cs[0] <;> rw [hv] at hok <;> simp at hok
  case int k' n => exact ⟨n, by rw [hcell, hv, hok.1]⟩
/-- The three tables of the library. -/
theorem hw_of {w : World} (hs : w.ShapedOpen Tryd.prog) (h64 : VarIs w "math/bits.deBruijn64tab" Rows.laid_math_bits_deBruijn64tab) (hp : VarIs w "internal/strconv.uint64pow10" Rows.laid_internal_strconv_uint64pow10) : Hw w := by
  have h1 : Lib.TabIs Tryd.prog w "math/bits.deBruijn64tab" .u8 [0, 1, 56, 2, 57, 49, 28, 3, 61, 58, 42, 50, 38, 29, 17, 4, 62, 47, 59, 36, 45, 43, 51, 22, 53, 39, 33, 30, 24, 18, 12, 5, 63, 55, 48, 27, 60, 41, 37, 16, 46, 35, 44, 21, 52, 32, 23, 11, 54, 26, 40, 15, 34, 20, 31, 10, 25, 14, 19, 9, 13, 8, 7, 6] := tab_var (g := 7) (t := 131) (n := 64) (by kernel_rfl) (by kernel_rfl) Tryd.underlying131 Tryd.underlying5 Tryd.cU8 (by kernel_rfl) h64
  have h2 : Lib.TabIs Tryd.prog w "internal/strconv.uint64pow10" .u64 Lib.pow10Tab := tab_var (g := 4) (t := 118) (n := 20) (by kernel_rfl) (by kernel_rfl) Tryd.underlying118 Tryd.underlying108 (by kernel_rfl) (by kernel_rfl) hp
  have c1 := h1.cell (g := 7) (by kernel_rfl) 15 (by decide)
  have c2 := h2.cell (g := 4) (by kernel_rfl) 0 (by decide)
  exact ⟨c1, ⟨h2, World.block_lt_of_cell? w _ c2⟩, ml_of hs⟩
theorem hw_of3 {w : World} (hs : w.ShapedOpen Tryd.prog) (h : laidMetH Tryd.prog [("math/bits.deBruijn32tab", Rows.laid_math_bits_deBruijn32tab), ("math/bits.deBruijn64tab", Rows.laid_math_bits_deBruijn64tab), ("internal/strconv.uint64pow10", Rows.laid_internal_strconv_uint64pow10)] w) : Hw w := by
  have h' : laidMet Tryd.prog [("math/bits.deBruijn32tab", Rows.laid_math_bits_deBruijn32tab), ("math/bits.deBruijn64tab", Rows.laid_math_bits_deBruijn64tab), ("internal/strconv.uint64pow10", Rows.laid_internal_strconv_uint64pow10)] w := h
  obtain ⟨ps, h0, _⟩ := h'
  obtain ⟨_, q1, h1⟩ := laid_step h0
  obtain ⟨v1, q2, h2⟩ := laid_step h1
  obtain ⟨v2, _, _⟩ := laid_step h2
  exact hw_of hs v1 v2
/-- What the package's lists hold. -/
structure Vc (w : World) : Prop where
  kn : w.rangeAt 0 0 knN.vals
  m4 : w.rangeAt 1 0 (flatN mL4)
  pr : w.rangeAt 3 0 (flatN pL4)
theorem Vc.below {w w' : World} (h : Vc w) (hb : Below w.heap.size w w') : Vc w' := ⟨rangeAt_below h.kn hb, rangeAt_below h.m4 hb, rangeAt_below h.pr hb⟩
theorem vc_of {w : World} (h1 : VarIs w "interpreter/class.known" Rows.laid_interpreter_class_known) (h2 : VarIs w "interpreter/class.martians4" Rows.laid_interpreter_class_martians4) (h3 : VarIs w "interpreter/class.privates" Rows.laid_interpreter_class_privates) : Vc w :=
  ⟨net_var6 (by kernel_rfl) (by kernel_rfl) (show VarIs w "interpreter/class.known" (netD knN) from h1),
   nets_var4 (cnt := 5) (T := 86) (l := mL4) (by kernel_rfl) (by kernel_rfl) Tryd.underlying86 (by kernel_rfl) rfl h2,
   nets_var4 (cnt := 4) (T := 104) (l := pL4) (by kernel_rfl) (by kernel_rfl) Tryd.underlying104 (by kernel_rfl) rfl h3⟩
theorem hw_of6 {w : World} (hs : w.ShapedOpen Tryd.prog) (h : laidMetH Tryd.prog [("math/bits.deBruijn32tab", Rows.laid_math_bits_deBruijn32tab), ("math/bits.deBruijn64tab", Rows.laid_math_bits_deBruijn64tab), ("internal/strconv.uint64pow10", Rows.laid_internal_strconv_uint64pow10), ("interpreter/class.known", Rows.laid_interpreter_class_known), ("interpreter/class.martians4", Rows.laid_interpreter_class_martians4), ("interpreter/class.privates", Rows.laid_interpreter_class_privates)] w) : Hw w ∧ Vc w := by
  have h' : laidMet Tryd.prog [("math/bits.deBruijn32tab", Rows.laid_math_bits_deBruijn32tab), ("math/bits.deBruijn64tab", Rows.laid_math_bits_deBruijn64tab), ("internal/strconv.uint64pow10", Rows.laid_internal_strconv_uint64pow10), ("interpreter/class.known", Rows.laid_interpreter_class_known), ("interpreter/class.martians4", Rows.laid_interpreter_class_martians4), ("interpreter/class.privates", Rows.laid_interpreter_class_privates)] w := h
  obtain ⟨ps, h0, _⟩ := h'
  obtain ⟨_, q1, h1⟩ := laid_step h0
  obtain ⟨v1, q2, h2⟩ := laid_step h1
  obtain ⟨v2, q3, h3⟩ := laid_step h2
  obtain ⟨v3, q4, h4⟩ := laid_step h3
  obtain ⟨v4, q5, h5⟩ := laid_step h4
  obtain ⟨v5, _, _⟩ := laid_step h5
  exact ⟨hw_of hs v1 v2, vc_of v3 v4 v5⟩
theorem hw_of7 {w : World} (hs : w.ShapedOpen Tryd.prog) (h : laidMetH Tryd.prog [("math/bits.deBruijn32tab", Rows.laid_math_bits_deBruijn32tab), ("math/bits.deBruijn64tab", Rows.laid_math_bits_deBruijn64tab), ("internal/strconv.uint64pow10", Rows.laid_internal_strconv_uint64pow10), ("interpreter/class.known", Rows.laid_interpreter_class_known), ("interpreter/class.martians4", Rows.laid_interpreter_class_martians4), ("interpreter/class.martians6", Rows.laid_interpreter_class_martians6), ("interpreter/class.privates", Rows.laid_interpreter_class_privates)] w) : Hw w ∧ Vc w ∧ w.rangeAt 2 0 (flatN mL6) := by
  have h' : laidMet Tryd.prog [("math/bits.deBruijn32tab", Rows.laid_math_bits_deBruijn32tab), ("math/bits.deBruijn64tab", Rows.laid_math_bits_deBruijn64tab), ("internal/strconv.uint64pow10", Rows.laid_internal_strconv_uint64pow10), ("interpreter/class.known", Rows.laid_interpreter_class_known), ("interpreter/class.martians4", Rows.laid_interpreter_class_martians4), ("interpreter/class.martians6", Rows.laid_interpreter_class_martians6), ("interpreter/class.privates", Rows.laid_interpreter_class_privates)] w := h
  obtain ⟨ps, h0, _⟩ := h'
  obtain ⟨_, q1, h1⟩ := laid_step h0
  obtain ⟨v1, q2, h2⟩ := laid_step h1
  obtain ⟨v2, q3, h3⟩ := laid_step h2
  obtain ⟨v3, q4, h4⟩ := laid_step h3
  obtain ⟨v4, q5, h5⟩ := laid_step h4
  obtain ⟨v5, q6, h6⟩ := laid_step h5
  obtain ⟨v6, _, _⟩ := laid_step h6
  exact ⟨hw_of hs v1 v2, vc_of v3 v4 v6, nets_var6 (cnt := 5) (T := 88) (l := mL6) (by kernel_rfl) (by kernel_rfl) Tryd.underlying88 (by kernel_rfl) rfl v5⟩
/-- A world that meets the conditions: the settled one, the variables laid. -/
noncomputable def laidWorldc (os : Os) : World :=
  let w0 := World.holding Tryd.prog os ⟨#[], #[], []⟩
  { w0 with heap := (((((((w0.heap.modify 6 fun
      | .cells _ t frozen => .cells #[.int .u8 0, .int .u8 1, .int .u8 28, .int .u8 2, .int .u8 29, .int .u8 14, .int .u8 24, .int .u8 3, .int .u8 30, .int .u8 22, .int .u8 20, .int .u8 15, .int .u8 25, .int .u8 17, .int .u8 4, .int .u8 8, .int .u8 31, .int .u8 27, .int .u8 13, .int .u8 23, .int .u8 21, .int .u8 19, .int .u8 16, .int .u8 7, .int .u8 26, .int .u8 12, .int .u8 18, .int .u8 6, .int .u8 11, .int .u8 5, .int .u8 10, .int .u8 9] t frozen
      | o => o).modify 7 fun
      | .cells _ t frozen => .cells #[.int .u8 0, .int .u8 1, .int .u8 56, .int .u8 2, .int .u8 57, .int .u8 49, .int .u8 28, .int .u8 3, .int .u8 61, .int .u8 58, .int .u8 42, .int .u8 50, .int .u8 38, .int .u8 29, .int .u8 17, .int .u8 4, .int .u8 62, .int .u8 47, .int .u8 59, .int .u8 36, .int .u8 45, .int .u8 43, .int .u8 51, .int .u8 22, .int .u8 53, .int .u8 39, .int .u8 33, .int .u8 30, .int .u8 24, .int .u8 18, .int .u8 12, .int .u8 5, .int .u8 63, .int .u8 55, .int .u8 48, .int .u8 27, .int .u8 60, .int .u8 41, .int .u8 37, .int .u8 16, .int .u8 46, .int .u8 35, .int .u8 44, .int .u8 21, .int .u8 52, .int .u8 32, .int .u8 23, .int .u8 11, .int .u8 54, .int .u8 26, .int .u8 40, .int .u8 15, .int .u8 34, .int .u8 20, .int .u8 31, .int .u8 10, .int .u8 25, .int .u8 14, .int .u8 19, .int .u8 9, .int .u8 13, .int .u8 8, .int .u8 7, .int .u8 6] t frozen
      | o => o).modify 4 fun
      | .cells _ t frozen => .cells #[.int .u64 1, .int .u64 10, .int .u64 100, .int .u64 1000, .int .u64 10000, .int .u64 100000, .int .u64 1000000, .int .u64 10000000, .int .u64 100000000, .int .u64 1000000000, .int .u64 10000000000, .int .u64 100000000000, .int .u64 1000000000000, .int .u64 10000000000000, .int .u64 100000000000000, .int .u64 1000000000000000, .int .u64 10000000000000000, .int .u64 100000000000000000, .int .u64 1000000000000000000, .int .u64 10000000000000000000] t frozen
      | o => o).modify 0 fun
      | .cells _ t frozen => .cells #[.int .u8 0, .int .u8 100, .int .u8 255, .int .u8 155, .int .u8 0, .int .u8 0, .int .u8 0, .int .u8 0, .int .u8 0, .int .u8 0, .int .u8 0, .int .u8 0, .int .u8 0, .int .u8 0, .int .u8 0, .int .u8 0, .int .i64 96] t frozen
      | o => o).modify 1 fun
      | .cells _ t frozen => .cells #[.int .u8 0, .int .u8 0, .int .u8 0, .int .u8 0, .int .i64 8, .int .u8 127, .int .u8 0, .int .u8 0, .int .u8 0, .int .i64 8, .int .u8 169, .int .u8 254, .int .u8 0, .int .u8 0, .int .i64 16, .int .u8 224, .int .u8 0, .int .u8 0, .int .u8 0, .int .i64 4, .int .u8 240, .int .u8 0, .int .u8 0, .int .u8 0, .int .i64 4] t frozen
      | o => o).modify 2 fun
      | .cells _ t frozen => .cells #[.int .u8 0, .int .u8 0, .int .u8 0, .int .u8 0, .int .u8 0, .int .u8 0, .int .u8 0, .int .u8 0, .int .u8 0, .int .u8 0, .int .u8 0, .int .u8 0, .int .u8 0, .int .u8 0, .int .u8 0, .int .u8 0, .int .i64 128, .int .u8 0, .int .u8 0, .int .u8 0, .int .u8 0, .int .u8 0, .int .u8 0, .int .u8 0, .int .u8 0, .int .u8 0, .int .u8 0, .int .u8 0, .int .u8 0, .int .u8 0, .int .u8 0, .int .u8 0, .int .u8 1, .int .i64 128, .int .u8 0, .int .u8 0, .int .u8 0, .int .u8 0, .int .u8 0, .int .u8 0, .int .u8 0, .int .u8 0, .int .u8 0, .int .u8 0, .int .u8 255, .int .u8 255, .int .u8 0, .int .u8 0, .int .u8 0, .int .u8 0, .int .i64 96, .int .u8 254, .int .u8 128, .int .u8 0, .int .u8 0, .int .u8 0, .int .u8 0, .int .u8 0, .int .u8 0, .int .u8 0, .int .u8 0, .int .u8 0, .int .u8 0, .int .u8 0, .int .u8 0, .int .u8 0, .int .u8 0, .int .i64 10, .int .u8 255, .int .u8 0, .int .u8 0, .int .u8 0, .int .u8 0, .int .u8 0, .int .u8 0, .int .u8 0, .int .u8 0, .int .u8 0, .int .u8 0, .int .u8 0, .int .u8 0, .int .u8 0, .int .u8 0, .int .u8 0, .int .i64 8] t frozen
      | o => o).modify 3 fun
      | .cells _ t frozen => .cells #[.int .u8 10, .int .u8 0, .int .u8 0, .int .u8 0, .int .i64 8, .int .u8 172, .int .u8 16, .int .u8 0, .int .u8 0, .int .i64 12, .int .u8 192, .int .u8 168, .int .u8 0, .int .u8 0, .int .i64 16, .int .u8 100, .int .u8 64, .int .u8 0, .int .u8 0, .int .i64 10] t frozen
      | o => o) }
theorem laidWorldc_met3 (os : Os) (args : Array Value) : laidMetH Tryd.prog [("math/bits.deBruijn32tab", Rows.laid_math_bits_deBruijn32tab), ("math/bits.deBruijn64tab", Rows.laid_math_bits_deBruijn64tab), ("internal/strconv.uint64pow10", Rows.laid_internal_strconv_uint64pow10)] ((laidWorldc os).forCall (fun _ _ => 0) ⟨#[], args, []⟩).memory :=
  laidMetH_of_parts (laidMet_of_run' 100 (by kernel_rfl) (by kernel_rfl)) (by kernel_rfl)
theorem laidWorldc_met6 (os : Os) (args : Array Value) : laidMetH Tryd.prog [("math/bits.deBruijn32tab", Rows.laid_math_bits_deBruijn32tab), ("math/bits.deBruijn64tab", Rows.laid_math_bits_deBruijn64tab), ("internal/strconv.uint64pow10", Rows.laid_internal_strconv_uint64pow10), ("interpreter/class.known", Rows.laid_interpreter_class_known), ("interpreter/class.martians4", Rows.laid_interpreter_class_martians4), ("interpreter/class.privates", Rows.laid_interpreter_class_privates)] ((laidWorldc os).forCall (fun _ _ => 0) ⟨#[], args, []⟩).memory :=
  laidMetH_of_parts (laidMet_of_run' 100 (by kernel_rfl) (by kernel_rfl)) (by kernel_rfl)
theorem laidWorldc_met7 (os : Os) (args : Array Value) : laidMetH Tryd.prog [("math/bits.deBruijn32tab", Rows.laid_math_bits_deBruijn32tab), ("math/bits.deBruijn64tab", Rows.laid_math_bits_deBruijn64tab), ("internal/strconv.uint64pow10", Rows.laid_internal_strconv_uint64pow10), ("interpreter/class.known", Rows.laid_interpreter_class_known), ("interpreter/class.martians4", Rows.laid_interpreter_class_martians4), ("interpreter/class.martians6", Rows.laid_interpreter_class_martians6), ("interpreter/class.privates", Rows.laid_interpreter_class_privates)] ((laidWorldc os).forCall (fun _ _ => 0) ⟨#[], args, []⟩).memory :=
  laidMetH_of_parts (laidMet_of_run' 100 (by kernel_rfl) (by kernel_rfl)) (by kernel_rfl)

theorem Tryd.laidOut : laidOutB Tryd.prog = true := by kernel_rfl
section
variable {H : Type} {enc : TypeId × Value → H} {base : Nat}
theorem some_ofc {X : Type} {a : Option X} {xs : List X} {i : Nat} (h : a = xs[i]?) (hi : i < xs.length) : ∃ y, a = some y := ⟨xs[i], by rw [h, List.getElem?_eq_getElem hi]⟩
theorem u8_of_wf {k : Int} (h : (Lit.int .u8 k).wf = true) : ∃ c : UInt8, k = (c.toNat : Int) := by
  have h2 : 0 ≤ k ∧ k ≤ 255 := by simpa [Lit.wf, IntKind.min, IntKind.max, IntKind.bits, IntKind.signed] using h
  refine ⟨UInt8.ofNat k.toNat, ?_⟩
  rw [UInt8.toNat_ofNat', Nat.mod_eq_of_lt (by omega)]
  omega
theorem bytes_of {W : World} {fuel n : Nat} {T : TypeId} {cs : List Value} {y : DataW H × List MemPlace} (hT : Tryd.prog.underlying T = some (.array n 5)) (hl : cs.length = n) (h : DataW.trod enc Tryd.prog W 0 (fun _ => true) true fuel T cs = some y) : ∃ L : List UInt8, cs = bu L ∧ L.length = n := by
  obtain ⟨xs, m, _, _, _, hx, hall⟩ := DataW.trod_array hT h
  have each : ∀ i (hi : i < cs.length), ∃ c : UInt8, cs[i] = .int .u8 (c.toNat : Int) := by
    intro i hi
    have h1 := hall i (by omega)
    rw [Tryd.cU8, Nat.mul_one, List.drop_eq_getElem_cons hi, List.getElem?_eq_getElem (by omega)] at h1
    obtain ⟨k, e, _, hw⟩ := DataW.trod_int Tryd.underlying5 h1
    have e' : cs[i] :: List.take 0 (cs.drop (i + 1)) = [.int .u8 k] := e
    obtain ⟨c, hc⟩ := u8_of_wf hw
    exact ⟨c, by rw [(List.cons.inj e').1, hc]⟩
  refine ⟨cs.map fun v => UInt8.ofNat (intOf v).toNat, ?_, by simpa using hl⟩
  unfold bu
  rw [List.map_map]
  apply List.ext_getElem (by simp)
  intro i h1 h2
  obtain ⟨c, hc⟩ := each i h1
  rw [List.getElem_map, hc]
  show Value.int .u8 (c.toNat : Int) = .int .u8 (((UInt8.ofNat ((c.toNat : Nat) : Int).toNat).toNat : Nat) : Int)
  simp
set_option maxRecDepth 100000 in
theorem open_vc {W : World} {v : Value} {d : DataW H} {ps : List MemPlace} {n : Nat} {T : TypeId} (ht : Tryd.prog.underlying T = some (.array n 5)) (hc : Tryd.prog.cellsOf T = n) (hv : Value.okWide Tryd.prog W .any base T v) (h : DataW.Trod enc Tryd.prog W 0 (fun _ => true) true T v d ps) :
    ∃ L : List UInt8, v = .agg (bu L).toArray ∧ L.length = n := by
  unfold Value.okWide at hv
  rw [ht] at hv
  obtain ⟨cs, rfl, hs, _⟩ := hv
  obtain ⟨fuel, hf⟩ := h
  obtain ⟨L, hL, hn⟩ := bytes_of ht (show cs.toList.length = n by rw [Array.length_toList, hs, hc]) hf
  refine ⟨L, ?_, hn⟩
  congr 1
  apply Array.toList_inj.1
  rw [List.toList_toArray]
  exact hL
set_option maxRecDepth 100000 in
theorem open_v4 {W : World} {v : Value} {d : DataW H} {ps : List MemPlace} (hv : Value.okWide Tryd.prog W .any base 28 v) (h : DataW.Trod enc Tryd.prog W 0 (fun _ => true) true 28 v d ps) :
    ∃ L : List UInt8, v = .agg (bu L).toArray ∧ L.length = 4 := open_vc Tryd.underlying28 (by kernel_rfl) hv h
set_option maxRecDepth 100000 in
theorem open_n4 {W : World} {v : Value} {d : DataW H} {ps : List MemPlace} (hv : Value.okWide Tryd.prog W .any base 32 v) (h : DataW.Trod enc Tryd.prog W 0 (fun _ => true) true 32 v d ps) :
    ∃ p : Nn, v = .agg p.vals.toArray ∧ p.ad.length = 4 := by
  obtain ⟨cs, rfl, hsz⟩ := okWide_struct Tryd.underlying32 hv
  rw [Tryd.cN4] at hsz
  obtain ⟨l⟩ := cs
  have hl : l.length = 5 := hsz
  obtain ⟨fuel, hf⟩ := h
  obtain ⟨xs, n, _, _, _, hlen, hg⟩ := DataW.trod_struct Tryd.underlying32 hf
  have hlen' : xs.length = 2 := hlen
  have f0 : DataW.trod enc Tryd.prog W 0 (fun _ => true) true n 28 ((l.drop 0).take (Tryd.prog.cellsOf 28)) = xs[0]? := hg 0 _ rfl
  have f1 : DataW.trod enc Tryd.prog W 0 (fun _ => true) true n 3 ((l.drop 4).take (Tryd.prog.cellsOf 3)) = xs[1]? := hg 1 _ rfl
  rw [Tryd.cV4, List.drop_zero] at f0
  rw [Tryd.cInt] at f1
  obtain ⟨y0, g0⟩ := some_ofc f0 (by omega)
  obtain ⟨y1, g1⟩ := some_ofc f1 (by omega)
  obtain ⟨L, hL, hL16⟩ := bytes_of Tryd.underlying28 (by simp; omega) g0
  obtain ⟨c, hc⟩ : ∃ c, l.drop 4 = [c] := by
    match hd : l.drop 4, (show (l.drop 4).length = 1 by simp; omega) with
    | [c], _ => exact ⟨c, rfl⟩
  rw [hc] at g1
  obtain ⟨k, e, _⟩ := DataW.trod_int Tryd.underlying3 g1
  refine ⟨⟨L, k⟩, ?_, hL16⟩
  congr 2
  show l = bu L ++ [.int .i64 k]
  rw [← hL]
  have e1 : [c] = [.int .i64 k] := by simpa using e
  rw [← e1, ← hc, List.take_append_drop]
set_option maxRecDepth 100000 in
theorem open_v6 {W : World} {v : Value} {d : DataW H} {ps : List MemPlace} (hv : Value.okWide Tryd.prog W .any base 24 v) (h : DataW.Trod enc Tryd.prog W 0 (fun _ => true) true 24 v d ps) :
    ∃ L : List UInt8, v = .agg (bu L).toArray ∧ L.length = 16 := open_vc Tryd.underlying24 (by kernel_rfl) hv h
set_option maxRecDepth 100000 in
theorem open_n6 {W : World} {v : Value} {d : DataW H} {ps : List MemPlace} (hv : Value.okWide Tryd.prog W .any base 36 v) (h : DataW.Trod enc Tryd.prog W 0 (fun _ => true) true 36 v d ps) :
    ∃ p : Nn, v = .agg p.vals.toArray ∧ p.ad.length = 16 := by
  obtain ⟨cs, rfl, hsz⟩ := okWide_struct Tryd.underlying36 hv
  rw [Tryd.cN6] at hsz
  obtain ⟨l⟩ := cs
  have hl : l.length = 17 := hsz
  obtain ⟨fuel, hf⟩ := h
  obtain ⟨xs, n, _, _, _, hlen, hg⟩ := DataW.trod_struct Tryd.underlying36 hf
  have hlen' : xs.length = 2 := hlen
  have f0 : DataW.trod enc Tryd.prog W 0 (fun _ => true) true n 24 ((l.drop 0).take (Tryd.prog.cellsOf 24)) = xs[0]? := hg 0 _ rfl
  have f1 : DataW.trod enc Tryd.prog W 0 (fun _ => true) true n 3 ((l.drop 16).take (Tryd.prog.cellsOf 3)) = xs[1]? := hg 1 _ rfl
  rw [Tryd.cV6, List.drop_zero] at f0
  rw [Tryd.cInt] at f1
  obtain ⟨y0, g0⟩ := some_ofc f0 (by omega)
  obtain ⟨y1, g1⟩ := some_ofc f1 (by omega)
  obtain ⟨L, hL, hL16⟩ := bytes_of Tryd.underlying24 (by simp; omega) g0
  obtain ⟨c, hc⟩ : ∃ c, l.drop 16 = [c] := by
    match hd : l.drop 16, (show (l.drop 16).length = 1 by simp; omega) with
    | [c], _ => exact ⟨c, rfl⟩
  rw [hc] at g1
  obtain ⟨k, e, _⟩ := DataW.trod_int Tryd.underlying3 g1
  refine ⟨⟨L, k⟩, ?_, hL16⟩
  congr 2
  show l = bu L ++ [.int .i64 k]
  rw [← hL]
  have e1 : [c] = [.int .i64 k] := by simpa using e
  rw [← e1, ← hc, List.take_append_drop]
end

set_option maxRecDepth 100000 in
theorem classWords_lifted (os : Os) (started : os.Started) (H : Type) (enc : TypeId × Value → H) :
    ReturnsInHanded {} Tryd.checked os 8 .any (fun w args => (Rows.classWordsSpec.pre enc Tryd.prog Tryd.f8 [] false w args ∧ laidMetH Tryd.prog [("math/bits.deBruijn32tab", Rows.laid_math_bits_deBruijn32tab), ("math/bits.deBruijn64tab", Rows.laid_math_bits_deBruijn64tab), ("internal/strconv.uint64pow10", Rows.laid_internal_strconv_uint64pow10)] w) ∧ sizedMet enc Tryd.prog Tryd.f8 (OpenSpec.ofChange Rows.classWordsSpec) false w args)
      (Rows.classWordsSpec.post enc Tryd.prog Tryd.f8 false true false false) := by
  refine returnsInHanded_of_calls Tryd.own started (by kernel_rfl)
    (ChangeSpec.witness_at (enc := enc) (C := Tryd.checked) (os := os) (X := fun w _ => laidMetH Tryd.prog [("math/bits.deBruijn32tab", Rows.laid_math_bits_deBruijn32tab), ("math/bits.deBruijn64tab", Rows.laid_math_bits_deBruijn64tab), ("internal/strconv.uint64pow10", Rows.laid_internal_strconv_uint64pow10)] w) false (laidWorldc os) #[.agg #[.int .u8 0, .int .u8 0, .int .u8 0, .int .u8 0, .int .u8 0, .int .u8 0, .int .u8 0, .int .u8 0, .int .u8 0, .int .u8 0, .int .u8 0, .int .u8 0, .int .u8 0, .int .u8 0, .int .u8 0, .int .u8 0], .int .u8 0, .int .u8 0, .int .u8 0, .int .u8 0] 8 rfl (by kernel_rfl) (by kernel_rfl) (by kernel_rfl) (by kernel_rfl) (by kernel_rfl) (laidWorldc_met3 os _)) ?_
  intro w tape i _ hsh _ hok hpre _
  obtain ⟨_, _, _, fn', hfn', _, _, _, _, hval0⟩ := hok
  obtain rfl : fn' = Tryd.f8 := Option.some.inj (hfn'.symm.trans Tryd.func8)
  obtain ⟨⟨⟨ds, gs, before, hw, _⟩, hx⟩, _⟩ := hpre
  have hW := DataW.Whole.of_heap (w' := w.forCall tape i) (by rfl) hw
  have hL : laidMetH Tryd.prog [("math/bits.deBruijn32tab", Rows.laid_math_bits_deBruijn32tab), ("math/bits.deBruijn64tab", Rows.laid_math_bits_deBruijn64tab), ("internal/strconv.uint64pow10", Rows.laid_internal_strconv_uint64pow10)] (w.forCall tape i) := hx.of_heap (by rfl)
  suffices hS : Calls Tryd.prog 8 i.args (w.forCall tape i) fun e W' => ∃ v, e = .returned v ∧ Rows.classWordsSpec.post enc Tryd.prog Tryd.f8 false true false false (w.forCall tape i) i.args v W' by
    refine hS.mono fun e W' ⟨v, he, hp⟩ => ?_
    subst he
    exact ChangeSpec.post_blind hp
  have hval : ∀ (j : Nat) t v, Tryd.f8.params[j]? = some t → i.args[j]? = some v → Value.okWide Tryd.prog (w.forCall tape i) .any w.heap.size t v := hval0
  generalize i.args = args at hW hval
  generalize w.forCall tape i = W at hW hL hval hsh
  generalize w.heap.size = base at hval
  have hW' := hW
  obtain ⟨p, q, hA0, hV, rfl, hfz, hnd⟩ := hW
  have hA : DataW.TrodAll enc Tryd.prog W 0 (fun _ => true) true Tryd.f8.params.toList args.toList ds p := hA0
  rw [Tryd.params8] at hA hval
  obtain ⟨v0, vs0, d0, ds0, p0, q0, hs0, rfl, rfl, h0, r0⟩ := trodAll_cons hA
  obtain ⟨v1, vs1, d1, ds1, p1, q1, hs1, rfl, rfl, h1, r1⟩ := trodAll_cons r0
  obtain ⟨v2, vs2, d2, ds2, p2, q2, hs2, rfl, rfl, h2, r2⟩ := trodAll_cons r1
  obtain ⟨v3, vs3, d3, ds3, p3, q3, hs3, rfl, rfl, h3, r3⟩ := trodAll_cons r2
  obtain ⟨v4, vs4, d4, ds4, p4, q4, hs4, rfl, rfl, h4, r4⟩ := trodAll_cons r3
  obtain ⟨rfl, rfl, rfl⟩ := trodAll_nil r4
  subst hs4
  subst hs3
  subst hs2
  subst hs1
  obtain rfl : args = #[v0, v1, v2, v3, v4] := by apply Array.toList_inj.1; exact hs0
  clear hs0
  obtain ⟨rfl, rfl⟩ := trodVars_none hV
  obtain ⟨A0, rfl, m0⟩ := open_v6 (hval 0 24 v0 rfl rfl) h0
  obtain ⟨a1, rfl, rfl, rfl, w1⟩ := open_int Tryd.underlying5 (hval 1 5 v1 rfl rfl) h1
  obtain ⟨c1, rfl⟩ := u8_of_wf w1
  obtain ⟨a2, rfl, rfl, rfl, w2⟩ := open_int Tryd.underlying5 (hval 2 5 v2 rfl rfl) h2
  obtain ⟨c2, rfl⟩ := u8_of_wf w2
  obtain ⟨a3, rfl, rfl, rfl, w3⟩ := open_int Tryd.underlying5 (hval 3 5 v3 rfl rfl) h3
  obtain ⟨c3, rfl⟩ := u8_of_wf w3
  obtain ⟨a4, rfl, rfl, rfl, w4⟩ := open_int Tryd.underlying5 (hval 4 5 v4 rfl rfl) h4
  obtain ⟨c4, rfl⟩ := u8_of_wf w4
  clear hA0
  simp only [List.append_nil] at hW'
  have hlt : ∀ x ∈ p0 ++ ([] ++ ([] ++ ([] ++ ([] ++ [])))), x.block < W.heap.size := fun x hx => hW'.lt x (by simpa using hx)
  refine (classWords_any A0 c1 c2 c3 c4 W m0 (hw_of3 hsh hL)).mono fun e W' ⟨he, hb⟩ => ?_
  subst he
  refine ⟨_, rfl, _, _, _, [], p0 ++ ([] ++ ([] ++ ([] ++ ([] ++ [])))), [], hW', ?_, ?_, ?_, hb.frame _, fun h => by cases h⟩
  · exact trodAll_mk1 (shut_bool Tryd.underlying4 true)
  · exact (trodAll_cons_mk (Below.trod Tryd.laidOut (by kernel_rfl) (of_decide_eq_true (by kernel_rfl)) h0 hb (fun x hx => hlt x (by simp [hx]))) (trodAll_cons_mk (shut_int Tryd.underlying5 w1) (trodAll_cons_mk (shut_int Tryd.underlying5 w2) (trodAll_cons_mk (shut_int Tryd.underlying5 w3) (trodAll_cons_mk (shut_int Tryd.underlying5 w4) trodAll_mk0)))))
  · rfl

theorem classWords_holds : Rows.ClassWordsSaid :=
  OpenClaim.holds_of_wide 8 Tryd.f8 rfl rfl rfl rfl rfl rfl rfl ⟨rfl, rfl, rfl, rfl, rfl⟩ rfl rfl rfl rfl rfl (by kernel_rfl) Tryd.func8 (by kernel_rfl)
    (of_decide_eq_true (by kernel_rfl)) (by unfold Func.isWrapper; rw [if_neg (of_decide_eq_false (by kernel_rfl))]; exact ⟨rfl, rfl⟩)
    (fun os started H enc _ => classWords_lifted os started H enc)

theorem classWords_card : Rows.ClassWordsCardSaid :=
  Claim7.holds_tied_plain_at .later [] _ _ _ _
    classWords_holds (fun _ h => by cases h) (by kernel_rfl) (fun _ h => by cases h) classWords_row_tie rfl ⟨rfl, rfl⟩ (by kernel_rfl) rfl
    (fun f fn hf hfn => by
      obtain rfl : f = 8 := Option.some.inj ((show Tryd.prog.funcNamed "interpreter/interpreterlaw10.ClassWords" = some 8 by kernel_rfl).symm.trans hf) |>.symm
      obtain rfl : fn = Tryd.f8 := (Option.some.inj (Tryd.func8.symm.trans hfn)).symm
      exact ⟨by kernel_rfl, fun j t ht => by
        rw [Tryd.params8] at ht
        have h3 : t = 24 ∨ t = 5 := by
          rcases j with _ | _ | _ | _ | _ | j
          · exact (.inl (by simpa using ht.symm))
          · exact (.inr (by simpa using ht.symm))
          · exact (.inr (by simpa using ht.symm))
          · exact (.inr (by simpa using ht.symm))
          · exact (.inr (by simpa using ht.symm))
          · simp at ht
        rcases h3 with rfl | rfl
        · exact (show Tryd.prog.wantsStandIn 24 = false by kernel_rfl)
        · exact (show Tryd.prog.wantsStandIn 5 = false by kernel_rfl)⟩)
    (by kernel_rfl)
end Go.Proofs.YtkdplnbabelkoaaDoor
