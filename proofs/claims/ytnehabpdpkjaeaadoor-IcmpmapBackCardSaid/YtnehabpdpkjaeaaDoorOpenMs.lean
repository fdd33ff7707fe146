/-
  Proved here: how a message by value among a row's arguments is opened.
  Conditions: none.
-/
import Derived.Test.YtnehabpdpkjaeaaDoorOpen
import Derived.Test.YtnehabpdpkjaeaaDoorBlocks
import Derived.Deep.Slices
import Derived.SizedLaws
namespace Go.Proofs.YtnehabpdpkjaeaaDoor
open Go.ChangeShapes Go.WideShapes Go.RowKit Go.ChangeMaps Go.Deep

/-- A message, as it is opened. -/
structure Ms where
  kd : Int
  cd : Int
  rs : Nat
  da : ByteArray
theorem Tryd.cellsI : Tryd.prog.cellsOf 3 = 1 := by kernel_rfl
theorem Tryd.cellsU : Tryd.prog.cellsOf 22 = 1 := by kernel_rfl
theorem Tryd.cellsStr : Tryd.prog.cellsOf 9 = 1 := by kernel_rfl
theorem Tryd.cellsMs : Tryd.prog.cellsOf 24 = 4 := by kernel_rfl
section
variable {H : Type} {enc : TypeId × Value → H} {base : Nat}
theorem some_of {X : Type} {a : Option X} {xs : List X} {i : Nat} (h : a = xs[i]?) (hi : i < xs.length) : ∃ y, a = some y := ⟨xs[i], by rw [h, List.getElem?_eq_getElem hi]⟩
set_option maxRecDepth 100000 in
theorem open_ms {W : World} {v : Value} {d : DataW H} {ps : List MemPlace} (hv : Value.okWide Tryd.prog W .any base 24 v) (h : DataW.Trod enc Tryd.prog W 0 (fun _ => true) true 24 v d ps) :
    ∃ p : Ms, p.rs < 4294967296 ∧ v = .agg #[.int .i64 p.kd, .int .i64 p.cd, .int .u32 (p.rs : Nat), .string p.da] := by
  obtain ⟨cs, rfl, hsz⟩ := okWide_struct Tryd.underlying24 hv
  rw [Tryd.cellsMs] at hsz
  obtain ⟨l⟩ := cs
  obtain ⟨c0, c1, c2, c3, rfl⟩ : ∃ c0 c1 c2 c3, l = [c0, c1, c2, c3] := by
    match l, hsz with
    | [c0, c1, c2, c3], _ => exact ⟨c0, c1, c2, c3, rfl⟩
  obtain ⟨fuel, hf⟩ := h
  obtain ⟨xs, n, _, _, _, hlen, hg⟩ := DataW.trod_struct Tryd.underlying24 hf
  have hlen' : xs.length = 4 := hlen
  have f0 : DataW.trod enc Tryd.prog W 0 (fun _ => true) true n 3 (([c0, c1, c2, c3].drop 0).take (Tryd.prog.cellsOf 3)) = xs[0]? := hg 0 _ rfl
  have f1 : DataW.trod enc Tryd.prog W 0 (fun _ => true) true n 3 (([c0, c1, c2, c3].drop 1).take (Tryd.prog.cellsOf 3)) = xs[1]? := hg 1 _ rfl
  have f2 : DataW.trod enc Tryd.prog W 0 (fun _ => true) true n 22 (([c0, c1, c2, c3].drop 2).take (Tryd.prog.cellsOf 22)) = xs[2]? := hg 2 _ rfl
  have f3 : DataW.trod enc Tryd.prog W 0 (fun _ => true) true n 9 (([c0, c1, c2, c3].drop 3).take (Tryd.prog.cellsOf 9)) = xs[3]? := hg 3 _ rfl
  rw [Tryd.cellsI] at f0 f1
  rw [Tryd.cellsU] at f2
  rw [Tryd.cellsStr] at f3
  obtain ⟨y0, g0⟩ := some_of f0 (by omega)
  have g0' : DataW.trod enc Tryd.prog W 0 (fun _ => true) true n 3 [c0] = some y0 := g0
  obtain ⟨n0, e0, _⟩ := DataW.trod_int Tryd.underlying3 g0'
  obtain rfl : c0 = .int .i64 n0 := by simpa using e0
  obtain ⟨y1, g1⟩ := some_of f1 (by omega)
  have g1' : DataW.trod enc Tryd.prog W 0 (fun _ => true) true n 3 [c1] = some y1 := g1
  obtain ⟨n1, e1, _⟩ := DataW.trod_int Tryd.underlying3 g1'
  obtain rfl : c1 = .int .i64 n1 := by simpa using e1
  obtain ⟨y2, g2⟩ := some_of f2 (by omega)
  have g2' : DataW.trod enc Tryd.prog W 0 (fun _ => true) true n 22 [c2] = some y2 := g2
  obtain ⟨n2, e2, _, hwf⟩ := DataW.trod_int Tryd.underlying22 g2'
  obtain rfl : c2 = .int .u32 n2 := by simpa using e2
  obtain ⟨y3, g3⟩ := some_of f3 (by omega)
  have g3' : DataW.trod enc Tryd.prog W 0 (fun _ => true) true n 9 [c3] = some y3 := g3
  obtain ⟨n3, e3, _⟩ := DataW.trod_string Tryd.underlying9 g3'
  obtain rfl : c3 = .string n3 := by simpa using e3
  have hb : 0 ≤ n2 ∧ n2 ≤ 4294967295 := by simpa [Lit.wf, IntKind.min, IntKind.max, IntKind.signed, IntKind.bits] using hwf
  obtain ⟨m, rfl⟩ : ∃ m : Nat, n2 = m := ⟨n2.toNat, by omega⟩
  exact ⟨⟨n0, n1, m, n3⟩, by show m < 4294967296; omega, rfl⟩
end
end Go.Proofs.YtnehabpdpkjaeaaDoor
