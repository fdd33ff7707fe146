/-
  Proved here: how a packet by value among a row's arguments is opened.
  Conditions: none.
-/
import Derived.Test.YtkihhmnlefekoaaOpen
import Derived.Test.YtkihhmnlefekoaaFParse
namespace Go.Proofs.Ytkihhmnlefekoaa.P4
open Go.ChangeShapes Go.WideShapes Go.RowKit Go.ChangeMaps Go.Deep

def Pkt.byt (p : Pkt) : Prop := (0 ≤ p.a0 ∧ p.a0 < 256) ∧ (0 ≤ p.a1 ∧ p.a1 < 256) ∧ (0 ≤ p.a2 ∧ p.a2 < 256) ∧ (0 ≤ p.a3 ∧ p.a3 < 256) ∧ (0 ≤ p.b0 ∧ p.b0 < 256) ∧ (0 ≤ p.b1 ∧ p.b1 < 256) ∧ (0 ≤ p.b2 ∧ p.b2 < 256) ∧ (0 ≤ p.b3 ∧ p.b3 < 256)
theorem Try.cellsB : Try.prog.cellsOf 5 = 1 := by kernel_rfl
theorem Try.cellsI : Try.prog.cellsOf 3 = 1 := by kernel_rfl
theorem Try.cellsBool : Try.prog.cellsOf 4 = 1 := by kernel_rfl
theorem Try.cellsStr : Try.prog.cellsOf 9 = 1 := by kernel_rfl
theorem Try.cellsV4 : Try.prog.cellsOf 23 = 4 := by kernel_rfl
theorem Try.cellsIp : Try.prog.cellsOf 25 = 17 := by kernel_rfl
theorem list16v {l : List Value} (h : l.length = 17) : ∃ (a : List Value) (b : List Value), l = a ++ b ∧ a.length = 8 ∧ b.length = 9 := ⟨l.take 8, l.drop 8, (List.take_append_drop 8 l).symm, by simp; omega, by simp; omega⟩
theorem eight_of {l : List Value} (h : l.length = 8) : ∃ c0 c1 c2 c3 c4 c5 c6 c7, l = [c0, c1, c2, c3, c4, c5, c6, c7] := by
  match l, h with
  | [c0, c1, c2, c3, c4, c5, c6, c7], _ => exact ⟨c0, c1, c2, c3, c4, c5, c6, c7, rfl⟩
theorem nine_of {l : List Value} (h : l.length = 9) : ∃ c0 c1 c2 c3 c4 c5 c6 c7 c8, l = [c0, c1, c2, c3, c4, c5, c6, c7, c8] := by
  match l, h with
  | [c0, c1, c2, c3, c4, c5, c6, c7, c8], _ => exact ⟨c0, c1, c2, c3, c4, c5, c6, c7, c8, rfl⟩
section
variable {H : Type} {enc : TypeId × Value → H} {w : World} {base : Nat} {spare : Nat → Bool} {held : Bool} {n : Nat}
theorem some_of {X : Type} {a : Option X} {xs : List X} {i : Nat} (h : a = xs[i]?) (hi : i < xs.length) : ∃ y, a = some y := ⟨xs[i], by rw [h, List.getElem?_eq_getElem hi]⟩
theorem byte_of {c : Value} {y : DataW H × List MemPlace} (h : DataW.trod enc Try.prog w base spare held n 5 [c] = some y) : ∃ k : Int, c = .int .u8 k ∧ 0 ≤ k ∧ k < 256 := by
  obtain ⟨k, e, _, hw⟩ := DataW.trod_int Try.underlying5 h
  have h3 : 0 ≤ k ∧ k ≤ 255 := by simpa [Lit.wf, IntKind.min, IntKind.max, IntKind.signed, IntKind.bits] using hw
  exact ⟨k, by simpa using e, h3.1, by omega⟩
set_option maxRecDepth 100000 in
theorem quad_of {x0 x1 x2 x3 : Value} {y : DataW H × List MemPlace} (h : DataW.trod enc Try.prog w base spare held n 23 [x0, x1, x2, x3] = some y) :
    ∃ k0 k1 k2 k3 : Int, x0 = .int .u8 k0 ∧ x1 = .int .u8 k1 ∧ x2 = .int .u8 k2 ∧ x3 = .int .u8 k3 ∧ (0 ≤ k0 ∧ k0 < 256) ∧ (0 ≤ k1 ∧ k1 < 256) ∧ (0 ≤ k2 ∧ k2 < 256) ∧ (0 ≤ k3 ∧ k3 < 256) := by
  obtain ⟨xs, m, _, _, _, hl, hall⟩ := DataW.trod_array Try.underlying23 h
  have e0 := hall 0 (by omega)
  have e1 := hall 1 (by omega)
  have e2 := hall 2 (by omega)
  have e3 := hall 3 (by omega)
  rw [Try.cellsB] at e0 e1 e2 e3
  obtain ⟨y0, g0⟩ := some_of e0 (by omega)
  obtain ⟨y1, g1⟩ := some_of e1 (by omega)
  obtain ⟨y2, g2⟩ := some_of e2 (by omega)
  obtain ⟨y3, g3⟩ := some_of e3 (by omega)
  obtain ⟨k0, r0, q0⟩ := byte_of (c := x0) g0
  obtain ⟨k1, r1, q1⟩ := byte_of (c := x1) g1
  obtain ⟨k2, r2, q2⟩ := byte_of (c := x2) g2
  obtain ⟨k3, r3, q3⟩ := byte_of (c := x3) g3
  exact ⟨k0, k1, k2, k3, r0, r1, r2, r3, q0, q1, q2, q3⟩
set_option maxRecDepth 100000 in
theorem open_pkt {W : World} {v : Value} {d : DataW H} {ps : List MemPlace} (hv : Value.okWide Try.prog W .any base 25 v) (h : DataW.Trod enc Try.prog W 0 (fun _ => true) true 25 v d ps) :
    ∃ p : Pkt, v = .agg p.vals.toArray ∧ p.byt := by
  obtain ⟨cs, rfl, hsz⟩ := okWide_struct Try.underlying25 hv
  rw [Try.cellsIp] at hsz
  obtain ⟨l⟩ := cs
  obtain ⟨la, lb', rfl, ha, hb⟩ := list16v (l := l) hsz
  obtain ⟨c0, c1, c2, c3, c4, c5, c6, c7, rfl⟩ := eight_of ha
  obtain ⟨c8, c9, c10, c11, c12, c13, c14, c15, c16, rfl⟩ := nine_of hb
  obtain ⟨fuel, hf⟩ := h
  obtain ⟨xs, n, _, _, _, hlen, hg⟩ := DataW.trod_struct Try.underlying25 hf
  have hlen' : xs.length = 11 := hlen
  have f0 : DataW.trod enc Try.prog W 0 (fun _ => true) true n 3 (([c0, c1, c2, c3, c4, c5, c6, c7, c8, c9, c10, c11, c12, c13, c14, c15, c16].drop 0).take (Try.prog.cellsOf 3)) = xs[0]? := hg 0 _ rfl
  have f1 : DataW.trod enc Try.prog W 0 (fun _ => true) true n 3 (([c0, c1, c2, c3, c4, c5, c6, c7, c8, c9, c10, c11, c12, c13, c14, c15, c16].drop 1).take (Try.prog.cellsOf 3)) = xs[1]? := hg 1 _ rfl
  have f2 : DataW.trod enc Try.prog W 0 (fun _ => true) true n 3 (([c0, c1, c2, c3, c4, c5, c6, c7, c8, c9, c10, c11, c12, c13, c14, c15, c16].drop 2).take (Try.prog.cellsOf 3)) = xs[2]? := hg 2 _ rfl
  have f3 : DataW.trod enc Try.prog W 0 (fun _ => true) true n 3 (([c0, c1, c2, c3, c4, c5, c6, c7, c8, c9, c10, c11, c12, c13, c14, c15, c16].drop 3).take (Try.prog.cellsOf 3)) = xs[3]? := hg 3 _ rfl
  have f4 : DataW.trod enc Try.prog W 0 (fun _ => true) true n 3 (([c0, c1, c2, c3, c4, c5, c6, c7, c8, c9, c10, c11, c12, c13, c14, c15, c16].drop 4).take (Try.prog.cellsOf 3)) = xs[4]? := hg 4 _ rfl
  have f5 : DataW.trod enc Try.prog W 0 (fun _ => true) true n 4 (([c0, c1, c2, c3, c4, c5, c6, c7, c8, c9, c10, c11, c12, c13, c14, c15, c16].drop 5).take (Try.prog.cellsOf 4)) = xs[5]? := hg 5 _ rfl
  have f6 : DataW.trod enc Try.prog W 0 (fun _ => true) true n 4 (([c0, c1, c2, c3, c4, c5, c6, c7, c8, c9, c10, c11, c12, c13, c14, c15, c16].drop 6).take (Try.prog.cellsOf 4)) = xs[6]? := hg 6 _ rfl
  have f7 : DataW.trod enc Try.prog W 0 (fun _ => true) true n 23 (([c0, c1, c2, c3, c4, c5, c6, c7, c8, c9, c10, c11, c12, c13, c14, c15, c16].drop 7).take (Try.prog.cellsOf 23)) = xs[7]? := hg 7 _ rfl
  have f8 : DataW.trod enc Try.prog W 0 (fun _ => true) true n 23 (([c0, c1, c2, c3, c4, c5, c6, c7, c8, c9, c10, c11, c12, c13, c14, c15, c16].drop 11).take (Try.prog.cellsOf 23)) = xs[8]? := hg 8 _ rfl
  have f9 : DataW.trod enc Try.prog W 0 (fun _ => true) true n 9 (([c0, c1, c2, c3, c4, c5, c6, c7, c8, c9, c10, c11, c12, c13, c14, c15, c16].drop 15).take (Try.prog.cellsOf 9)) = xs[9]? := hg 9 _ rfl
  have f10 : DataW.trod enc Try.prog W 0 (fun _ => true) true n 9 (([c0, c1, c2, c3, c4, c5, c6, c7, c8, c9, c10, c11, c12, c13, c14, c15, c16].drop 16).take (Try.prog.cellsOf 9)) = xs[10]? := hg 10 _ rfl
  rw [Try.cellsI] at f0
  obtain ⟨y0, g0⟩ := some_of f0 (by omega)
  have g0' : DataW.trod enc Try.prog W 0 (fun _ => true) true n 3 [c0] = some y0 := g0
  obtain ⟨n0, e0, _⟩ := DataW.trod_int Try.underlying3 g0'
  obtain rfl : c0 = .int .i64 n0 := by simpa using e0
  rw [Try.cellsI] at f1
  obtain ⟨y1, g1⟩ := some_of f1 (by omega)
  have g1' : DataW.trod enc Try.prog W 0 (fun _ => true) true n 3 [c1] = some y1 := g1
  obtain ⟨n1, e1, _⟩ := DataW.trod_int Try.underlying3 g1'
  obtain rfl : c1 = .int .i64 n1 := by simpa using e1
  rw [Try.cellsI] at f2
  obtain ⟨y2, g2⟩ := some_of f2 (by omega)
  have g2' : DataW.trod enc Try.prog W 0 (fun _ => true) true n 3 [c2] = some y2 := g2
  obtain ⟨n2, e2, _⟩ := DataW.trod_int Try.underlying3 g2'
  obtain rfl : c2 = .int .i64 n2 := by simpa using e2
  rw [Try.cellsI] at f3
  obtain ⟨y3, g3⟩ := some_of f3 (by omega)
  have g3' : DataW.trod enc Try.prog W 0 (fun _ => true) true n 3 [c3] = some y3 := g3
  obtain ⟨n3, e3, _⟩ := DataW.trod_int Try.underlying3 g3'
  obtain rfl : c3 = .int .i64 n3 := by simpa using e3
  rw [Try.cellsI] at f4
  obtain ⟨y4, g4⟩ := some_of f4 (by omega)
  have g4' : DataW.trod enc Try.prog W 0 (fun _ => true) true n 3 [c4] = some y4 := g4
  obtain ⟨n4, e4, _⟩ := DataW.trod_int Try.underlying3 g4'
  obtain rfl : c4 = .int .i64 n4 := by simpa using e4
  rw [Try.cellsBool] at f5
  obtain ⟨y5, g5⟩ := some_of f5 (by omega)
  have g5' : DataW.trod enc Try.prog W 0 (fun _ => true) true n 4 [c5] = some y5 := g5
  obtain ⟨n5, e5, _⟩ := DataW.trod_bool Try.underlying4 g5'
  obtain rfl : c5 = .bool n5 := by simpa using e5
  rw [Try.cellsBool] at f6
  obtain ⟨y6, g6⟩ := some_of f6 (by omega)
  have g6' : DataW.trod enc Try.prog W 0 (fun _ => true) true n 4 [c6] = some y6 := g6
  obtain ⟨n6, e6, _⟩ := DataW.trod_bool Try.underlying4 g6'
  obtain rfl : c6 = .bool n6 := by simpa using e6
  rw [Try.cellsV4] at f7
  obtain ⟨y7, g7⟩ := some_of f7 (by omega)
  have g7' : DataW.trod enc Try.prog W 0 (fun _ => true) true n 23 [c7, c8, c9, c10] = some y7 := g7
  obtain ⟨k70, k71, k72, k73, rfl, rfl, rfl, rfl, q70, q71, q72, q73⟩ := quad_of g7'
  rw [Try.cellsV4] at f8
  obtain ⟨y8, g8⟩ := some_of f8 (by omega)
  have g8' : DataW.trod enc Try.prog W 0 (fun _ => true) true n 23 [c11, c12, c13, c14] = some y8 := g8
  obtain ⟨k80, k81, k82, k83, rfl, rfl, rfl, rfl, q80, q81, q82, q83⟩ := quad_of g8'
  rw [Try.cellsStr] at f9
  obtain ⟨y9, g9⟩ := some_of f9 (by omega)
  have g9' : DataW.trod enc Try.prog W 0 (fun _ => true) true n 9 [c15] = some y9 := g9
  obtain ⟨n9, e9, _⟩ := DataW.trod_string Try.underlying9 g9'
  obtain rfl : c15 = .string n9 := by simpa using e9
  rw [Try.cellsStr] at f10
  obtain ⟨y10, g10⟩ := some_of f10 (by omega)
  have g10' : DataW.trod enc Try.prog W 0 (fun _ => true) true n 9 [c16] = some y10 := g10
  obtain ⟨n10, e10, _⟩ := DataW.trod_string Try.underlying9 g10'
  obtain rfl : c16 = .string n10 := by simpa using e10
  exact ⟨⟨n0, n1, n2, n3, n4, n5, n6, k70, k71, k72, k73, k80, k81, k82, k83, n9, n10⟩, rfl, q70, q71, q72, q73, q80, q81, q82, q83⟩
end
end Go.Proofs.Ytkihhmnlefekoaa.P4
