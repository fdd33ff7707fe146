/-
  Proved here: how a packet by value among a row's arguments is opened.
  Conditions: none.
-/
import Derived.Test.YtkihhmnlefekoaaOpen
import Derived.Test.YtkihhmnlefekoaaPk6
import Derived.Deep.Slices
import Derived.SizedLaws
namespace Go.Proofs.Ytkihhmnlefekoaa
open Go.ChangeShapes Go.WideShapes Go.RowKit Go.ChangeMaps Go.Deep

def u8i (x : Int) : UInt8 := UInt8.ofNat x.toNat
theorem u8i_nat {x : Int} (h0 : 0 ≤ x) (h1 : x < 256) : (((u8i x).toNat : Nat) : Int) = x := by
  unfold u8i
  rw [UInt8.toNat_ofNat']
  omega
theorem Try.cellsB : Try.prog.cellsOf 5 = 1 := by kernel_rfl
theorem Try.cellsI : Try.prog.cellsOf 3 = 1 := by kernel_rfl
theorem Try.cellsW : Try.prog.cellsOf 30 = 1 := by kernel_rfl
theorem Try.cellsBool : Try.prog.cellsOf 4 = 1 := by kernel_rfl
theorem Try.cellsStr : Try.prog.cellsOf 9 = 1 := by kernel_rfl
theorem Try.cellsV6 : Try.prog.cellsOf 32 = 16 := by kernel_rfl
theorem Try.cellsExt : Try.prog.cellsOf 38 = 2 := by kernel_rfl
theorem Try.cellsExts : Try.prog.cellsOf 33 = 1 := by kernel_rfl
theorem Try.cellsIp6 : Try.prog.cellsOf 35 = 42 := by kernel_rfl
theorem Try.bytesExt : Try.prog.bytesOf 38 = 24 := by kernel_rfl
theorem weights_all {H : Type} {P : Program} {e : TypeId} : ∀ {l : List (DataW H)} {d : DataW H}, d ∈ l → ∀ n ∈ d.weights P e, n ∈ DataW.weightsAll P e l
  | c :: r, d, hd, n, hn => by
    unfold DataW.weightsAll
    rcases List.mem_cons.1 hd with rfl | h
    · exact List.mem_append_left _ hn
    · exact List.mem_append_right _ (weights_all h n hn)
section
variable {H : Type} {enc : TypeId × Value → H} {w : World} {base : Nat} {spare : Nat → Bool} {held : Bool} {n : Nat}
theorem some_of {X : Type} {a : Option X} {xs : List X} {i : Nat} (h : a = xs[i]?) (hi : i < xs.length) : a = some xs[i] := by rw [h, List.getElem?_eq_getElem hi]
set_option maxRecDepth 100000 in
theorem v6_of {cs : List Value} {y : DataW H × List MemPlace} (hl : cs.length = 16) (h : DataW.trod enc Try.prog w base spare held n 32 cs = some y) : ∃ L : List UInt8, cs = bytV L ∧ L.length = 16 := by
  obtain ⟨xs, m, _, _, _, hx, hall⟩ := DataW.trod_array Try.underlying32 h
  have each : ∀ i (hi : i < cs.length), ∃ k : Int, cs[i] = .int .u8 k ∧ 0 ≤ k ∧ k < 256 := by
    intro i hi
    have h1 := hall i (by omega)
    rw [Try.cellsB, Nat.mul_one, List.drop_eq_getElem_cons hi, List.getElem?_eq_getElem (by omega)] at h1
    obtain ⟨k, e, _, hw⟩ := DataW.trod_int Try.underlying5 h1
    have h3 : 0 ≤ k ∧ k ≤ 255 := by simpa [Lit.wf, IntKind.min, IntKind.max, IntKind.signed, IntKind.bits] using hw
    have e' : [cs[i]] = [Value.int .u8 k] := e
    exact ⟨k, (List.cons.inj e').1, h3.1, by omega⟩
  refine ⟨cs.map (fun v => u8i (intOf v)), ?_, by simpa using hl⟩
  unfold bytV
  rw [List.map_map]
  apply List.ext_getElem (by simp)
  intro i h1 h2
  obtain ⟨k, hk, h0, h3⟩ := each i h1
  rw [List.getElem_map, hk]
  show Value.int .u8 k = Value.int .u8 ((u8i k).toNat : Int)
  rw [u8i_nat h0 h3]
set_option maxRecDepth 100000 in
theorem ext_of {cs : List Value} {y : DataW H × List MemPlace} (h : DataW.trod enc Try.prog w base spare held n 38 cs = some y) : ∃ (k : Int) (b : ByteArray), cs = [.int .i64 k, .string b] ∧ b.size ∈ y.1.weights Try.prog 38 := by
  obtain ⟨xs, m, _, rfl, hl, hx, hg⟩ := DataW.trod_struct Try.underlying38 h
  rw [Try.cellsExt] at hl
  have hx2 : xs.length = 2 := hx
  match cs, hl with
  | [c0, c1], _ =>
    have f0 : DataW.trod enc Try.prog w base spare held m 3 (([c0, c1].drop 0).take (Try.prog.cellsOf 3)) = xs[0]? := hg 0 _ rfl
    have f1 : DataW.trod enc Try.prog w base spare held m 9 (([c0, c1].drop 1).take (Try.prog.cellsOf 9)) = xs[1]? := hg 1 _ rfl
    rw [Try.cellsI] at f0
    rw [Try.cellsStr] at f1
    have g0 : DataW.trod enc Try.prog w base spare held m 3 [c0] = some xs[0] := some_of f0 (by omega)
    have g1 : DataW.trod enc Try.prog w base spare held m 9 [c1] = some xs[1] := some_of f1 (by omega)
    obtain ⟨k, e0, _⟩ := DataW.trod_int Try.underlying3 g0
    obtain ⟨b, e1, hd, _⟩ := DataW.trod_string Try.underlying9 g1
    obtain rfl : c0 = .int .i64 k := by simpa using e0
    obtain rfl : c1 = .string b := by simpa using e1
    refine ⟨k, b, rfl, ?_⟩
    show b.size ∈ DataW.weights Try.prog 38 (.agg (xs.map (·.1)))
    unfold DataW.weights
    rw [Try.underlying38]
    refine DataW.weights_mem_each (j := 1) (t := 9) (d := .lit (.string b.data.toList)) rfl ?_ _ ?_
    · rw [List.getElem?_map, List.getElem?_eq_getElem (show 1 < xs.length by omega), hd]
      rfl
    · unfold DataW.weights
      rw [ba_size]
      exact List.mem_singleton.2 rfl
set_option maxRecDepth 100000 in
theorem exts_of {W : World} {c : Value} {y : DataW H × List MemPlace} (h : DataW.trod enc Try.prog W 0 (fun _ => true) true n 33 [c] = some y) :
    ∃ l : List (Int × ByteArray), Exs W c l ∧ (l = [] ∨ ∃ b ∈ y.1.weights Try.prog 33, l.length * 24 ≤ b) ∧ ∀ e ∈ l, e.2.size ∈ y.1.weights Try.prog 33 := by
  rcases open_slice Try.underlying33 h with ⟨hc, hx⟩ | ⟨a, len, cap, m, n', Dd, Pl, hc, _, hl, hm, hmm, hx, hall⟩
  · obtain rfl : c = .slice none 0 0 := by simpa using hc
    exact ⟨[], ⟨none, 0, rfl, fun i hi => by cases hi⟩, .inl rfl, fun e he => by cases he⟩
  · obtain rfl : c = .slice (some a) len cap := by simpa using hc
    simp only [if_true] at hmm
    subst hmm
    rw [Try.cellsExt] at hall
    have each : ∀ i, i < len → ∃ x : Int × ByteArray, W.cell? (a.add (i * 2 + 0)) = some (.int .i64 x.1) ∧ W.cell? (a.add (i * 2 + 1)) = some (.string x.2) ∧ x.2.size ∈ (Dd i).weights Try.prog 38 := by
      intro i hi
      obtain ⟨cs', hcs, ht⟩ := hall i (by omega)
      obtain ⟨k, b, rfl, hw⟩ := ext_of ht
      obtain ⟨_, _, hat⟩ := World.cells?_some hcs
      have h0 := hat 0 (by omega)
      have h1 := hat 1 (by omega)
      rw [Go.Deep.add_add] at h0 h1
      exact ⟨(k, b), h0, h1, hw⟩
    obtain ⟨f, hf⟩ : ∃ f : Nat → Int × ByteArray, ∀ i, i < len → W.cell? (a.add (i * 2 + 0)) = some (.int .i64 (f i).1) ∧ W.cell? (a.add (i * 2 + 1)) = some (.string (f i).2) ∧ (f i).2.size ∈ (Dd i).weights Try.prog 38 := by
      refine ⟨fun i => if hi : i < len then Classical.choose (each i hi) else (0, ⟨#[]⟩), fun i hi => ?_⟩
      simp only [dif_pos hi]
      exact Classical.choose_spec (each i hi)
    have hw : y.1.weights Try.prog 33 = (((List.range len).map Dd).length + ((List.range (m - len)).map fun j => Dd (len + j)).length) * Try.prog.bytesOf 38 :: (DataW.weightsAll Try.prog 38 ((List.range len).map Dd) ++ DataW.weightsAll Try.prog 38 ((List.range (m - len)).map fun j => Dd (len + j))) := by
      rw [hx]
      show DataW.weights Try.prog 33 (.slice _ _) = _
      rw [DataW.weights, Try.underlying33]
    refine ⟨(List.range len).map f, ⟨some a, m, by rw [List.length_map, List.length_range], fun i hi => ?_⟩, .inr ⟨_, by rw [hw]; exact List.mem_cons_self, ?_⟩, fun e he => ?_⟩
    · have hi' : i < len := by simpa using hi
      obtain ⟨g0, g1, _⟩ := hf i hi'
      obtain ⟨ab, o, spot⟩ := a
      have hspot : spot = none := by simpa [Addr.add] using World.cell?_spot (hf 0 (by omega)).1
      subst hspot
      rw [add_plain] at g0 g1
      rw [List.getElem_map, List.getElem_range]
      exact ⟨ab, o, rfl, g0, by rw [Nat.add_assoc]; exact g1⟩
    · rw [Try.bytesExt]
      simp only [List.length_map, List.length_range]
      omega
    · obtain ⟨i, hi, rfl⟩ := List.mem_map.1 he
      have hi' : i < len := List.mem_range.1 hi
      rw [hw]
      refine List.mem_cons_of_mem _ (List.mem_append_left _ (weights_all (d := Dd i) (List.mem_map.2 ⟨i, hi, rfl⟩) _ (hf i hi').2.2))
theorem list42 {l : List Value} (h : l.length = 42) : ∃ (c0 c1 c2 : Value) (a b : List Value) (c35 c36 c37 c38 c39 c40 c41 : Value), l = c0 :: c1 :: c2 :: (a ++ (b ++ [c35, c36, c37, c38, c39, c40, c41])) ∧ a.length = 16 ∧ b.length = 16 := by
  match l, h with
  | c0 :: c1 :: c2 :: r, h =>
    have hr : r.length = 39 := by simpa using h
    have h7 : (r.drop 32).length = 7 := by rw [List.length_drop]; omega
    have e : r = r.take 16 ++ ((r.drop 16).take 16 ++ r.drop 32) := by
      conv => lhs; rw [← List.take_append_drop 16 r, ← List.take_append_drop 16 (r.drop 16), List.drop_drop]
    have ha : (r.take 16).length = 16 := by rw [List.length_take]; omega
    have hb : ((r.drop 16).take 16).length = 16 := by rw [List.length_take, List.length_drop]; omega
    revert e ha hb
    generalize r.take 16 = a
    generalize (r.drop 16).take 16 = b
    generalize r.drop 32 = c at h7 ⊢
    intro e ha hb
    match c, h7 with
    | [x0, x1, x2, x3, x4, x5, x6], _ => exact ⟨c0, c1, c2, a, b, x0, x1, x2, x3, x4, x5, x6, by rw [e], ha, hb⟩
/-- The packet's sizes are within the reach. -/
structure Reach6 (p : Pk6) : Prop where
  len : p.exts.length ≤ 281474976710656
  data : p.data.size ≤ 281474976710656
  body : ∀ e ∈ p.exts, e.2.size ≤ 281474976710656
  id : 0 ≤ p.id ∧ p.id < 4294967296
set_option maxRecDepth 100000 in
theorem open_pk6 {W : World} {v : Value} {d : DataW H} {ps : List MemPlace} (hv : Value.okWide Try.prog W .any base 35 v) (h : DataW.Trod enc Try.prog W 0 (fun _ => true) true 35 v d ps)
    (hreach : ∀ n ∈ d.weights Try.prog 35, n ≤ reachBytes) :
    ∃ (p : Pk6) (sv : Value), v = .agg (p.vals sv).toArray ∧ Exs W sv p.exts ∧ Reach6 p := by
  obtain ⟨cs, rfl, hsz⟩ := okWide_struct Try.underlying35 hv
  rw [Try.cellsIp6] at hsz
  obtain ⟨l⟩ := cs
  obtain ⟨c0, c1, c2, a, b, c35, c36, c37, c38, c39, c40, c41, hl, ha, hb⟩ := list42 (l := l) hsz
  obtain ⟨fuel, hf⟩ := h
  obtain ⟨xs, n, _, hd, _, hlen, hg⟩ := DataW.trod_struct Try.underlying35 hf
  have hlen' : xs.length = 12 := hlen
  have hcl : (Value.agg ⟨l⟩).cells.toList = l := rfl
  have hd1 : d = .agg (xs.map (·.1)) := congrArg Prod.fst hd
  have hwe : d.weights Try.prog 35 = DataW.weightsEach Try.prog [3, 3, 3, 32, 32, 33, 4, 30, 3, 4, 3, 9] (xs.map (·.1)) := by
    rw [hd1]
    unfold DataW.weights
    rw [Try.underlying35]
    rfl
  rw [hcl, hl] at hg
  have f0 : DataW.trod enc Try.prog W 0 (fun _ => true) true n 3 (((c0 :: c1 :: c2 :: (a ++ (b ++ [c35, c36, c37, c38, c39, c40, c41]))).drop 0).take (Try.prog.cellsOf 3)) = xs[0]? := hg 0 _ rfl
  have k0 : (((c0 :: c1 :: c2 :: (a ++ (b ++ [c35, c36, c37, c38, c39, c40, c41]))).drop 0).take (Try.prog.cellsOf 3)) = [c0] := by
    rw [Try.cellsI]
    rfl
  rw [k0] at f0
  clear k0
  have g0 := some_of f0 (by omega)
  clear f0
  have f1 : DataW.trod enc Try.prog W 0 (fun _ => true) true n 3 (((c0 :: c1 :: c2 :: (a ++ (b ++ [c35, c36, c37, c38, c39, c40, c41]))).drop 1).take (Try.prog.cellsOf 3)) = xs[1]? := hg 1 _ rfl
  have k1 : (((c0 :: c1 :: c2 :: (a ++ (b ++ [c35, c36, c37, c38, c39, c40, c41]))).drop 1).take (Try.prog.cellsOf 3)) = [c1] := by
    rw [Try.cellsI]
    rfl
  rw [k1] at f1
  clear k1
  have g1 := some_of f1 (by omega)
  clear f1
  have f2 : DataW.trod enc Try.prog W 0 (fun _ => true) true n 3 (((c0 :: c1 :: c2 :: (a ++ (b ++ [c35, c36, c37, c38, c39, c40, c41]))).drop 2).take (Try.prog.cellsOf 3)) = xs[2]? := hg 2 _ rfl
  have k2 : (((c0 :: c1 :: c2 :: (a ++ (b ++ [c35, c36, c37, c38, c39, c40, c41]))).drop 2).take (Try.prog.cellsOf 3)) = [c2] := by
    rw [Try.cellsI]
    rfl
  rw [k2] at f2
  clear k2
  have g2 := some_of f2 (by omega)
  clear f2
  have f3 : DataW.trod enc Try.prog W 0 (fun _ => true) true n 32 (((c0 :: c1 :: c2 :: (a ++ (b ++ [c35, c36, c37, c38, c39, c40, c41]))).drop 3).take (Try.prog.cellsOf 32)) = xs[3]? := hg 3 _ rfl
  have k3 : (((c0 :: c1 :: c2 :: (a ++ (b ++ [c35, c36, c37, c38, c39, c40, c41]))).drop 3).take (Try.prog.cellsOf 32)) = a := by
    rw [Try.cellsV6]
    show (a ++ _).take 16 = a
    rw [← ha, List.take_left]
  rw [k3] at f3
  clear k3
  have g3 := some_of f3 (by omega)
  clear f3
  have f4 : DataW.trod enc Try.prog W 0 (fun _ => true) true n 32 (((c0 :: c1 :: c2 :: (a ++ (b ++ [c35, c36, c37, c38, c39, c40, c41]))).drop 19).take (Try.prog.cellsOf 32)) = xs[4]? := hg 4 _ rfl
  have k4 : (((c0 :: c1 :: c2 :: (a ++ (b ++ [c35, c36, c37, c38, c39, c40, c41]))).drop 19).take (Try.prog.cellsOf 32)) = b := by
    rw [Try.cellsV6]
    show ((a ++ _).drop 16).take 16 = b
    rw [← ha, List.drop_left, ha, ← hb, List.take_left]
  rw [k4] at f4
  clear k4
  have g4 := some_of f4 (by omega)
  clear f4
  have f5 : DataW.trod enc Try.prog W 0 (fun _ => true) true n 33 (((c0 :: c1 :: c2 :: (a ++ (b ++ [c35, c36, c37, c38, c39, c40, c41]))).drop 35).take (Try.prog.cellsOf 33)) = xs[5]? := hg 5 _ rfl
  have k5 : (((c0 :: c1 :: c2 :: (a ++ (b ++ [c35, c36, c37, c38, c39, c40, c41]))).drop 35).take (Try.prog.cellsOf 33)) = [c35] := by
    rw [Try.cellsExts]
    show ((a ++ (b ++ [c35, c36, c37, c38, c39, c40, c41])).drop 32).take 1 = [c35]
    rw [show 32 = a.length + (b.length + 0) by omega, ← List.drop_drop, List.drop_left, ← List.drop_drop, List.drop_left]
    rfl
  rw [k5] at f5
  clear k5
  have g5 := some_of f5 (by omega)
  clear f5
  have f6 : DataW.trod enc Try.prog W 0 (fun _ => true) true n 4 (((c0 :: c1 :: c2 :: (a ++ (b ++ [c35, c36, c37, c38, c39, c40, c41]))).drop 36).take (Try.prog.cellsOf 4)) = xs[6]? := hg 6 _ rfl
  have k6 : (((c0 :: c1 :: c2 :: (a ++ (b ++ [c35, c36, c37, c38, c39, c40, c41]))).drop 36).take (Try.prog.cellsOf 4)) = [c36] := by
    rw [Try.cellsBool]
    show ((a ++ (b ++ [c35, c36, c37, c38, c39, c40, c41])).drop 33).take 1 = [c36]
    rw [show 33 = a.length + (b.length + 1) by omega, ← List.drop_drop, List.drop_left, ← List.drop_drop, List.drop_left]
    rfl
  rw [k6] at f6
  clear k6
  have g6 := some_of f6 (by omega)
  clear f6
  have f7 : DataW.trod enc Try.prog W 0 (fun _ => true) true n 30 (((c0 :: c1 :: c2 :: (a ++ (b ++ [c35, c36, c37, c38, c39, c40, c41]))).drop 37).take (Try.prog.cellsOf 30)) = xs[7]? := hg 7 _ rfl
  have k7 : (((c0 :: c1 :: c2 :: (a ++ (b ++ [c35, c36, c37, c38, c39, c40, c41]))).drop 37).take (Try.prog.cellsOf 30)) = [c37] := by
    rw [Try.cellsW]
    show ((a ++ (b ++ [c35, c36, c37, c38, c39, c40, c41])).drop 34).take 1 = [c37]
    rw [show 34 = a.length + (b.length + 2) by omega, ← List.drop_drop, List.drop_left, ← List.drop_drop, List.drop_left]
    rfl
  rw [k7] at f7
  clear k7
  have g7 := some_of f7 (by omega)
  clear f7
  have f8 : DataW.trod enc Try.prog W 0 (fun _ => true) true n 3 (((c0 :: c1 :: c2 :: (a ++ (b ++ [c35, c36, c37, c38, c39, c40, c41]))).drop 38).take (Try.prog.cellsOf 3)) = xs[8]? := hg 8 _ rfl
  have k8 : (((c0 :: c1 :: c2 :: (a ++ (b ++ [c35, c36, c37, c38, c39, c40, c41]))).drop 38).take (Try.prog.cellsOf 3)) = [c38] := by
    rw [Try.cellsI]
    show ((a ++ (b ++ [c35, c36, c37, c38, c39, c40, c41])).drop 35).take 1 = [c38]
    rw [show 35 = a.length + (b.length + 3) by omega, ← List.drop_drop, List.drop_left, ← List.drop_drop, List.drop_left]
    rfl
  rw [k8] at f8
  clear k8
  have g8 := some_of f8 (by omega)
  clear f8
  have f9 : DataW.trod enc Try.prog W 0 (fun _ => true) true n 4 (((c0 :: c1 :: c2 :: (a ++ (b ++ [c35, c36, c37, c38, c39, c40, c41]))).drop 39).take (Try.prog.cellsOf 4)) = xs[9]? := hg 9 _ rfl
  have k9 : (((c0 :: c1 :: c2 :: (a ++ (b ++ [c35, c36, c37, c38, c39, c40, c41]))).drop 39).take (Try.prog.cellsOf 4)) = [c39] := by
    rw [Try.cellsBool]
    show ((a ++ (b ++ [c35, c36, c37, c38, c39, c40, c41])).drop 36).take 1 = [c39]
    rw [show 36 = a.length + (b.length + 4) by omega, ← List.drop_drop, List.drop_left, ← List.drop_drop, List.drop_left]
    rfl
  rw [k9] at f9
  clear k9
  have g9 := some_of f9 (by omega)
  clear f9
  have f10 : DataW.trod enc Try.prog W 0 (fun _ => true) true n 3 (((c0 :: c1 :: c2 :: (a ++ (b ++ [c35, c36, c37, c38, c39, c40, c41]))).drop 40).take (Try.prog.cellsOf 3)) = xs[10]? := hg 10 _ rfl
  have k10 : (((c0 :: c1 :: c2 :: (a ++ (b ++ [c35, c36, c37, c38, c39, c40, c41]))).drop 40).take (Try.prog.cellsOf 3)) = [c40] := by
    rw [Try.cellsI]
    show ((a ++ (b ++ [c35, c36, c37, c38, c39, c40, c41])).drop 37).take 1 = [c40]
    rw [show 37 = a.length + (b.length + 5) by omega, ← List.drop_drop, List.drop_left, ← List.drop_drop, List.drop_left]
    rfl
  rw [k10] at f10
  clear k10
  have g10 := some_of f10 (by omega)
  clear f10
  have f11 : DataW.trod enc Try.prog W 0 (fun _ => true) true n 9 (((c0 :: c1 :: c2 :: (a ++ (b ++ [c35, c36, c37, c38, c39, c40, c41]))).drop 41).take (Try.prog.cellsOf 9)) = xs[11]? := hg 11 _ rfl
  have k11 : (((c0 :: c1 :: c2 :: (a ++ (b ++ [c35, c36, c37, c38, c39, c40, c41]))).drop 41).take (Try.prog.cellsOf 9)) = [c41] := by
    rw [Try.cellsStr]
    show ((a ++ (b ++ [c35, c36, c37, c38, c39, c40, c41])).drop 38).take 1 = [c41]
    rw [show 38 = a.length + (b.length + 6) by omega, ← List.drop_drop, List.drop_left, ← List.drop_drop, List.drop_left]
    rfl
  rw [k11] at f11
  clear k11
  have g11 := some_of f11 (by omega)
  clear f11
  obtain ⟨n0, e0, _⟩ := DataW.trod_int Try.underlying3 g0
  obtain rfl : c0 = .int .i64 n0 := by simpa using e0
  obtain ⟨n1, e1, _⟩ := DataW.trod_int Try.underlying3 g1
  obtain rfl : c1 = .int .i64 n1 := by simpa using e1
  obtain ⟨n2, e2, _⟩ := DataW.trod_int Try.underlying3 g2
  obtain rfl : c2 = .int .i64 n2 := by simpa using e2
  obtain ⟨L3, r3, l3⟩ := v6_of ha g3
  subst r3
  obtain ⟨L4, r4, l4⟩ := v6_of hb g4
  subst r4
  obtain ⟨le, hex, hlw, hbw⟩ := exts_of g5
  obtain ⟨n6, e6, _⟩ := DataW.trod_bool Try.underlying4 g6
  obtain rfl : c36 = .bool n6 := by simpa using e6
  obtain ⟨n7, e7, _, hw7⟩ := DataW.trod_int Try.underlying30 g7
  obtain rfl : c37 = .int .u32 n7 := by simpa using e7
  obtain ⟨n8, e8, _⟩ := DataW.trod_int Try.underlying3 g8
  obtain rfl : c38 = .int .i64 n8 := by simpa using e8
  obtain ⟨n9, e9, _⟩ := DataW.trod_bool Try.underlying4 g9
  obtain rfl : c39 = .bool n9 := by simpa using e9
  obtain ⟨n10, e10, _⟩ := DataW.trod_int Try.underlying3 g10
  obtain rfl : c40 = .int .i64 n10 := by simpa using e10
  obtain ⟨n11, e11, hs11, _⟩ := DataW.trod_string Try.underlying9 g11
  obtain rfl : c41 = .string n11 := by simpa using e11
  have hI : 0 ≤ n7 ∧ n7 ≤ 4294967295 := by simpa [Lit.wf, IntKind.min, IntKind.max, IntKind.signed, IntKind.bits] using hw7
  have w5 : ∀ x ∈ xs[5].1.weights Try.prog 33, x ≤ reachBytes := fun x hx => hreach x (by
    rw [hwe]
    exact DataW.weights_mem_each (j := 5) (t := 33) (d := xs[5].1) rfl (by rw [List.getElem?_map, List.getElem?_eq_getElem (show 5 < xs.length by omega)]; rfl) x hx)
  have w11 : n11.size ≤ reachBytes := hreach _ (by
    rw [hwe]
    refine DataW.weights_mem_each (j := 11) (t := 9) (d := xs[11].1) rfl (by rw [List.getElem?_map, List.getElem?_eq_getElem (show 11 < xs.length by omega)]; rfl) _ ?_
    rw [hs11]
    unfold DataW.weights
    rw [ba_size]
    exact List.mem_singleton.2 rfl)
  have hrb : reachBytes < 140737488355328 := reachBytes_lt
  refine ⟨⟨n0, n1, n2, L3, L4, le, n6, n7, n8, n9, n10, n11, l3, l4⟩, c35, ?_, hex, ⟨?_, ?_, ?_, hI.1, ?_⟩⟩
  · rw [hl]
    rfl
  · show le.length ≤ _
    rcases hlw with rfl | ⟨x, hx, hle⟩
    · exact Nat.zero_le _
    · have := w5 x hx
      omega
  · show n11.size ≤ _
    omega
  · intro e he
    have := w5 _ (hbw e he)
    omega
  · show n7 < _
    have := hI.2
    omega
end
end Go.Proofs.Ytkihhmnlefekoaa
