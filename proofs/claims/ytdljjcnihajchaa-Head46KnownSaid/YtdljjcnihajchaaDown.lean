/-
  Proved here: what slices.Backward's iterator over extensions hands a loop.
  Conditions: the slice's cells hold formed extensions, in a block below a bound.
-/
import Derived.Test.YtdljjcnihajchaaBounds
import Derived.RangeFuncNested
import Derived.RangeFuncBound
import Derived.RangeFuncCalls
import Derived.RangeFuncLeaves
import Derived.Shelf.Abstract
import Derived.Shelf.RegionOpen
import Derived.OwnWalkIn
import Derived.TacticsInMore
import Derived.LoopNIn
import Derived.LoopIn
namespace Go.Proofs.Ytdljjcnihajchaa
open Go.RowKit Go.Shelf

attribute [local go_sem] Oper.semAt_some

/-- A formed extension. -/
abbrev GE := { e : Int × ByteArray // isEx e.1 ∧ e.2.size ≤ 2046 ∧ e.2.size % 8 = 6 }
def ge0 : GE := ⟨(0, ⟨#[0, 0, 0, 0, 0, 0]⟩), .inl rfl, by decide, by decide⟩
/-- An item: where it stands, and what it is. -/
def encG (x : Nat × GE) : Array Value := #[.int .i64 (x.1 : Int), .agg #[.int .i64 x.2.1.1, .string x.2.1.2]]
def uptoE {α : Type} (f : Nat → α) (k : Nat) : List α := (List.range k).map f
theorem uptoE_succ {α : Type} (f : Nat → α) (k : Nat) : uptoE f (k + 1) = uptoE f k ++ [f k] := by simp [uptoE, List.range_succ]
theorem uptoE_length {α : Type} (f : Nat → α) (k : Nat) : (uptoE f k).length = k := by simp [uptoE]
/-- The j-th item from behind. -/
def dn (zs : List GE) (j : Nat) : Nat × GE := (zs.length - 1 - j, zs.getD (zs.length - 1 - j) ge0)
theorem dn_at (zs : List GE) (m : Nat) (h : m < zs.length) : dn zs (zs.length - (m + 1)) = (m, zs[m]) := by
  unfold dn
  rw [show zs.length - 1 - (zs.length - (m + 1)) = m by omega, List.getD_eq_getElem?_getD, List.getElem?_eq_getElem h]
  rfl

/-- What a round keeps: what lay below n₀, and the block Bs. -/
def KpB (n₀ Bs : Nat) (A B : World) : Prop := Below n₀ A B ∧ B.heap[Bs]? = A.heap[Bs]?
theorem KpB.refl (n₀ Bs : Nat) (A : World) : KpB n₀ Bs A A := ⟨Below.refl _ _, rfl⟩
theorem KpB.trans {n₀ Bs : Nat} {A B C : World} (h : KpB n₀ Bs A B) (g : KpB n₀ Bs B C) : KpB n₀ Bs A C := ⟨h.1.trans g.1, g.2.trans h.2⟩
theorem KpB.box {n₀ Bs : Nat} {A B : World} {v : Value} (h : KpB n₀ Bs A B) (hc : A.cell? ⟨Bs, 0, none⟩ = some v) : B.cell? ⟨Bs, 0, none⟩ = some v := by
  rw [← hc]
  unfold World.cell?
  simp only [h.2]
theorem kpB_b {n₀ Bs : Nat} {w : World} (hB : Bs < w.heap.size) (hn : n₀ ≤ w.heap.size) (W : World) (l : Nat) (o o' : Obj) (hl : w.heap.size ≤ l) (h : W.heap[l]? = some o) (h1 : o.isCells = false) (h2 : o.isWalk = false) : KpB n₀ Bs W (W.putObj l o') :=
  ⟨belowK_b (w := w) hn W l o o' hl h h1 h2, World.putObj_heap_other (by omega)⟩
set_option maxRecDepth 100000 in
set_option maxHeartbeats 2000000 in
theorem down1_in (F : Fence) (n : Nat) (hF : F.fn 52) (hro : F.round = none) (hn : 1 ≤ n) (l Bs n₀ b off cap : Nat) (zs : List GE) (hreach : zs.length ≤ 1099511627776) (hb : b < n₀) (J Jx : List (Nat × GE) → World → Prop)
    (hY : ∀ pre x W, J pre W → pre.length < zs.length → YieldAt F (n - 1) Try.prog l (encG x) W fun e W' =>
      (e = .returned (.bool true) ∧ J (pre ++ [x]) W' ∧ KpB n₀ Bs W W') ∨ (e = .returned (.bool false) ∧ Jx (pre ++ [x]) W'))
    (W : World) (hBs : W.cell? ⟨Bs, 0, none⟩ = some (.slice (some ⟨b, off, none⟩) zs.length cap))
    (hc : ∀ j (h : j < zs.length), W.cell? ⟨b, off + j * 2, none⟩ = some (.int .i64 zs[j].1.1) ∧ W.cell? ⟨b, off + j * 2 + 1, none⟩ = some (.string zs[j].1.2)) (h0 : J [] W) :
    CallsIn F n Try.prog 52 #[.func (.yield l) #[] #[], .pointer (some ⟨Bs, 0, none⟩)] W fun e W' => (∃ v, e = .returned v) ∧
      ((∃ ys, ys = uptoE (dn zs) zs.length ∧ J ys W') ∨ (∃ pre, (∃ k, k ≤ zs.length ∧ pre = uptoE (dn zs) k) ∧ Jx pre W')) := by
  refine callsIn_of_wp Try.func52 rfl hF ?_ hro
  simp only [Try.ntmps52, List.size_toArray, List.length_cons, List.length_nil, Nat.reduceAdd, Nat.reduceSub, Array.replicate_succ, Array.replicate_zero, List.push_toArray, List.append_toArray, List.nil_append, List.cons_append]
  gi_wp2
  gi_loopw [3] (fun i wr => ∃ m : Nat, m ≤ zs.length ∧ i = .int .i64 ((m : Int) - 1) ∧ J (uptoE (dn zs) (zs.length - m)) wr ∧ KpB n₀ Bs W wr)
    (fun i _ => (intOf i + 1).toNat)
  case atStart => exact ⟨zs.length, Nat.le_refl _, rfl, by rw [Nat.sub_self]; exact h0, KpB.refl _ _ _⟩
  case round =>
    obtain ⟨m, hm, hi, hJs, hnx⟩ := hrel
    cases m with
    | zero =>
      obtain rfl := hi
      gi_wp2
      go_end0
      exact ⟨⟨_, rfl⟩, .inl ⟨_, rfl, hJs⟩⟩
    | succ m =>
      rw [show (((m + 1 : Nat) : Int) - 1) = (m : Int) by omega] at hi
      obtain rfl := hi
      obtain ⟨c1, c2⟩ := hc m (by omega)
      have c1' := (hnx.1.cell (p := ⟨b, off + m * 2, none⟩) hb).trans c1
      have c2' := (hnx.1.cell (p := ⟨b, off + m * 2 + 1, none⟩) hb).trans c2
      have cB' := hnx.box hBs
      obtain ⟨fn, tmps, assign, body, hy, hR⟩ := hY _ (m, zs[m]) wr hJs (by rw [uptoE_length]; omega)
      have hnn := uptoE_succ (dn zs) (zs.length - (m + 1))
      rw [dn_at zs m (by omega)] at hnn
      rw [← hnn] at hR
      have HNN := Lib.hid hnn
      clear hnn c1 c2 hc hBs h0
      generalize zs[m] = z at *
      obtain ⟨⟨kd, bd⟩, hz⟩ := z
      dsimp only [encG] at hy c1' c2'
      have hm2 : (m : Int) < (zs.length : Int) := by omega
      gi_wp2
      refine hR.mono ?_
      rintro e W3 (⟨rfl, hJ3, hk3⟩ | ⟨rfl, hJx3⟩)
      · gi_wp2
        go_roundw
        case rel => exact ⟨m, by omega, rfl, by rw [show zs.length - m = zs.length - (m + 1) + 1 by omega]; exact hJ3, hnx.trans hk3⟩
        case measure => simp [intOf]
      · gi_wp2
        refine bodyPost_ret (results_none rfl _ _ _) rfl ?_
        exact ⟨⟨_, rfl⟩, .inr ⟨_, ⟨zs.length - (m + 1) + 1, by omega, rfl⟩, hJx3⟩⟩
set_option maxRecDepth 100000 in
set_option maxHeartbeats 1000000 in
/-- .. where there is none: no round. -/
theorem down0_in (F : Fence) (n : Nat) (hF : F.fn 52) (hro : F.round = none) (l Bs : Nat) (ao : Option Addr) (cap : Nat) (J : List (Nat × GE) → World → Prop) (W : World) (hBs : W.cell? ⟨Bs, 0, none⟩ = some (.slice ao 0 cap)) (h0 : J [] W) :
    CallsIn F n Try.prog 52 #[.func (.yield l) #[] #[], .pointer (some ⟨Bs, 0, none⟩)] W fun e W' => (∃ v, e = .returned v) ∧ J [] W' := by
  refine callsIn_of_wp Try.func52 rfl hF ?_ hro
  simp only [Try.ntmps52, List.size_toArray, List.length_cons, List.length_nil, Nat.reduceAdd, Nat.reduceSub, Array.replicate_succ, Array.replicate_zero, List.push_toArray, List.append_toArray, List.nil_append, List.cons_append]
  gi_wp2
  gi_loopw [3] (fun i wr => i = .int .i64 (-1) ∧ J [] wr) (fun _ _ => 0)
  case atStart => exact ⟨rfl, h0⟩
  case round =>
    obtain ⟨rfl, hJs⟩ := hrel
    gi_wp2
    go_end0
    exact ⟨⟨_, rfl⟩, hJs⟩
/-- The slice is boxed; the function value captures the box. -/
theorem back_in (F : Fence) (n : Nat) (hF : F.fn 43) (hro : F.round = none) (a : Option Addr) (len cap : Nat) (w : World) :
    CallsIn F n Try.prog 43 #[.slice a len cap] w fun e w' => e = .returned (.func (.func 52) #[] #[.pointer (some ⟨w.heap.size, 0, none⟩)]) ∧ w' = w.alloc (.cells #[.slice a len cap] 24) := by
  refine callsIn_of_wp Try.func43 rfl hF ?_ hro
  simp only [Try.ntmps43, List.size_toArray, List.length_cons, List.length_nil, Nat.reduceAdd, Nat.reduceSub, Array.replicate_succ, Array.replicate_zero, List.push_toArray, List.append_toArray, List.nil_append, List.cons_append]
  gi_wp2
  go_ret
  exact ⟨rfl, rfl⟩
/-- A slice that reads as these extensions, in a block below n₀ where there are some. -/
def Gs (n₀ : Nat) (W : World) (sv : Value) (zs : List GE) : Prop :=
  ∃ ao cap, sv = .slice ao zs.length cap ∧ (zs = [] ∨ ∃ b off, ao = some ⟨b, off, none⟩ ∧ b < n₀ ∧ ∀ j (h : j < zs.length), W.cell? ⟨b, off + j * 2, none⟩ = some (.int .i64 zs[j].1.1) ∧ W.cell? ⟨b, off + j * 2 + 1, none⟩ = some (.string zs[j].1.2))
theorem Gs.below {n₀ : Nat} {W W' : World} {sv : Value} {zs : List GE} (h : Gs n₀ W sv zs) (hb : Below n₀ W W') : Gs n₀ W' sv zs := by
  obtain ⟨ao, cap, e, h | ⟨b, off, e2, hlt, hc⟩⟩ := h
  · exact ⟨ao, cap, e, .inl h⟩
  · exact ⟨ao, cap, e, .inr ⟨b, off, e2, hlt, fun j hj => ⟨(hb.cell (p := ⟨b, off + j * 2, none⟩) hlt).trans (hc j hj).1, (hb.cell (p := ⟨b, off + j * 2 + 1, none⟩) hlt).trans (hc j hj).2⟩⟩⟩
theorem gs_of {w : World} {v : Value} {l : List (Int × ByteArray)} {zs : List GE} (h : Exs w v l) (hz : zs.map Subtype.val = l) : Gs w.heap.size w v zs := by
  obtain ⟨ao, cap, rfl, hc⟩ := h
  have hl : zs.length = l.length := by rw [← hz, List.length_map]
  refine ⟨ao, cap, by rw [hl], ?_⟩
  cases zs with
  | nil => exact .inl rfl
  | cons z r =>
    right
    obtain ⟨b, o, rfl, h1, _⟩ := hc 0 (by rw [← hl]; simp)
    refine ⟨b, o, rfl, World.block_lt_of_cell? w ⟨b, o + 0 * 2, none⟩ h1, fun j hj => ?_⟩
    obtain ⟨b', o', e, g1, g2⟩ := hc j (by rw [← hl]; exact hj)
    have e2 : b' = b ∧ o' = o := by
      injection e with e
      injection e with e1 e2 e3
      exact ⟨e1.symm, e2.symm⟩
    obtain ⟨rfl, rfl⟩ := e2
    subst hz
    rw [List.getElem_map] at g1 g2
    exact ⟨g1, g2⟩
/-- slices.Backward hands back a value that stops: all, from behind; or the first ones of these. -/
theorem back_stops (F : Fence) (n : Nat) (hF : F.fn 52) (hro : F.round = none) (hn : 1 ≤ n) (Bs n₀ : Nat) (sv : Value) (zs : List GE) (hreach : zs.length ≤ 1099511627776) (w : World) (hBs : Bs < w.heap.size) (hn₀ : n₀ ≤ w.heap.size)
    (hc : w.cell? ⟨Bs, 0, none⟩ = some sv) (hI : Gs n₀ w sv zs) :
    SeqStopsK F n Try.prog 52 #[.pointer (some ⟨Bs, 0, none⟩)] encG (KpB n₀ Bs) (fun ys => ys = uptoE (dn zs) zs.length)
      (fun pre => ∃ k, k ≤ zs.length ∧ pre = uptoE (dn zs) k) zs.length w := fun l J Jx W hW _ _ hY h0 => by
  have hc' := (hW.cell (p := ⟨Bs, 0, none⟩) hBs).trans hc
  obtain ⟨ao, cap, rfl, rfl | ⟨b, off, rfl, hb, hcs⟩⟩ := hI.below (hW.mono hn₀)
  · exact (down0_in F n hF hro l Bs ao cap J W hc' h0).mono fun e W' ⟨he, hj⟩ => ⟨he, .inl ⟨_, rfl, hj⟩⟩
  · exact down1_in F n hF hro hn l Bs n₀ b off cap zs hreach hb J Jx hY W hc' hcs h0
end Go.Proofs.Ytdljjcnihajchaa
