/-
  Proved here: what a block of cells is behind stores of one and of many cells; how several blocks are kept; small laws of the walk.
  Conditions: none.
-/
import Derived.Test.YtnehabpdpkjaeaaDoorProg
import Derived.WalkKit
import Derived.Handy
import Derived.Lib.Hide
import Derived.BigQuiet
import Derived.Deep.QuietTactic
import Derived.Deep.MidRow
import Derived.Deep.Cut
import Derived.Deep.AppendLies
import Derived.IntWalk
import Derived.OwnWalk
import Derived.Laws.BytesArg
import Derived.KernelRfl
import Derived.Deep.RegionHeld3
import Derived.WalkSpells
import Derived.OneCell
import Derived.Below
import Derived.Outline
import Derived.Great.Walk
import Derived.Lib.LazyBuf
namespace Go.Proofs.YtnehabpdpkjaeaaDoor
open Go.RowKit

/-- A block that is known whole. -/
def Bk (w : World) (b : Nat) (T : TypeId) (A : Array Value) : Prop := w.heap[b]? = some (.cells A T (0, 0))
/-- Values put into an array, one behind the other. -/
def puts (A : Array Value) (o : Nat) : List Value → Array Value
  | [] => A
  | v :: r => puts (A.setIfInBounds o v) (o + 1) r
section
variable {w w' : World} {b k : Nat} {T : TypeId} {A : Array Value} {V : List Value}
theorem Bk.lt (h : Bk w b T A) : b < w.heap.size := by
  rcases Nat.lt_or_ge b w.heap.size with hl | hg
  · exact hl
  · unfold Bk at h; rw [Array.getElem?_eq_none hg] at h; cases h
theorem Bk.below {B : Nat} (h : Bk w b T A) (hb : Below B w w') (hB : b < B) : Bk w' b T A := (hb.block b hB).trans h
theorem Bk.grown {row : Option Nat} (h : Bk w b T A) (g : w.grownBy w' row) (hne : some b ≠ row) : Bk w' b T A := (g.block b h.lt hne).trans h
theorem Bk.alloc (h : Bk w b T A) (o : Obj) : Bk (w.alloc o) b T A := (Below.heap_alloc w o b h.lt).trans h
theorem Bk.range (h : Bk w b T A) : w.rangeAt b 0 A.toList := by
  intro j v hv
  unfold Bk at h
  simp only [World.cell?, h, Nat.zero_add]
  simpa using hv
theorem Bk.c (h : Bk w b T A) (i : Nat) (v : Value) (hv : A[i]? = some v) : w.cell? ⟨b, i, none⟩ = some v := by
  have := h.range i v (by simpa using hv)
  simpa using this
theorem Bk.at (h : Bk w b T V.toArray) {i : Nat} {v : Value} (hv : V[i]? = some v) : w.cell? ⟨b, i, none⟩ = some v := h.c i v (by simpa using hv)
theorem Bk.z (h : Bk w b T A) (o : Nat) : w.frozen? ⟨b, o, none⟩ = false := by unfold Bk at h; simp [World.frozen?, h]
theorem bk_new (w : World) (T : TypeId) (A : Array Value) : Bk (w.alloc (.cells A T)) w.heap.size T A := heap_alloc_new w _
theorem Bk.set (h : Bk w b T A) (i : Nat) (v : Value) : Bk (w.setCell ⟨b, i, none⟩ v) b T (A.setIfInBounds i v) := by
  have hlt := h.lt
  unfold Bk at h
  have h' : w.heap[b] = .cells A T (0, 0) := by simpa [Array.getElem?_eq_getElem hlt] using h
  show (w.heap.modify b _)[b]? = _
  rw [Array.getElem?_eq_getElem (by simpa using hlt), Array.getElem_modify_self, h']
  rfl
theorem Bk.sets (vs : List Value) : ∀ (o : Nat) (w : World) (A : Array Value), Bk w b T A → Bk (w.setCells b o vs) b T (puts A o vs) := by
  induction vs with
  | nil => intro o w A h; exact h
  | cons v r ih => intro o w A h; exact ih (o + 1) _ _ (h.set o v)
theorem heap_sets (vs : List Value) (hk : k ≠ b) : ∀ (o : Nat) (w : World), (w.setCells b o vs).heap[k]? = w.heap[k]? := by
  induction vs with
  | nil => intro o w; rfl
  | cons v r ih => intro o w; exact (ih (o + 1) _).trans (Below.heap_setCell _ _ _ _ hk)
theorem Bk.sets_other (h : Bk w k T A) (hc : k ≠ b) (o : Nat) (vs : List Value) : Bk (w.setCells b o vs) k T A := (heap_sets vs hc o w).trans h
theorem Bk.set_other (h : Bk w k T A) (hc : k ≠ b) (o : Nat) (v : Value) : Bk (w.setCell ⟨b, o, none⟩ v) k T A := (Below.heap_setCell _ _ _ _ hc).trans h
theorem Bk.there (h : Bk w b T A) (n : Nat) (hn : n ≤ A.size) : w.there b 0 n := by
  intro j hj
  rw [Nat.zero_add]
  refine ⟨?_, h.z j⟩
  rw [h.c j A[j] (by simp)]
  rfl
theorem Bk.there' (h : Bk w b T A) (o n : Nat) (hn : o + n ≤ A.size) : w.there b o n := by
  intro j hj
  refine ⟨?_, h.z _⟩
  rw [h.c (o + j) (A[o + j]'(by omega)) (by simp)]
  rfl
theorem below_sets {B : Nat} (vs : List Value) (hb : B ≤ b) : ∀ (o : Nat) (w' : World), Below B w w' → Below B w (w'.setCells b o vs) := by
  induction vs with
  | nil => intro o w' h; exact h
  | cons v r ih => intro o w' h; exact ih (o + 1) _ (h.setCell (by exact hb) v)
theorem size_sets (vs : List Value) : ∀ (o : Nat) (w : World), (w.setCells b o vs).heap.size = w.heap.size := by
  induction vs with
  | nil => intro o w; rfl
  | cons v r ih => intro o w; exact (ih (o + 1) _).trans (by simp [World.setCell])
end
theorem puts_list (vs : List Value) : ∀ (o : Nat) (A : Array Value), o + vs.length ≤ A.size → (puts A o vs).toList = A.toList.take o ++ vs ++ A.toList.drop (o + vs.length) := by
  induction vs with
  | nil => intro o A _; simp [puts]
  | cons v r ih =>
    intro o A h
    simp only [List.length_cons] at h
    show (puts (A.setIfInBounds o v) (o + 1) r).toList = _
    rw [ih (o + 1) _ (by simp; omega), Array.toList_setIfInBounds, List.take_set, List.drop_set_of_lt (by omega), List.take_succ_eq_append_getElem (by simp; omega), List.set_append_right _ _ (by simp; omega)]
    have e : (A.toList.take o).length = o := by simp; omega
    rw [e, Nat.sub_self, List.set_cons_zero, List.length_cons, show o + 1 + r.length = o + (r.length + 1) by omega]
    simp
/-- A whole array put over another one of its length. -/
theorem puts_whole (A : Array Value) (V : List Value) (h : V.length = A.size) : puts A 0 V = V.toArray := by
  apply Array.toList_inj.1
  rw [puts_list _ _ _ (by omega), List.take_zero, List.nil_append, Nat.zero_add, h, List.drop_of_length_le (by simp), List.append_nil]
theorem results_cell {P : Program} {fn : Func} {t : Tmp} {T : TypeId} {tmps : Array Value} {w : World} {b o : Nat} {v : Value} (h : fn.results = #[.cell t T]) (hv : tmps.getD t undef = .pointer (some ⟨b, o, none⟩)) (hl : (loadVar T ⟨b, o, none⟩).run P w = .ok v w) :
    (results fn tmps).run P w = .ok v w := by
  have hv' : tmps[t]?.getD undef = .pointer (some ⟨b, o, none⟩) := by simpa using hv
  simp [results, h, hv', asAddr, hl]
theorem results_cell2 {P : Program} {fn : Func} {t u : Tmp} {T : TypeId} {tmps : Array Value} {w : World} {b o : Nat} {v x : Value} (h : fn.results = #[.cell t T, .tmp u]) (hv : tmps.getD t undef = .pointer (some ⟨b, o, none⟩)) (hx : tmps.getD u undef = x) (hl : (loadVar T ⟨b, o, none⟩).run P w = .ok v w) :
    (results fn tmps).run P w = .ok (.tuple #[v, x]) w := by
  have hv' : tmps[t]?.getD undef = .pointer (some ⟨b, o, none⟩) := by simpa using hv
  have hx' : tmps[u]?.getD undef = x := by simpa using hx
  simp [results, h, hv', hx', asAddr, hl]
theorem wpList_load_if {P : Program} {ops : Array Oper} {rest : List Oper} {op : Oper} {a : Act} {w : World} {Q : Exit → Act → World → Prop} (hw : Region.wanted op (yielded ops a.tmps) = true) (ty : TypeId) (x : Operand) (ho : op.op = .load ty x)
    (b o : Nat) (hx : a.eval x = .pointer (some ⟨b, o, none⟩)) (cs : List Value) (d : TypeDesc) (hc : w.rangeAt b o cs)
    (hu : P.underlying ty = some d) (hd : d.isRow = true) (hi : (P.info? ty).map (·.size) = some cs.length)
    (h : wpList P ops Q rest (a.put op.dst (.agg cs.toArray)) w) : wpList P ops Q (op :: rest) a w :=
  wpList_step fun K hK => by
    rw [if_pos hw]
    exact wp_load_mid ty x ho b o hx cs d hc hu hd hi (hK _ _ h)
theorem wpList_exec_if {P : Program} {ops : Array Oper} {rest : List Oper} {op : Oper} {a : Act} {w : World} {Q : Exit → Act → World → Prop} (hw : Region.wanted op (yielded ops a.tmps) = true) (v : Value)
    (hrun : (execOp a.eval op).run P w = .ok (.value v) w) (h : wpList P ops Q rest (a.put op.dst v) w) : wpList P ops Q (op :: rest) a w :=
  wpList_step fun K hK => by
    rw [if_pos hw]
    unfold Oper.wp
    rw [hrun]
    exact hK _ _ h

/-- What is kept: some blocks, and all that was. -/
def Kp (w0 : World) (B : Nat) (l : List (Nat × TypeId × List Value)) (w : World) : Prop := (∀ x ∈ l, Bk w x.1 x.2.1 x.2.2.toArray) ∧ Below B w0 w ∧ B ≤ w.heap.size
section
variable {w0 w w' : World} {B b c : Nat} {T : TypeId} {V : List Value} {l : List (Nat × TypeId × List Value)}
theorem Kp.start (w : World) : Kp w w.heap.size [] w := ⟨fun x hx => (by cases hx), Below.refl _ _, Nat.le_refl _⟩
theorem Kp.below {C : Nat} (h : Kp w0 B l w) (hb : Below C w w') (hC : w.heap.size ≤ C) : Kp w0 B l w' := by
  obtain ⟨h1, h2, h3⟩ := h
  exact ⟨fun x hx => (h1 x hx).below hb (Nat.lt_of_lt_of_le (h1 x hx).lt hC), h2.trans (hb.mono (Nat.le_trans h3 hC)), Nat.le_trans h3 hb.size⟩
theorem Kp.drew (h : Kp w0 B l w) : Kp w0 B l w.drew := ⟨h.1, h.2.1.drew, h.2.2⟩
theorem Kp.alloc (h : Kp w0 B l w) (o : Obj) : Kp w0 B l (w.alloc o) := ⟨fun x hx => (h.1 x hx).alloc o, h.2.1.alloc h.2.2 o, by have := h.2.2; simp; omega⟩
/-- A new block. -/
theorem Kp.new (h : Kp w0 B l w) (T : TypeId) (V : List Value) : Kp w0 B ((w.heap.size, T, V) :: l) (w.alloc (.cells V.toArray T)) := by
  refine ⟨fun x hx => ?_, (h.alloc _).2⟩
  rcases List.mem_cons.1 hx with rfl | hx
  · exact bk_new w T V.toArray
  · exact (h.1 x hx).alloc _
theorem Kp.ne (h : Kp w0 B l w) (x : Nat × TypeId × List Value) (hx : x ∈ l) : x.1 ≠ w.heap.size := Nat.ne_of_lt (h.1 x hx).lt
/-- A store into a block that is none of these. -/
theorem Kp.sets (h : Kp w0 B l w) (hne : ∀ x ∈ l, x.1 ≠ c) (hB : B ≤ c) (o : Nat) (vs : List Value) : Kp w0 B l (w.setCells c o vs) :=
  ⟨fun x hx => (h.1 x hx).sets_other (hne x hx) o vs, below_sets vs hB o _ h.2.1, by rw [size_sets]; exact h.2.2⟩
theorem Kp.set (h : Kp w0 B l w) (hne : ∀ x ∈ l, x.1 ≠ c) (hB : B ≤ c) (o : Nat) (v : Value) : Kp w0 B l (w.setCell ⟨c, o, none⟩ v) :=
  ⟨fun x hx => (h.1 x hx).set_other (hne x hx) o v, h.2.1.setCell (by exact hB) v, by simpa [World.setCell] using h.2.2⟩
/-- A store of a whole value into the block that was made last. -/
theorem Kp.put (h : Kp w0 B l w) (T : TypeId) (Z : Array Value) (V : List Value) (hz : V.length = Z.size) : Kp w0 B ((w.heap.size, T, V) :: l) ((w.alloc (.cells Z T)).setCells w.heap.size 0 V) := by
  refine ⟨fun x hx => ?_, ((h.alloc _).sets (c := w.heap.size) (fun x hx => h.ne x hx) h.2.2 0 V).2⟩
  rcases List.mem_cons.1 hx with rfl | hx
  · have := Bk.sets V 0 _ _ (bk_new w T Z)
    rw [puts_whole _ _ hz] at this
    exact this
  · exact ((h.1 x hx).alloc _).sets_other (h.ne x hx) 0 V
/-- A cell of the first block is stored. -/
theorem Kp.set1 (h : Kp w0 B ((b, T, V) :: l) w) (hne : ∀ x ∈ l, x.1 ≠ b) (hB : B ≤ b) (i : Nat) (v : Value) : Kp w0 B ((b, T, V.set i v) :: l) (w.setCell ⟨b, i, none⟩ v) := by
  have h' : Kp w0 B l w := ⟨fun x hx => h.1 x (List.mem_cons_of_mem _ hx), h.2⟩
  refine ⟨fun x hx => ?_, (h'.set hne hB i v).2⟩
  rcases List.mem_cons.1 hx with rfl | hx
  · have := (h.1 (b, T, V) (by simp)).set i v
    rw [List.setIfInBounds_toArray] at this
    exact this
  · exact (h'.set hne hB i v).1 x hx
theorem Kp.hd (h : Kp w0 B ((b, T, V) :: l) w) : Bk w b T V.toArray := h.1 (b, T, V) (by simp)
theorem Kp.tl {x : Nat × TypeId × List Value} (h : Kp w0 B (x :: l) w) : Kp w0 B l w := ⟨fun y hy => h.1 y (List.mem_cons_of_mem _ hy), h.2⟩
theorem Kp.grown {row : Option Nat} (h : Kp w0 B l w) (g : w.grownBy w' row) (hne : ∀ x ∈ l, some x.1 ≠ row) (hB : ∀ k, row = some k → B ≤ k) : Kp w0 B l w' :=
  ⟨fun x hx => (h.1 x hx).grown g (hne x hx), h.2.1.grown g h.2.2 hB, Nat.le_trans h.2.2 g.size⟩
end
theorem ba_ext {a b : ByteArray} (h : a.data.toList = b.data.toList) : a = b := by
  obtain ⟨x⟩ := a
  obtain ⟨y⟩ := b
  congr 1
  exact Array.toList_inj.1 h
theorem ba_size (a : ByteArray) : a.data.toList.length = a.size := by simp
theorem ext_list (s : ByteArray) (a b : Nat) : (s.extract a b).data.toList = (s.data.toList.take b).drop a := by
  rw [ByteArray.data_extract, Array.toList_extract, List.extract_eq_take_drop, List.drop_take]
theorem ext_end (s : ByteArray) (k : Nat) : (s.extract k s.size).data.toList = s.data.toList.drop k := by
  rw [ext_list, List.take_of_length_le (by rw [ba_size]; exact Nat.le_refl _)]
end Go.Proofs.YtnehabpdpkjaeaaDoor
