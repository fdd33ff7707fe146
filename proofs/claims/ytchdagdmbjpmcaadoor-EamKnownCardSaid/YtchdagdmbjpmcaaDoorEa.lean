/-
  Proved here: what a look-up in a map of addresses finds, and what a store of a new address leaves.
  Conditions: keys of 4 or of 16 bytes.
  Proved here: pairs of addresses as cells; slices of pairs; what an append of a slice of pairs leaves.
  Conditions: addresses of 4 and of 16 bytes; at most a million pairs.
  Proved here: what a table is; what the program's Four, Six and Len answer.
  Conditions: a table that stands for pairs; an address of its length.
  Proved here: what the program's Four, Six and Len answer.
  Conditions: a table that stands for pairs; an address of its length.
  Proved here: what the library's Index, Clone, Grow and Concat answer of slices of pairs.
  Conditions: slices that read as at most a million pairs.
  Proved here: what the library's Concat answers of two slices of pairs, and Index of a slice of pairs.
  Conditions: slices that read as at most a thousand pairs.
  Proved here: pairs are the same just if both their addresses are.
  Conditions: addresses of 4 and of 16 bytes.
  Proved here: what the library's Index answers of a slice of pairs that has the pair.
  Conditions: a slice that reads as at most a thousand pairs.
  Proved here: what the program's shares answers.
  Conditions: a table that stands for pairs; a pair of addresses of their lengths.
-/
import Derived.Test.YtchdagdmbjpmcaaDoorMars6
import Derived.WideKeyRuns
import Derived.ChangeMaps4
import Derived.Deep.AppendSrc
import Derived.Deep.Upon
import Derived.Lib.AppendZeros
import Derived.Test.YtchdagdmbjpmcaaDoorFirst
import Derived.LoopN
import Derived.Laws.StructEq
import Derived.ChangeKeysEq
namespace Go.Proofs.YtchdagdmbjpmcaaDoor
open Go.RowKit
open Go.ChangeMaps (setBlock)

/-- Addresses by addresses. -/
abbrev Kv := List (List UInt8 × List UInt8)
/-- A map's entries, in the row in which they were stored. -/
def ents : Nat → Kv → List MapEntry
  | _, [] => []
  | c, x :: r => { key := .agg (bu x.1).toArray, val := .agg (bu x.2).toArray, born := c } :: ents (c + 1) r
theorem ents_snoc (l : Kv) : ∀ (c : Nat) (x : List UInt8 × List UInt8), ents c (l ++ [x]) = ents c l ++ [{ key := .agg (bu x.1).toArray, val := .agg (bu x.2).toArray, born := c + l.length }] := by
  induction l with
  | nil => intro c x; rfl
  | cons y r ih =>
    intro c x
    show _ :: ents (c + 1) (r ++ [x]) = _ :: (ents (c + 1) r ++ _)
    rw [ih, List.length_cons, show c + 1 + r.length = c + (r.length + 1) by omega]
/-- What is found at an address. -/
def lk : Kv → List UInt8 → Option (List UInt8)
  | [], _ => none
  | x :: r, k => if x.1 = k then some x.2 else lk r k
/-- What is found, or a zero; whether it is there. -/
def lkv (l : Kv) (n : Nat) (k : List UInt8) : List UInt8 := (lk l k).getD (List.replicate n 0)
theorem isAgg_u8 (w : World) : (Go.isAgg 5).run Tryd.prog w = .ok false w := by kernel_rfl
theorem check_u8 (em : Bool) (n : Nat) (a : Int) (w : World) : (Instr.checkKey em (n + 1) 5 (.int .u8 a)).run Tryd.prog w = .ok () w := by
  simp [Instr.checkKey, run_underlying Tryd.underlying5]
theorem check_bu (em : Bool) (n m : Nat) (T : TypeId) (hu : Tryd.prog.underlying T = some (.array m 5)) (l : List UInt8) (hl : l.length = m) (w : World) : (Instr.checkKey em (n + 2) T (.agg (bu l).toArray)).run Tryd.prog w = .ok () w := by
  obtain ⟨i0, hi, _, hs, _⟩ := info_parts (show (Tryd.prog.info? 5).map (fun i => (i.zero, i.size, i.bytes)) = some (some (.int .u8 0), 1, 1) by kernel_rfl)
  have hsz : ∀ W, (Go.sizeOf 5).run Tryd.prog W = .ok 1 W := fun W => by simp [sizeOf, typeInfo, hi, hs]
  unfold Instr.checkKey
  simp only [Sem.run_bind, run_underlying hu, Result.andThen_ok]
  simp only [Std.Legacy.Range.forIn_eq_forIn_range', Std.Legacy.Range.size, Nat.sub_zero, Nat.add_one_sub_one, Nat.div_one]
  have hj : ∀ j ∈ List.range' 0 m, j < l.length := fun j hj => by rw [hl]; have := List.mem_range'.1 hj; omega
  generalize List.range' 0 m = is at *
  induction is with
  | nil => simp
  | cons j r ih =>
    have hp : (part 5 (bu l).toArray j).run Tryd.prog w = .ok (.int .u8 ((iu l).getD j 0)) w := by
      have := part_b8 (iu l) j (by rw [iu_len]; exact hj j (by simp)) w
      rwa [← bu_b8] at this
    have ih' := ih (fun x hx => hj x (by simp [hx]))
    simp only [List.forIn_cons, Sem.run_bind, hsz, Result.andThen_ok, Nat.mul_one, hp, check_u8, Sem.run_pure] at ih' ⊢
    exact ih'
theorem ask_bu (T : TypeId) (m : Nat) (hu : Tryd.prog.underlying T = some (.array m 5)) (k : List UInt8) (hk : k.length = m) (w : World) : ∀ (l : Kv) (c j : Nat), (∀ x ∈ l, x.1.length = m) →
    (lk l k = none ∧ (Instr.findAsking T (.agg (bu k).toArray) (ents c l) j).run Tryd.prog w = .ok none w) ∨ (∃ v i, lk l k = some v ∧ (Instr.findAsking T (.agg (bu k).toArray) (ents c l) j).run Tryd.prog w = .ok (some (i, .agg (bu v).toArray)) w) := by
  intro l
  induction l with
  | nil => intro c j _; exact .inl ⟨rfl, by simp [ents, Instr.findAsking]⟩
  | cons x r ih =>
    intro c j hx
    have he : (Op.equal T (.agg (bu k).toArray) (.agg (bu x.1).toArray)).run Tryd.prog w = .ok (decide (k = x.1)) w := by
      unfold Op.equal Op.maxDepth
      rw [bu_b8, bu_b8, in_b8 9998 m T hu (iu k) (iu x.1) (by rw [iu_len, hk]) (by rw [iu_len, hx x (by simp)]) w, iu_eq]
    by_cases hkx : x.1 = k
    · right
      refine ⟨x.2, j, by simp [lk, hkx], ?_⟩
      have : decide (k = x.1) = true := by simp [hkx]
      rw [this] at he
      simp [ents, Instr.findAsking, he]
    · have hne : decide (k = x.1) = false := by simpa using fun e => hkx e.symm
      rw [hne] at he
      have e1 : lk (x :: r) k = lk r k := by simp [lk, hkx]
      have e2 : (Instr.findAsking T (.agg (bu k).toArray) (ents c (x :: r)) j).run Tryd.prog w = (Instr.findAsking T (.agg (bu k).toArray) (ents (c + 1) r) (j + 1)).run Tryd.prog w := by
        simp [ents, Instr.findAsking, he]
      rw [e1, e2]
      exact ih (c + 1) (j + 1) (fun y hy => hx y (by simp [hy]))
/-- A value is a map that holds these. -/
def Mp (w : World) (mv : Value) (l : Kv) : Prop := (mv = .map none ∧ l = []) ∨ ∃ r, mv = .map (some r) ∧ w.heap[r]? = some (.map (ents 0 l).toArray l.length)
theorem Mp.below {w w' : World} {mv : Value} {l : Kv} (h : Mp w mv l) (hb : Below w.heap.size w w') : Mp w' mv l := by
  rcases h with h | ⟨r, h1, h2⟩
  · exact .inl h
  · refine .inr ⟨r, h1, ?_⟩
    rw [← h2]
    exact hb.block r ((Array.getElem?_eq_some_iff.1 h2).1)
theorem Mp.other {w w' : World} {mv : Value} {l : Kv} {b : Nat} {T : TypeId} {A : Array Value} (h : Mp w mv l) (hb : Bk w b T A) (g : w.grownBy w' (some b)) : Mp w' mv l := by
  rcases h with h | ⟨r, h1, h2⟩
  · exact .inl h
  · refine .inr ⟨r, h1, ?_⟩
    rw [← h2]
    refine g.block r ((Array.getElem?_eq_some_iff.1 h2).1) (fun e => ?_)
    obtain rfl : r = b := Option.some.inj e
    unfold Bk at hb
    rw [hb] at h2
    cases h2
theorem mp_look (TM T E : TypeId) (m n : Nat) (hm : Tryd.prog.underlying TM = some (.map T E)) (hu : Tryd.prog.underlying T = some (.array m 5)) (hz : ∀ w, (zeroValue E).run Tryd.prog w = .ok (.agg (bu (List.replicate n 0)).toArray) w)
    (w : World) (mv : Value) (l : Kv) (hM : Mp w mv l) (hl : ∀ x ∈ l, x.1.length = m) (k : List UInt8) (hk : k.length = m) :
    (Instr.lookup TM mv (.agg (bu k).toArray) true).run Tryd.prog w = .ok (.tuple #[.agg (bu (lkv l n k)).toArray, .bool (lk l k).isSome]) w := by
  rcases hM with ⟨rfl, rfl⟩ | ⟨r, rfl, hr⟩
  · have hc := check_bu true 9998 m T hu k hk w
    have hf := run_findKey_eq (P := Tryd.prog) (k := T) w (by rw [hu]) (.agg (bu k).toArray) []
    simp [Instr.lookup, run_underlying hm, Result.andThen, hc, hf, Instr.findAsking, hz, lk, lkv]
  · have hg := MapKept.run_getObj_map (P := Tryd.prog) hr
    have hc := fun em => check_bu em 9998 m T hu k hk w
    have hf := run_findKey_eq (P := Tryd.prog) (k := T) w (by rw [hu]) (.agg (bu k).toArray) (ents 0 l)
    rcases ask_bu T m hu k hk w l 0 0 hl with ⟨h1, h2⟩ | ⟨v, i, h1, h2⟩
    · rw [h2] at hf
      have e : lkv l n k = List.replicate n 0 := by unfold lkv; rw [h1]; rfl
      rw [e, h1]
      simp [Instr.lookup, run_underlying hm, Result.andThen, hg, hc, hf, hz]
    · rw [h2] at hf
      have e : lkv l n k = v := by unfold lkv; rw [h1]; rfl
      rw [e, h1]
      simp [Instr.lookup, run_underlying hm, Result.andThen, hg, hc, hf]
/-- A new address is stored. -/
theorem mp_store (TM T E : TypeId) (m : Nat) (hm : Tryd.prog.underlying TM = some (.map T E)) (hu : Tryd.prog.underlying T = some (.array m 5))
    (w : World) (r : Nat) (l : Kv) (hr : w.heap[r]? = some (.map (ents 0 l).toArray l.length)) (hl : ∀ x ∈ l, x.1.length = m) (k v : List UInt8) (hk : k.length = m) (hn : lk l k = none) :
    (Instr.mapUpdate TM (.map (some r)) (.agg (bu k).toArray) (.agg (bu v).toArray)).run Tryd.prog w = .ok () (setBlock w r (.map (ents 0 (l ++ [(k, v)])).toArray (l ++ [(k, v)]).length)) := by
  have hg := MapKept.run_getObj_map (P := Tryd.prog) hr
  have hc := check_bu false 9998 m T hu k hk w
  have hf := run_findKey_eq (P := Tryd.prog) (k := T) w (by rw [hu]) (.agg (bu k).toArray) (ents 0 l)
  rcases ask_bu T m hu k hk w l 0 0 hl with ⟨_, h2⟩ | ⟨v, i, h1, _⟩
  · rw [h2] at hf
    have e1 : (ents 0 (l ++ [(k, v)])).toArray = (ents 0 l).toArray.push { key := .agg (bu k).toArray, val := .agg (bu v).toArray, born := l.length } := by
      rw [ents_snoc, Nat.zero_add]
      simp
    rw [e1, List.length_append]
    simp only [Instr.mapUpdate, Sem.run_bind, run_underlying hm, Result.andThen_ok, hg, hc, hf, MapKept.run_setObj_map _ hr, setBlock]
    rfl
  · rw [h1] at hn
    cases hn

/-- A pair as cells. -/
def prv (p : List UInt8 × List UInt8) : List Value := bu p.1 ++ bu p.2
def prV (l : Kv) : List Value := l.flatMap prv
/-- A pair's addresses have their lengths. -/
def okPr (p : List UInt8 × List UInt8) : Prop := p.1.length = 4 ∧ p.2.length = 16
def okPs (l : Kv) : Prop := ∀ p ∈ l, okPr p
theorem okPs_nil : okPs [] := fun _ h => by cases h
theorem okPs_snoc {l : Kv} {p : List UInt8 × List UInt8} (h : okPs l) (hp : okPr p) : okPs (l ++ [p]) := fun q hq => by
  rcases List.mem_append.1 hq with hq | hq
  · exact h q hq
  · rw [List.mem_singleton.1 hq]; exact hp
theorem okPs_app {l m : Kv} (h : okPs l) (hm : okPs m) : okPs (l ++ m) := fun q hq => by
  rcases List.mem_append.1 hq with hq | hq
  · exact h q hq
  · exact hm q hq
theorem okPs_take {l : Kv} (h : okPs l) (k : Nat) : okPs (l.take k) := fun q hq => h q (List.mem_of_mem_take hq)
theorem okPs_drop {l : Kv} (h : okPs l) (k : Nat) : okPs (l.drop k) := fun q hq => h q (List.mem_of_mem_drop hq)
theorem okPs_at {l : Kv} (h : okPs l) (k : Nat) (hk : k < l.length) : okPr l[k] := h _ (List.getElem_mem hk)
theorem prv_len {p : List UInt8 × List UInt8} (h : okPr p) : (prv p).length = 20 := by unfold prv; rw [List.length_append, bu_len, bu_len, h.1, h.2]
theorem prV_app (l m : Kv) : prV (l ++ m) = prV l ++ prV m := by unfold prV; rw [List.flatMap_append]
theorem prV_one (p : List UInt8 × List UInt8) : prV [p] = prv p := by unfold prV; simp
theorem prV_len {l : Kv} (h : okPs l) : (prV l).length = l.length * 20 := by
  induction l with
  | nil => rfl
  | cons p r ih =>
    show (prv p ++ prV r).length = _
    rw [List.length_append, prv_len (h p (by simp)), ih (fun q hq => h q (by simp [hq])), List.length_cons]
    omega
theorem prv_one (p : List UInt8 × List UInt8) : ∀ u ∈ prv p, u.oneCell' = true := by
  intro u hu
  unfold prv bu at hu
  rcases List.mem_append.1 hu with hu | hu <;> (obtain ⟨_, _, rfl⟩ := List.mem_map.1 hu; rfl)
theorem prv_ones (p : List UInt8 × List UInt8) : (prv p).toArray.all (·.oneCell') = true := by
  rw [← Array.all_toList, List.all_eq_true]
  exact prv_one p
theorem prV_ones (l : Kv) : ∀ u ∈ prV l, u.oneCell' = true := by
  intro u hu
  obtain ⟨p, _, h⟩ := List.mem_flatMap.1 hu
  exact prv_one p u h
/-- Element k's cells, among all. -/
theorem prV_at {l : Kv} (h : okPs l) : ∀ (k : Nat) (hk : k < l.length) (j : Nat) (v : Value), (prv l[k])[j]? = some v → (prV l)[k * 20 + j]? = some v := by
  induction l with
  | nil => intro k hk; cases hk
  | cons p r ih =>
    intro k hk j v hv
    have hp := prv_len (h p (by simp))
    show (prv p ++ prV r)[k * 20 + j]? = some v
    match k, hk with
    | 0, _ =>
      have hj : j < (prv p).length := (List.getElem?_eq_some_iff.1 hv).1
      rw [List.getElem?_append_left (by omega), Nat.zero_mul, Nat.zero_add]
      exact hv
    | k + 1, hk =>
      rw [List.getElem?_append_right (by rw [hp]; omega), hp, show (k + 1) * 20 + j - 20 = k * 20 + j by omega]
      exact ih (fun q hq => h q (by simp [hq])) k (by simpa using hk) j v hv
theorem prV_take {l : Kv} (h : okPs l) : ∀ k, k ≤ l.length → prV (l.take k) = (prV l).take (k * 20) := by
  intro k hk
  have e : prV l = prV (l.take k) ++ prV (l.drop k) := by rw [← prV_app, List.take_append_drop]
  have hl : (prV (l.take k)).length = k * 20 := by rw [prV_len (okPs_take h k), List.length_take, Nat.min_eq_left hk]
  rw [e, ← hl, List.take_left]
theorem prV_drop {l : Kv} (h : okPs l) : ∀ k, k ≤ l.length → prV (l.drop k) = (prV l).drop (k * 20) := by
  intro k hk
  have e : prV l = prV (l.take k) ++ prV (l.drop k) := by rw [← prV_app, List.take_append_drop]
  have hl : (prV (l.take k)).length = k * 20 := by rw [prV_len (okPs_take h k), List.length_take, Nat.min_eq_left hk]
  rw [e, ← hl, List.drop_left]

theorem range_part {w : World} {b o : Nat} {cs : List Value} (h : w.rangeAt b o cs) (p : Nat) (ds : List Value) (hd : ∀ j v, ds[j]? = some v → cs[p + j]? = some v) : w.rangeAt b (o + p) ds := fun j v hj => by
  rw [Nat.add_assoc]
  exact h (p + j) v (hd j v hj)
/-- A pair's two addresses, where it lies. -/
theorem range_f {w : World} {b o : Nat} {p : List UInt8 × List UInt8} (h : w.rangeAt b o (prv p)) : w.rangeAt b o (bu p.1) := by
  have := range_part h 0 (bu p.1) (fun j v hj => by
    unfold prv
    have hlt : j < (bu p.1).length := (List.getElem?_eq_some_iff.1 hj).1
    rw [Nat.zero_add, List.getElem?_append_left hlt]
    exact hj)
  simpa using this
theorem range_x {w : World} {b o : Nat} {p : List UInt8 × List UInt8} (h : w.rangeAt b o (prv p)) (hp : okPr p) : w.rangeAt b (o + 4) (bu p.2) :=
  range_part h 4 (bu p.2) (fun j v hj => by
    unfold prv
    have e : (bu p.1).length = 4 := by rw [bu_len]; exact hp.1
    rw [List.getElem?_append_right (by omega), e, Nat.add_sub_cancel_left]
    exact hj)
/-- A slice that reads as these pairs. -/
def Rs (w : World) (v : Value) (l : Kv) : Prop := (v = .slice none 0 0 ∧ l = []) ∨ ∃ a cap, v = .slice (some a) l.length cap ∧ l.length ≤ cap ∧ (l = [] ∨ ∃ b o, a = ⟨b, o, none⟩ ∧ b < w.heap.size ∧ w.rangeAt b o (prV l))
theorem Rs.shape {w : World} {v : Value} {l : Kv} (h : Rs w v l) : ∃ ao cap, v = .slice ao l.length cap ∧ l.length ≤ cap ∧ (∀ k, k < l.length → ∃ b o, ao = some ⟨b, o, none⟩ ∧ b < w.heap.size ∧ w.rangeAt b o (prV l)) := by
  rcases h with ⟨rfl, rfl⟩ | ⟨a, cap, rfl, h1, rfl | ⟨b, o, rfl, h2, h3⟩⟩
  · exact ⟨none, 0, rfl, Nat.le_refl _, fun k hk => by cases hk⟩
  · exact ⟨_, cap, rfl, h1, fun k hk => by cases hk⟩
  · exact ⟨_, cap, rfl, h1, fun _ _ => ⟨b, o, rfl, h2, h3⟩⟩
theorem Rs.below {w w' : World} {v : Value} {l : Kv} (h : Rs w v l) (hb : Below w.heap.size w w') : Rs w' v l := by
  rcases h with h | ⟨a, cap, rfl, h1, rfl | ⟨b, o, rfl, h2, h3⟩⟩
  · exact .inl h
  · exact .inr ⟨a, cap, rfl, h1, .inl rfl⟩
  · refine .inr ⟨_, cap, rfl, h1, .inr ⟨b, o, rfl, Nat.lt_of_lt_of_le h2 hb.size, fun j v hj => ?_⟩⟩
    exact (hb.cell (show (⟨b, o + j, none⟩ : Addr).block < w.heap.size from h2)).trans (h3 j v hj)
theorem range_el {w : World} {b o : Nat} {l : Kv} (h : w.rangeAt b o (prV l)) (hl : okPs l) (k : Nat) (hk : k < l.length) : w.rangeAt b (o + k * 20) (prv l[k]) :=
  range_part h (k * 20) _ (fun j v hj => prV_at hl k hk j v hj)
/-- What a slice of one's own reads as. -/
theorem own_rs {w : World} {base : Nat} {v : Value} {l : Kv} (h : w.ownsRow base 38 20 v l.length (prV l)) : Rs w v l := by
  obtain ⟨_, ⟨rfl, h0⟩ | ⟨g, cap, cur, rfl, hb, hh, h3, h4, h5, h6⟩⟩ := h
  · exact .inl ⟨rfl, List.length_eq_zero_iff.1 h0⟩
  · have hk : Bk w g 38 cur := hh
    refine .inr ⟨_, cap, rfl, h3, .inr ⟨g, 0, rfl, hk.lt, fun j v hj => ?_⟩⟩
    rw [Nat.zero_add]
    refine hk.c _ _ ?_
    have e : (cur.toList.take (l.length * 20))[j]? = some v := by rw [h6]; exact hj
    rw [List.getElem?_take] at e
    split at e
    · simpa using e
    · cases e
theorem Tryd.infoPair : (Tryd.prog.info? 38).map (fun i => (i.zero, i.size, i.bytes)) = some (some (.agg (bu (List.replicate 20 0)).toArray), 20, 20) := by kernel_rfl
/-- n pairs more, out of a slice. -/
theorem app_rs (w : World) (base : Nat) (v sv : Value) (l m : Kv) (ty : TypeId) (hown : w.ownsRow base 38 20 v l.length (prV l)) (hs : Rs w sv m) (hm : okPs m) (hlen : l.length + m.length ≤ 1000000) (hbase : base ≤ w.heap.size) :
    ∃ v' w', (Builtin.append_ #[40, 40] ty #[v, sv]).run Tryd.prog w = .ok v' w' ∧ w'.ownsRow base 38 20 v' (l ++ m).length (prV (l ++ m)) ∧ w.grownBy w' v.ownBlock ∧ (v'.ownBlock = v.ownBlock ∨ v'.ownBlock = some w.heap.size) := by
  obtain ⟨i0, hi, hz0, hz1, hz2⟩ := info_parts Tryd.infoPair
  have hsz : (Value.agg (bu (List.replicate 20 0)).toArray).cells.size = 20 := by decide +kernel
  have hn := fun sv (hsv : Src Tryd.prog i0.size 40 sv 0 [] w) base sl sc hle => run_append_nothing (P := Tryd.prog) w 40 40 ty 38 i0 Tryd.underlying40 hi base sl sc hle sv hsv
  have hnone : ∀ sv, Src Tryd.prog i0.size 40 sv 0 [] w → (Builtin.append_ #[40, 40] ty #[v, sv]).run Tryd.prog w = .ok v w := fun sv hsv => by
    rcases hown.2 with ⟨rfl, _⟩ | ⟨g, cap, cur, rfl, _, _, h5, _⟩
    · exact hn sv hsv none 0 0 (Nat.le_refl _)
    · exact hn sv hsv _ _ _ h5
  rcases hs with ⟨rfl, rfl⟩ | ⟨a, cap, rfl, h1, rfl | ⟨b, o, rfl, h2, h3⟩⟩
  · exact ⟨v, w, hnone _ (Src.ofNil w Tryd.underlying40 0), by rw [List.append_nil]; exact hown, ⟨rfl, rfl, rfl, Nat.le_refl _, fun _ _ _ => rfl⟩, .inl rfl⟩
  · exact ⟨v, w, hnone _ (Src.ofSlice w Tryd.underlying40 a 0 cap [] (by simp) (fun j u hu => by cases hu) (fun u hu => by cases hu)), by rw [List.append_nil]; exact hown, ⟨rfl, rfl, rfl, Nat.le_refl _, fun _ _ _ => rfl⟩, .inl rfl⟩
  · obtain ⟨v', w', hr, h4, h5, _, h7⟩ := run_append_own_at (P := Tryd.prog) w base 40 ty 38 i0 (.agg (bu (List.replicate 20 0)).toArray) 20 20 Tryd.underlying40 hi hz0 hz1 hz2 hsz (by decide) v l.length (prV l) hown ⟨b, o, none⟩ m.length cap (prV m) (prV_len hm)
      (fun j u hu => by rw [Addr.add_mid]; exact h3 j u hu) (prV_ones m) (by unfold maxLen; omega) (by omega) hbase
    exact ⟨v', w', hr, by rw [List.length_append, prV_app]; exact h4, h5, h7⟩
/-- A fresh row keeps what it was while others are written. -/
theorem own_nil (w : World) (base : Nat) : w.ownsRow base 38 20 (.slice none 0 0) ([] : Kv).length (prV []) := World.ownsRow_nil w base _ _
theorem own_shape {w : World} {base : Nat} {v : Value} {l : Kv} (h : w.ownsRow base 38 20 v l.length (prV l)) : ∃ ao cap, v = .slice ao l.length cap ∧ l.length ≤ cap := by
  obtain ⟨ao, cap, h1, h2, _⟩ := (own_rs h).shape
  exact ⟨ao, cap, h1, h2⟩

/-- No two pairs share an address. -/
def Ds (l : Kv) : Prop := l.Pairwise fun p q => p.1 ≠ q.1 ∧ p.2 ≠ q.2
/-- Pairs that a table may have. -/
structure Nl (l : Kv) : Prop where
  ok : okPs l
  ds : Ds l
  len : l.length ≤ 16
/-- The pairs by their other address. -/
def sw (l : Kv) : Kv := l.map fun p => (p.2, p.1)
theorem sw_app (l m : Kv) : sw (l ++ m) = sw l ++ sw m := by unfold sw; rw [List.map_append]
theorem sw_len (l : Kv) : (sw l).length = l.length := by unfold sw; rw [List.length_map]
/-- A block is a table that stands for these pairs. -/
def Tb (w : World) (b : Nat) (l : Kv) : Prop := Nl l ∧ ∃ s m4 m6, Bk w b 62 #[s, m4, m6] ∧ w.ownsRow 0 38 20 s l.length (prV l) ∧ Mp w m4 (sw l) ∧ Mp w m6 l
theorem Mp.under {w w' : World} {mv : Value} {l : Kv} {B : Nat} (h : Mp w mv l) (hb : Below B w w') (hB : w.heap.size ≤ B) : Mp w' mv l := h.below (hb.mono hB)
theorem ow_below {w w' : World} {base : Nat} {v : Value} {n : Nat} {xs : List Value} (h : w.ownsRow base 38 20 v n xs) (hb : Below w.heap.size w w') : w'.ownsRow base 38 20 v n xs := by
  obtain ⟨h0, h | ⟨g, cap, cur, rfl, h1, h2, h3⟩⟩ := h
  · exact ⟨h0, .inl h⟩
  · exact ⟨h0, .inr ⟨g, cap, cur, rfl, h1, (hb.block g ((Array.getElem?_eq_some_iff.1 h2).1)).trans h2, h3⟩⟩
theorem ow_other {w w' : World} {base b : Nat} {v : Value} {n : Nat} {xs : List Value} {A : Array Value} (h : w.ownsRow base 38 20 v n xs) (hb : Bk w b 62 A) (g : w.grownBy w' (some b)) : w'.ownsRow base 38 20 v n xs := by
  obtain ⟨h0, h | ⟨c, cap, cur, rfl, h1, h2, h3⟩⟩ := h
  · exact ⟨h0, .inl h⟩
  · refine ⟨h0, .inr ⟨c, cap, cur, rfl, h1, (g.block c ((Array.getElem?_eq_some_iff.1 h2).1) (fun e => ?_)).trans h2, h3⟩⟩
    obtain rfl : c = b := Option.some.inj e
    unfold Bk at hb
    rw [hb] at h2
    have := (Obj.cells.inj (Option.some.inj h2)).2.1
    exact absurd this (by decide)
theorem Tb.lt {w : World} {b : Nat} {l : Kv} (h : Tb w b l) : b < w.heap.size := by
  obtain ⟨_, s, m4, m6, h1, _⟩ := h
  exact h1.lt
theorem Tb.below {w w' : World} {b : Nat} {l : Kv} (h : Tb w b l) (hb : Below w.heap.size w w') : Tb w' b l := by
  obtain ⟨h0, s, m4, m6, h1, h2, h3, h4⟩ := h
  exact ⟨h0, s, m4, m6, h1.below hb h1.lt, ow_below h2 hb, h3.below hb, h4.below hb⟩
/-- Another table is written. -/
theorem Tb.other {w w' : World} {b c : Nat} {l m : Kv} (h : Tb w b l) (hc : Tb w c m) (hne : b ≠ c) (g : w.grownBy w' (some c)) : Tb w' b l := by
  obtain ⟨h0, s, m4, m6, h1, h2, h3, h4⟩ := h
  obtain ⟨_, _, _, _, k1, _⟩ := hc
  exact ⟨h0, s, m4, m6, h1.grown g (fun e => hne (Option.some.inj e)), ow_other h2 k1 g, h3.other k1 g, h4.other k1 g⟩
theorem Tb.nl {w : World} {b : Nat} {l : Kv} (h : Tb w b l) : Nl l := h.1
theorem Tryd.zero4 (w : World) : (zeroValue 36).run Tryd.prog w = .ok (.agg (bu (List.replicate 4 0)).toArray) w := by kernel_rfl
theorem Tryd.zero6 (w : World) : (zeroValue 23).run Tryd.prog w = .ok (.agg (bu (List.replicate 16 0)).toArray) w := by kernel_rfl
theorem sw_keys {l : Kv} (h : okPs l) : ∀ x ∈ sw l, x.1.length = 16 := fun x hx => by
  obtain ⟨p, hp, rfl⟩ := List.mem_map.1 hx
  exact (h p hp).2
theorem sw_vals {l : Kv} (h : okPs l) : ∀ x ∈ sw l, x.2.length = 4 := fun x hx => by
  obtain ⟨p, hp, rfl⟩ := List.mem_map.1 hx
  exact (h p hp).1
theorem lkv_len {l : Kv} {n : Nat} (h : ∀ x ∈ l, x.2.length = n) (k : List UInt8) : (lkv l n k).length = n := by
  unfold lkv
  induction l with
  | nil => simp [lk]
  | cons x r ih =>
    unfold lk
    split
    · exact h x (by simp)
    · exact ih (fun y hy => h y (by simp [hy]))
/-- What Four answers. -/
def fourA (l : Kv) (x : List UInt8) : List UInt8 := lkv (sw l) 4 x
def fourI (l : Kv) (x : List UInt8) : Bool := (lk (sw l) x).isSome
def sixA (l : Kv) (a : List UInt8) : List UInt8 := lkv l 16 a
def sixI (l : Kv) (a : List UInt8) : Bool := (lk l a).isSome
theorem fourA_len {l : Kv} (h : Nl l) (x : List UInt8) : (fourA l x).length = 4 := lkv_len (sw_vals h.ok) x
theorem sixA_len {l : Kv} (h : Nl l) (a : List UInt8) : (sixA l a).length = 16 := lkv_len (fun p hp => (h.ok p hp).2) a

set_option maxRecDepth 100000 in
set_option maxHeartbeats 4000000 in
theorem four_any (b : Nat) (l : Kv) (x : List UInt8) (w : World) (hT : Tb w b l) (hx : x.length = 16) :
    Calls Tryd.prog 25 #[.pointer (some ⟨b, 0, none⟩), .agg (bu x).toArray] w fun e w' => e = .returned (.tuple #[.agg (bu (fourA l x)).toArray, .bool (fourI l x)]) ∧ Below w.heap.size w w' := by
  have HLV : Hid ((bu (fourA l x)).length = 4) := Lib.hid (by rw [bu_len]; exact fourA_len hT.nl x)
  have HIV : Hid ((Tryd.prog.info? 36).map (·.size) = some (bu (fourA l x)).length) := Lib.hid (Tryd.infoU4 _ (fourA_len hT.nl x))
  have HOV : Hid ((bu (fourA l x)).toArray.all (·.oneCell') = true) := Lib.hid (bu_one _)
  have HIX : Hid ((Tryd.prog.info? 23).map (·.size) = some (bu x).length) := Lib.hid (Tryd.infoU6 _ hx)
  obtain ⟨VZ, hVZ⟩ : ∃ VZ, VZ = ([.int .u8 0, .int .u8 0, .int .u8 0, .int .u8 0] : List Value) := ⟨_, rfl⟩
  have HLZ : Hid (VZ.length = 4) := Lib.hid (by rw [hVZ]; rfl)
  have HIZ : Hid ((Tryd.prog.info? 36).map (·.size) = some VZ.length) := Lib.hid (by rw [hVZ]; kernel_rfl)
  have HHz : Hid (([.int .u8 0, .int .u8 0, .int .u8 0, .int .u8 0] : List Value).toArray = VZ.toArray) := Lib.hid (by rw [hVZ])
  have hT' := hT
  obtain ⟨hn, s, m4, m6, h1, h2, h3, h4⟩ := hT'
  have HL : Hid (∀ W, Below w.heap.size w W → (Instr.lookup 59 m4 (.agg (bu x).toArray) true).run Tryd.prog W = .ok (.tuple #[.agg (bu (fourA l x)).toArray, .bool (fourI l x)]) W) := Lib.hid (fun W hW => mp_look 59 23 36 16 4 Tryd.underlying59 Tryd.underlying23 Tryd.zero4 W m4 _ (h3.below hW) (sw_keys hn.ok) x hx)
  have HC : Hid (∀ W, Below w.heap.size w W → W.cell? ⟨b, 1, none⟩ = some m4) := Lib.hid (fun W hW => (h1.below hW h1.lt).c 1 _ rfl)
  clear h1 h2 h3 h4 hn hT
  generalize m4 = mv at *
  generalize bu (fourA l x) = V at *
  generalize fourI l x = ok at *
  generalize hX : bu x = X at *
  clear hX hVZ
  have HKR : Hid (∀ w', Kp w w.heap.size [(w.heap.size + 1, 36, VZ), (w.heap.size, 23, X)] w' → (fun w' => Kp w w.heap.size [(w.heap.size + 1, 36, VZ), (w.heap.size, 23, X)] w' ∧ w'.cell? ⟨b, 1, none⟩ = some mv ∧ w'.rangeAt w.heap.size 0 X ∧ (Instr.lookup 59 mv (.agg X.toArray) true).run Tryd.prog w' = .ok (.tuple #[.agg V.toArray, .bool ok]) w') w') := Lib.hid (fun w' k => ⟨k, HC.out _ k.2.1, k.tl.hd.range, HL.out _ k.2.1⟩)
  have HK2 := Lib.hid (((Kp.start w).new 23 X).new 36 VZ)
  have e1 : (w.alloc (.cells X.toArray 23)).heap.size = w.heap.size + 1 := by simp
  rw [e1] at HK2
  have hz := HHz.out
  go_enter Tryd.func25, Tryd.ntmps25
  go_upto_region 1 with (fail)
  clear hz e1
  generalize (w.alloc (.cells X.toArray 23)).alloc (.cells VZ.toArray 36) = w2 at *
  go_upto_region 3 with (fail)
  refine wp_region_noPanic ?_
  refine wp_region_held_drew (S := fun w' => Kp w w.heap.size [(w.heap.size + 1, 36, VZ), (w.heap.size, 23, X)] w' ∧ w'.cell? ⟨b, 1, none⟩ = some mv ∧ w'.rangeAt w.heap.size 0 X ∧ (Instr.lookup 59 mv (.agg X.toArray) true).run Tryd.prog w' = .ok (.tuple #[.agg V.toArray, .bool ok]) w') (by kernel_rfl) (HKR.out _ HK2.out.drew) (fun hHeld => ?_)
  refine wpAnyH_take (i := 0) (oi := { dst := some 12, op := Op.move (Operand.tmp 0), type := 31, pos := "eam.go:83", after := #[], guard := none }) (v := ?_) rfl (by kernel_rfl) (by kernel_rfl) (by kernel_rfl) (fun _ _ _ h => h) (Or.inl ⟨by rfl, ?_⟩) (by assumption) ?_
  rotate_left
  · (intro ww hSw; (try dsimp only at hSw); go_simp; try with_reducible rfl)
  (try simp only [Act.put, List.setIfInBounds_toArray, List.set_cons_zero, List.set_cons_succ])
  refine wpAnyH_take (i := 1) (oi := { dst := some 13, op := Op.nilCheck (Operand.tmp 12), type := 0, pos := "eam.go:83", after := #[{ on := 0, ground := Ground.data }], guard := none }) (v := ?_) rfl (by kernel_rfl) (by kernel_rfl) (by kernel_rfl) (fun _ _ _ h => h) (Or.inl ⟨by rfl, ?_⟩) (by assumption) ?_
  rotate_left
  · (intro ww hSw; (try dsimp only at hSw); go_simp; try with_reducible rfl)
  (try simp only [Act.put, List.setIfInBounds_toArray, List.set_cons_zero, List.set_cons_succ])
  refine wpAnyH_take (i := 2) (oi := { dst := some 14, op := Op.fieldAddr 62 (Operand.tmp 13) 1, type := 0, pos := "eam.go:83", after := #[{ on := 1, ground := Ground.data }], guard := none }) (v := ?_) rfl (by kernel_rfl) (by kernel_rfl) (by kernel_rfl) (fun _ _ _ h => h) (Or.inl ⟨by rfl, ?_⟩) (by assumption) ?_
  rotate_left
  · (intro ww hSw; (try dsimp only at hSw); go_simp; try with_reducible rfl)
  (try simp only [Act.put, List.setIfInBounds_toArray, List.set_cons_zero, List.set_cons_succ])
  refine wpAnyH_take (i := 3) (oi := { dst := some 15, op := Op.load 59 (Operand.tmp 14), type := 59, pos := "eam.go:83", after := #[{ on := 2, ground := Ground.data }], guard := none }) (v := ?_) rfl (by kernel_rfl) (by kernel_rfl) (by kernel_rfl) (fun _ _ _ h => h) (Or.inl ⟨by rfl, ?_⟩) (by assumption) ?_
  rotate_left
  · (intro ww hSw; (try dsimp only at hSw); go_simp; try with_reducible rfl)
  (try simp only [Act.put, List.setIfInBounds_toArray, List.set_cons_zero, List.set_cons_succ])
  refine wpAnyH_take (i := 4) (oi := { dst := some 16, op := Op.load 23 (Operand.tmp 3), type := 23, pos := "eam.go:83", after := #[], guard := none }) (v := .agg (X).toArray) rfl (by kernel_rfl) (by kernel_rfl) (by kernel_rfl) (fun _ _ _ h => h) (yieldsIf_load_mid (by rfl) _ _ rfl (w.heap.size) 0 rfl (X) _ (fun ww hSw => hSw.2.2.1) Tryd.underlying23 rfl HIX.out) (by assumption) ?_
  (try simp only [Act.put, List.setIfInBounds_toArray, List.set_cons_zero, List.set_cons_succ])
  refine wpAnyH_take (i := 5) (oi := { dst := some 17, op := Op.lookup 59 (Operand.tmp 15) (Operand.tmp 16) true, type := 53, pos := "eam.go:83", after := #[{ on := 3, ground := Ground.data }, { on := 4, ground := Ground.data }], guard := none }) (v := (.tuple #[.agg V.toArray, .bool ok])) rfl (by kernel_rfl) (by kernel_rfl) (by kernel_rfl) (fun _ _ _ h => h) (Or.inl ⟨by rfl, (by intro ww hSw; go_simp)⟩) (by assumption) ?_
  (try simp only [Act.put, List.setIfInBounds_toArray, List.set_cons_zero, List.set_cons_succ])
  refine wpAnyH_take (i := 6) (oi := { dst := some 11, op := Op.move (Operand.tmp 17), type := 53, pos := "eam.go:83", after := #[{ on := 5, ground := Ground.data }], guard := none }) (v := ?_) rfl (by kernel_rfl) (by kernel_rfl) (by kernel_rfl) (fun _ _ _ h => h) (Or.inl ⟨by rfl, ?_⟩) (by assumption) ?_
  rotate_left
  · (intro ww hSw; (try dsimp only at hSw); go_simp; try with_reducible rfl)
  (try simp only [Act.put, List.setIfInBounds_toArray, List.set_cons_zero, List.set_cons_succ])
  refine wpAnyH_take (i := 7) (oi := { dst := some 18, op := Op.extract (Operand.tmp 11) 0, type := 36, pos := "eam.go:83", after := #[{ on := 6, ground := Ground.data }], guard := none }) (v := ?_) rfl (by kernel_rfl) (by kernel_rfl) (by kernel_rfl) (fun _ _ _ h => h) (Or.inl ⟨by rfl, ?_⟩) (by assumption) ?_
  rotate_left
  · (intro ww hSw; (try dsimp only at hSw); go_simp; try with_reducible rfl)
  (try simp only [Act.put, List.setIfInBounds_toArray, List.set_cons_zero, List.set_cons_succ])
  refine wpAnyH_take (i := 8) (oi := { dst := some 19, op := Op.extract (Operand.tmp 11) 1, type := 4, pos := "eam.go:83", after := #[{ on := 6, ground := Ground.data }, { on := 10, ground := Ground.gcOnly Departure.lateStores }], guard := none }) (v := ?_) rfl (by kernel_rfl) (by kernel_rfl) (by kernel_rfl) (fun _ _ _ h => h) (Or.inl ⟨by rfl, ?_⟩) (by assumption) ?_
  rotate_left
  · (intro ww hSw; (try dsimp only at hSw); go_simp; try with_reducible rfl)
  (try simp only [Act.put, List.setIfInBounds_toArray, List.set_cons_zero, List.set_cons_succ])
  refine wpAnyH_ready (rs := [9]) (by kernel_rfl) (by simp) ?_
  refine AllReadyH.cons (o := { dst := some 6, op := Op.alloc 36, type := 0, pos := "eam.go:83", after := #[], guard := none }) rfl (fun K hK => ?_) AllReadyH.nil
  have hnw := (And.left hHeld).2.2
  have hne := fun x hx => (And.left hHeld).ne x hx
  have hA := bk_new w2.drew 36 ([.int .u8 0, .int .u8 0, .int .u8 0, .int .u8 0] : List Value).toArray
  go_simp
  refine hK.out _ _ (HKR.out _ ((And.left hHeld).alloc _)) (fun hHeld => ?_)
  clear hK K
  (try simp only [Act.put, List.setIfInBounds_toArray, List.set_cons_zero, List.set_cons_succ])
  refine wpAnyH_ready (rs := [10]) (by kernel_rfl) (by simp) ?_
  refine AllReadyH.cons (o := { dst := none, op := Op.store 36 (Operand.tmp 6) (Operand.tmp 18), type := 0, pos := "eam.go:83", after := #[{ on := 9, ground := Ground.data }, { on := 7, ground := Ground.data }, { on := 0, ground := Ground.phase }, { on := 1, ground := Ground.phase }, { on := 2, ground := Ground.phase }, { on := 3, ground := Ground.phase }, { on := 4, ground := Ground.phase }, { on := 5, ground := Ground.phase }, { on := 6, ground := Ground.phase }, { on := 7, ground := Ground.phase }, { on := 8, ground := Ground.textOnly Departure.lateStores }, { on := 9, ground := Ground.phase }], guard := none }) rfl (fun K hK => ?_) AllReadyH.nil
  rw [if_pos (by rfl)]
  have hS := Bk.sets V 0 _ _ hA
  rw [puts_whole ([.int .u8 0, .int .u8 0, .int .u8 0, .int .u8 0] : List Value).toArray V (by have := HLV.out; simp; omega)] at hS
  refine wp_store_mid 36 _ _ rfl w2.heap.size 0 V.toArray rfl rfl (hA.there _ (by have := HLV.out; simp; omega)) (by simpa using HIV.out) HOV.out ?_
  refine hK.out _ _ (HKR.out _ ((And.left hHeld).sets hne hnw 0 V)) (fun hHeld => ?_)
  clear hK K
  (try simp only [Act.put])
  refine wpAnyH_take (i := 11) (oi := { dst := some 7, op := Op.assign (Operand.tmp 19), type := 4, pos := "eam.go:83", after := #[{ on := 8, ground := Ground.data }, { on := 10, ground := Ground.chain }, { on := 0, ground := Ground.phase }, { on := 1, ground := Ground.phase }, { on := 2, ground := Ground.phase }, { on := 3, ground := Ground.phase }, { on := 4, ground := Ground.phase }, { on := 5, ground := Ground.phase }, { on := 6, ground := Ground.phase }, { on := 7, ground := Ground.phase }, { on := 8, ground := Ground.phase }, { on := 9, ground := Ground.phase }, { on := 10, ground := Ground.phase }], guard := none }) (v := ?_) rfl (by kernel_rfl) (by kernel_rfl) (by kernel_rfl) (fun _ _ _ h => h) (Or.inl ⟨by rfl, ?_⟩) (by assumption) ?_
  rotate_left
  · (intro ww hSw; (try dsimp only at hSw); go_simp; try with_reducible rfl)
  (try simp only [Act.put, List.setIfInBounds_toArray, List.set_cons_zero, List.set_cons_succ])
  refine wpAnyH_done (by kernel_rfl) ?_ _
  refine NoPanic.normal ?_
  have HK3 : Hid (Kp w w.heap.size [(w2.heap.size, 36, V), (w.heap.size + 1, 36, VZ), (w.heap.size, 23, X)] ((w2.alloc (.cells ([.int .u8 0, .int .u8 0, .int .u8 0, .int .u8 0] : List Value).toArray 36)).drew.setCells w2.heap.size 0 V)) := Lib.hid (kp_cons hS (And.left hHeld))
  clear hS hHeld hA hne hnw
  generalize (w2.alloc (.cells ([.int .u8 0, .int .u8 0, .int .u8 0, .int .u8 0] : List Value).toArray 36)).drew.setCells w2.heap.size 0 V = w3 at *
  generalize w2.heap.size = g at *
  have hr0 := HK3.out.hd.range
  have ht := HK3.out.tl.hd.there V.toArray.size (by have := HLV.out; have := HLZ.out; simp; omega)
  have HE : Hid (Bk (w3.setCells (w.heap.size + 1) 0 V) (w.heap.size + 1) 36 V.toArray) := Lib.hid (by
    have hE := Bk.sets V 0 _ _ HK3.out.tl.hd
    rw [puts_whole VZ.toArray V (by have := HLV.out; have := HLZ.out; simp; omega)] at hE
    exact hE)
  go_upto_region 4 with (fail)
  go_wp2_with (first | ((with_reducible (change bodyPost _ _ _ _ _ _)); refine bodyPost_ret (v := .tuple #[.agg V.toArray, .bool ok]) (results_cell2 rfl rfl rfl (run_loadVar_mid _ (w.heap.size + 1) 0 36 _ _ HE.out.range Tryd.underlying36 rfl HIV.out)) rfl ⟨rfl, below_sets _ (by omega) 0 _ HK3.out.2.1⟩) | (refine wpList_load_mid rfl 36 _ rfl g 0 rfl V _ hr0 Tryd.underlying36 rfl HIV.out ?_) | (refine wpList_store_mid rfl 36 _ _ rfl (w.heap.size + 1) 0 V.toArray rfl rfl ht (by simpa using HIV.out) HOV.out ?_))
set_option maxRecDepth 100000 in
set_option maxHeartbeats 4000000 in
theorem six_any (b : Nat) (l : Kv) (x : List UInt8) (w : World) (hT : Tb w b l) (hx : x.length = 4) :
    Calls Tryd.prog 16 #[.pointer (some ⟨b, 0, none⟩), .agg (bu x).toArray] w fun e w' => e = .returned (.tuple #[.agg (bu (sixA l x)).toArray, .bool (sixI l x)]) ∧ Below w.heap.size w w' := by
  have HLV : Hid ((bu (sixA l x)).length = 16) := Lib.hid (by rw [bu_len]; exact sixA_len hT.nl x)
  have HIV : Hid ((Tryd.prog.info? 23).map (·.size) = some (bu (sixA l x)).length) := Lib.hid (Tryd.infoU6 _ (sixA_len hT.nl x))
  have HOV : Hid ((bu (sixA l x)).toArray.all (·.oneCell') = true) := Lib.hid (bu_one _)
  have HIX : Hid ((Tryd.prog.info? 36).map (·.size) = some (bu x).length) := Lib.hid (Tryd.infoU4 _ hx)
  obtain ⟨VZ, hVZ⟩ : ∃ VZ, VZ = ([.int .u8 0, .int .u8 0, .int .u8 0, .int .u8 0, .int .u8 0, .int .u8 0, .int .u8 0, .int .u8 0, .int .u8 0, .int .u8 0, .int .u8 0, .int .u8 0, .int .u8 0, .int .u8 0, .int .u8 0, .int .u8 0] : List Value) := ⟨_, rfl⟩
  have HLZ : Hid (VZ.length = 16) := Lib.hid (by rw [hVZ]; rfl)
  have HIZ : Hid ((Tryd.prog.info? 23).map (·.size) = some VZ.length) := Lib.hid (by rw [hVZ]; kernel_rfl)
  have HHz : Hid (([.int .u8 0, .int .u8 0, .int .u8 0, .int .u8 0, .int .u8 0, .int .u8 0, .int .u8 0, .int .u8 0, .int .u8 0, .int .u8 0, .int .u8 0, .int .u8 0, .int .u8 0, .int .u8 0, .int .u8 0, .int .u8 0] : List Value).toArray = VZ.toArray) := Lib.hid (by rw [hVZ])
  have hT' := hT
  obtain ⟨hn, s, m4, m6, h1, h2, h3, h4⟩ := hT'
  have HL : Hid (∀ W, Below w.heap.size w W → (Instr.lookup 60 m6 (.agg (bu x).toArray) true).run Tryd.prog W = .ok (.tuple #[.agg (bu (sixA l x)).toArray, .bool (sixI l x)]) W) := Lib.hid (fun W hW => mp_look 60 36 23 4 16 Tryd.underlying60 Tryd.underlying36 Tryd.zero6 W m6 _ (h4.below hW) (fun p hp => (hn.ok p hp).1) x hx)
  have HC : Hid (∀ W, Below w.heap.size w W → W.cell? ⟨b, 2, none⟩ = some m6) := Lib.hid (fun W hW => (h1.below hW h1.lt).c 2 _ rfl)
  clear h1 h2 h3 h4 hn hT
  generalize m6 = mv at *
  generalize bu (sixA l x) = V at *
  generalize sixI l x = ok at *
  generalize hX : bu x = X at *
  clear hX hVZ
  have HKR : Hid (∀ w', Kp w w.heap.size [(w.heap.size + 1, 23, VZ), (w.heap.size, 36, X)] w' → (fun w' => Kp w w.heap.size [(w.heap.size + 1, 23, VZ), (w.heap.size, 36, X)] w' ∧ w'.cell? ⟨b, 2, none⟩ = some mv ∧ w'.rangeAt w.heap.size 0 X ∧ (Instr.lookup 60 mv (.agg X.toArray) true).run Tryd.prog w' = .ok (.tuple #[.agg V.toArray, .bool ok]) w') w') := Lib.hid (fun w' k => ⟨k, HC.out _ k.2.1, k.tl.hd.range, HL.out _ k.2.1⟩)
  have HK2 := Lib.hid (((Kp.start w).new 36 X).new 23 VZ)
  have e1 : (w.alloc (.cells X.toArray 36)).heap.size = w.heap.size + 1 := by simp
  rw [e1] at HK2
  have hz := HHz.out
  go_enter Tryd.func16, Tryd.ntmps16
  go_upto_region 1 with (fail)
  clear hz e1
  generalize (w.alloc (.cells X.toArray 36)).alloc (.cells VZ.toArray 23) = w2 at *
  go_upto_region 3 with (fail)
  refine wp_region_noPanic ?_
  refine wp_region_held_drew (S := fun w' => Kp w w.heap.size [(w.heap.size + 1, 23, VZ), (w.heap.size, 36, X)] w' ∧ w'.cell? ⟨b, 2, none⟩ = some mv ∧ w'.rangeAt w.heap.size 0 X ∧ (Instr.lookup 60 mv (.agg X.toArray) true).run Tryd.prog w' = .ok (.tuple #[.agg V.toArray, .bool ok]) w') (by kernel_rfl) (HKR.out _ HK2.out.drew) (fun hHeld => ?_)
  refine wpAnyH_take (i := 0) (oi := { dst := some 12, op := Op.move (Operand.tmp 0), type := 31, pos := "eam.go:92", after := #[], guard := none }) (v := ?_) rfl (by kernel_rfl) (by kernel_rfl) (by kernel_rfl) (fun _ _ _ h => h) (Or.inl ⟨by rfl, ?_⟩) (by assumption) ?_
  rotate_left
  · (intro ww hSw; (try dsimp only at hSw); go_simp; try with_reducible rfl)
  (try simp only [Act.put, List.setIfInBounds_toArray, List.set_cons_zero, List.set_cons_succ])
  refine wpAnyH_take (i := 1) (oi := { dst := some 13, op := Op.nilCheck (Operand.tmp 12), type := 0, pos := "eam.go:92", after := #[{ on := 0, ground := Ground.data }], guard := none }) (v := ?_) rfl (by kernel_rfl) (by kernel_rfl) (by kernel_rfl) (fun _ _ _ h => h) (Or.inl ⟨by rfl, ?_⟩) (by assumption) ?_
  rotate_left
  · (intro ww hSw; (try dsimp only at hSw); go_simp; try with_reducible rfl)
  (try simp only [Act.put, List.setIfInBounds_toArray, List.set_cons_zero, List.set_cons_succ])
  refine wpAnyH_take (i := 2) (oi := { dst := some 14, op := Op.fieldAddr 62 (Operand.tmp 13) 2, type := 0, pos := "eam.go:92", after := #[{ on := 1, ground := Ground.data }], guard := none }) (v := ?_) rfl (by kernel_rfl) (by kernel_rfl) (by kernel_rfl) (fun _ _ _ h => h) (Or.inl ⟨by rfl, ?_⟩) (by assumption) ?_
  rotate_left
  · (intro ww hSw; (try dsimp only at hSw); go_simp; try with_reducible rfl)
  (try simp only [Act.put, List.setIfInBounds_toArray, List.set_cons_zero, List.set_cons_succ])
  refine wpAnyH_take (i := 3) (oi := { dst := some 15, op := Op.load 60 (Operand.tmp 14), type := 60, pos := "eam.go:92", after := #[{ on := 2, ground := Ground.data }], guard := none }) (v := ?_) rfl (by kernel_rfl) (by kernel_rfl) (by kernel_rfl) (fun _ _ _ h => h) (Or.inl ⟨by rfl, ?_⟩) (by assumption) ?_
  rotate_left
  · (intro ww hSw; (try dsimp only at hSw); go_simp; try with_reducible rfl)
  (try simp only [Act.put, List.setIfInBounds_toArray, List.set_cons_zero, List.set_cons_succ])
  refine wpAnyH_take (i := 4) (oi := { dst := some 16, op := Op.load 36 (Operand.tmp 3), type := 36, pos := "eam.go:92", after := #[], guard := none }) (v := .agg (X).toArray) rfl (by kernel_rfl) (by kernel_rfl) (by kernel_rfl) (fun _ _ _ h => h) (yieldsIf_load_mid (by rfl) _ _ rfl (w.heap.size) 0 rfl (X) _ (fun ww hSw => hSw.2.2.1) Tryd.underlying36 rfl HIX.out) (by assumption) ?_
  (try simp only [Act.put, List.setIfInBounds_toArray, List.set_cons_zero, List.set_cons_succ])
  refine wpAnyH_take (i := 5) (oi := { dst := some 17, op := Op.lookup 60 (Operand.tmp 15) (Operand.tmp 16) true, type := 28, pos := "eam.go:92", after := #[{ on := 3, ground := Ground.data }, { on := 4, ground := Ground.data }], guard := none }) (v := (.tuple #[.agg V.toArray, .bool ok])) rfl (by kernel_rfl) (by kernel_rfl) (by kernel_rfl) (fun _ _ _ h => h) (Or.inl ⟨by rfl, (by intro ww hSw; go_simp)⟩) (by assumption) ?_
  (try simp only [Act.put, List.setIfInBounds_toArray, List.set_cons_zero, List.set_cons_succ])
  refine wpAnyH_take (i := 6) (oi := { dst := some 11, op := Op.move (Operand.tmp 17), type := 28, pos := "eam.go:92", after := #[{ on := 5, ground := Ground.data }], guard := none }) (v := ?_) rfl (by kernel_rfl) (by kernel_rfl) (by kernel_rfl) (fun _ _ _ h => h) (Or.inl ⟨by rfl, ?_⟩) (by assumption) ?_
  rotate_left
  · (intro ww hSw; (try dsimp only at hSw); go_simp; try with_reducible rfl)
  (try simp only [Act.put, List.setIfInBounds_toArray, List.set_cons_zero, List.set_cons_succ])
  refine wpAnyH_take (i := 7) (oi := { dst := some 18, op := Op.extract (Operand.tmp 11) 0, type := 23, pos := "eam.go:92", after := #[{ on := 6, ground := Ground.data }], guard := none }) (v := ?_) rfl (by kernel_rfl) (by kernel_rfl) (by kernel_rfl) (fun _ _ _ h => h) (Or.inl ⟨by rfl, ?_⟩) (by assumption) ?_
  rotate_left
  · (intro ww hSw; (try dsimp only at hSw); go_simp; try with_reducible rfl)
  (try simp only [Act.put, List.setIfInBounds_toArray, List.set_cons_zero, List.set_cons_succ])
  refine wpAnyH_take (i := 8) (oi := { dst := some 19, op := Op.extract (Operand.tmp 11) 1, type := 4, pos := "eam.go:92", after := #[{ on := 6, ground := Ground.data }, { on := 10, ground := Ground.gcOnly Departure.lateStores }], guard := none }) (v := ?_) rfl (by kernel_rfl) (by kernel_rfl) (by kernel_rfl) (fun _ _ _ h => h) (Or.inl ⟨by rfl, ?_⟩) (by assumption) ?_
  rotate_left
  · (intro ww hSw; (try dsimp only at hSw); go_simp; try with_reducible rfl)
  (try simp only [Act.put, List.setIfInBounds_toArray, List.set_cons_zero, List.set_cons_succ])
  refine wpAnyH_ready (rs := [9]) (by kernel_rfl) (by simp) ?_
  refine AllReadyH.cons (o := { dst := some 6, op := Op.alloc 23, type := 0, pos := "eam.go:92", after := #[], guard := none }) rfl (fun K hK => ?_) AllReadyH.nil
  have hnw := (And.left hHeld).2.2
  have hne := fun x hx => (And.left hHeld).ne x hx
  have hA := bk_new w2.drew 23 ([.int .u8 0, .int .u8 0, .int .u8 0, .int .u8 0, .int .u8 0, .int .u8 0, .int .u8 0, .int .u8 0, .int .u8 0, .int .u8 0, .int .u8 0, .int .u8 0, .int .u8 0, .int .u8 0, .int .u8 0, .int .u8 0] : List Value).toArray
  go_simp
  refine hK.out _ _ (HKR.out _ ((And.left hHeld).alloc _)) (fun hHeld => ?_)
  clear hK K
  (try simp only [Act.put, List.setIfInBounds_toArray, List.set_cons_zero, List.set_cons_succ])
  refine wpAnyH_ready (rs := [10]) (by kernel_rfl) (by simp) ?_
  refine AllReadyH.cons (o := { dst := none, op := Op.store 23 (Operand.tmp 6) (Operand.tmp 18), type := 0, pos := "eam.go:92", after := #[{ on := 9, ground := Ground.data }, { on := 7, ground := Ground.data }, { on := 0, ground := Ground.phase }, { on := 1, ground := Ground.phase }, { on := 2, ground := Ground.phase }, { on := 3, ground := Ground.phase }, { on := 4, ground := Ground.phase }, { on := 5, ground := Ground.phase }, { on := 6, ground := Ground.phase }, { on := 7, ground := Ground.phase }, { on := 8, ground := Ground.textOnly Departure.lateStores }, { on := 9, ground := Ground.phase }], guard := none }) rfl (fun K hK => ?_) AllReadyH.nil
  rw [if_pos (by rfl)]
  have hS := Bk.sets V 0 _ _ hA
  rw [puts_whole ([.int .u8 0, .int .u8 0, .int .u8 0, .int .u8 0, .int .u8 0, .int .u8 0, .int .u8 0, .int .u8 0, .int .u8 0, .int .u8 0, .int .u8 0, .int .u8 0, .int .u8 0, .int .u8 0, .int .u8 0, .int .u8 0] : List Value).toArray V (by have := HLV.out; simp; omega)] at hS
  refine wp_store_mid 23 _ _ rfl w2.heap.size 0 V.toArray rfl rfl (hA.there _ (by have := HLV.out; simp; omega)) (by simpa using HIV.out) HOV.out ?_
  refine hK.out _ _ (HKR.out _ ((And.left hHeld).sets hne hnw 0 V)) (fun hHeld => ?_)
  clear hK K
  (try simp only [Act.put])
  refine wpAnyH_take (i := 11) (oi := { dst := some 7, op := Op.assign (Operand.tmp 19), type := 4, pos := "eam.go:92", after := #[{ on := 8, ground := Ground.data }, { on := 10, ground := Ground.chain }, { on := 0, ground := Ground.phase }, { on := 1, ground := Ground.phase }, { on := 2, ground := Ground.phase }, { on := 3, ground := Ground.phase }, { on := 4, ground := Ground.phase }, { on := 5, ground := Ground.phase }, { on := 6, ground := Ground.phase }, { on := 7, ground := Ground.phase }, { on := 8, ground := Ground.phase }, { on := 9, ground := Ground.phase }, { on := 10, ground := Ground.phase }], guard := none }) (v := ?_) rfl (by kernel_rfl) (by kernel_rfl) (by kernel_rfl) (fun _ _ _ h => h) (Or.inl ⟨by rfl, ?_⟩) (by assumption) ?_
  rotate_left
  · (intro ww hSw; (try dsimp only at hSw); go_simp; try with_reducible rfl)
  (try simp only [Act.put, List.setIfInBounds_toArray, List.set_cons_zero, List.set_cons_succ])
  refine wpAnyH_done (by kernel_rfl) ?_ _
  refine NoPanic.normal ?_
  have HK3 : Hid (Kp w w.heap.size [(w2.heap.size, 23, V), (w.heap.size + 1, 23, VZ), (w.heap.size, 36, X)] ((w2.alloc (.cells ([.int .u8 0, .int .u8 0, .int .u8 0, .int .u8 0, .int .u8 0, .int .u8 0, .int .u8 0, .int .u8 0, .int .u8 0, .int .u8 0, .int .u8 0, .int .u8 0, .int .u8 0, .int .u8 0, .int .u8 0, .int .u8 0] : List Value).toArray 23)).drew.setCells w2.heap.size 0 V)) := Lib.hid (kp_cons hS (And.left hHeld))
  clear hS hHeld hA hne hnw
  generalize (w2.alloc (.cells ([.int .u8 0, .int .u8 0, .int .u8 0, .int .u8 0, .int .u8 0, .int .u8 0, .int .u8 0, .int .u8 0, .int .u8 0, .int .u8 0, .int .u8 0, .int .u8 0, .int .u8 0, .int .u8 0, .int .u8 0, .int .u8 0] : List Value).toArray 23)).drew.setCells w2.heap.size 0 V = w3 at *
  generalize w2.heap.size = g at *
  have hr0 := HK3.out.hd.range
  have ht := HK3.out.tl.hd.there V.toArray.size (by have := HLV.out; have := HLZ.out; simp; omega)
  have HE : Hid (Bk (w3.setCells (w.heap.size + 1) 0 V) (w.heap.size + 1) 23 V.toArray) := Lib.hid (by
    have hE := Bk.sets V 0 _ _ HK3.out.tl.hd
    rw [puts_whole VZ.toArray V (by have := HLV.out; have := HLZ.out; simp; omega)] at hE
    exact hE)
  go_upto_region 4 with (fail)
  go_wp2_with (first | ((with_reducible (change bodyPost _ _ _ _ _ _)); refine bodyPost_ret (v := .tuple #[.agg V.toArray, .bool ok]) (results_cell2 rfl rfl rfl (run_loadVar_mid _ (w.heap.size + 1) 0 23 _ _ HE.out.range Tryd.underlying23 rfl HIV.out)) rfl ⟨rfl, below_sets _ (by omega) 0 _ HK3.out.2.1⟩) | (refine wpList_load_mid rfl 23 _ rfl g 0 rfl V _ hr0 Tryd.underlying23 rfl HIV.out ?_) | (refine wpList_store_mid rfl 23 _ _ rfl (w.heap.size + 1) 0 V.toArray rfl rfl ht (by simpa using HIV.out) HOV.out ?_))
set_option maxRecDepth 100000 in
theorem len_any (b : Nat) (l : Kv) (w : World) (hT : Tb w b l) :
    Calls Tryd.prog 19 #[.pointer (some ⟨b, 0, none⟩)] w fun e w' => e = .returned (.int .i64 l.length) ∧ w = w' := by
  obtain ⟨hn, s, m4, m6, h1, h2, _, _⟩ := hT
  obtain ⟨ao, cap, rfl, hc⟩ := own_shape h2
  have hl := hn.len
  have c0 := h1.c 0 _ rfl
  clear h1 h2 hn
  go_enter Tryd.func19, Tryd.ntmps19
  go_wp2_with fail
  go_ret
  exact ⟨rfl, rfl⟩
theorem len_nil (w : World) :
    Calls Tryd.prog 19 #[.pointer none] w fun e w' => e = .returned (.int .i64 0) ∧ w = w' := by
  go_enter Tryd.func19, Tryd.ntmps19
  go_wp2_with fail
  go_ret
  exact ⟨rfl, rfl⟩
theorem all_nil (w : World) :
    Calls Tryd.prog 20 #[.pointer none] w fun e w' => e = .returned (.slice none 0 0) ∧ w = w' := by
  go_enter Tryd.func20, Tryd.ntmps20
  go_wp2_with fail
  go_ret
  exact ⟨rfl, rfl⟩

theorem own_empty (w : World) (b cap : Nat) (A : Array Value) (base : Nat) (hb : base ≤ b) (h : Bk w b 38 A) (hs : A.size = cap * 20) (hm : cap ≤ maxLen) : w.ownsRow base 38 20 (.slice (some ⟨b, 0, none⟩) 0 cap) ([] : Kv).length (prV []) :=
  ⟨rfl, .inr ⟨b, cap, A, rfl, hb, h, Nat.zero_le _, hm, hs, by rw [List.length_nil, Nat.zero_mul, List.take_zero]; rfl⟩⟩
theorem own_block {w : World} {base : Nat} {v : Value} {n : Nat} {xs : List Value} (h : w.ownsRow base 38 20 v n xs) : ∀ k, v.ownBlock = some k → base ≤ k ∧ k < w.heap.size := h.lt
theorem Tryd.slNil (W : World) : (binOp .eql 40 (.slice none 0 0) (.slice none 0 0)).run Tryd.prog W = .ok (.bool true) W := by kernel_rfl
theorem Tryd.slSome (a : Addr) (n c : Nat) (W : World) : (binOp .eql 40 (.slice (some a) n c) (.slice none 0 0)).run Tryd.prog W = .ok (.bool false) W := by kernel_rfl
set_option maxRecDepth 100000 in
theorem clone_any (v : Value) (l : Kv) (w : World) (hR : Rs w v l) (hl : okPs l) (hn : l.length ≤ 1000) :
    Calls Tryd.prog 43 #[v] w fun e w' => ∃ u, e = .returned u ∧ w'.ownsRow w.heap.size 38 20 u l.length (prV l) ∧ Below w.heap.size w w' := by
  rcases hR with ⟨rfl, rfl⟩ | ⟨ad, cap, rfl, h1⟩
  · have hq := Tryd.slNil w
    go_enter Tryd.func43, Tryd.ntmps43
    go_wp2_with fail
    go_ret
    exact ⟨_, rfl, own_nil w _, Below.refl _ _⟩
  · have hR2 : Rs (w.alloc (.cells #[] 38)) (.slice (some ad) l.length cap) l := Rs.below (.inr ⟨ad, cap, rfl, h1⟩) ((Below.refl _ _).alloc (Nat.le_refl _) _)
    obtain ⟨v', w', hr, ho, hg, _⟩ := app_rs (w.alloc (.cells #[] 38)) w.heap.size (.slice (some ⟨w.heap.size, 0, none⟩) 0 0) (.slice (some ad) l.length cap) [] l 40 (own_empty _ _ 0 #[] _ (Nat.le_refl _) (bk_new w _ #[]) rfl (by unfold maxLen; omega)) hR2 hl (by simp; omega) (by simp)
    have HO := Lib.hid ho
    have HB : Hid (Below w.heap.size w w') := Lib.hid (((Below.refl _ w).alloc (Nat.le_refl _) (.cells #[] 38)).grown hg (by simp) (fun k hk => by cases hk; exact Nat.le_refl _))
    have hq := Tryd.slSome ad l.length cap w
    clear ho hg hR2 h1
    go_enter Tryd.func43, Tryd.ntmps43
    go_wp2_with (at_builtin; refine Lib.wpList_append_run _ rfl _ _ _ _ rfl _ _ rfl rfl _ _ hr ?_)
    go_ret
    exact ⟨_, rfl, by simpa using HO.out, HB.out⟩
set_option maxRecDepth 100000 in
theorem grow_any (n : Nat) (w : World) (hn : n ≤ 1000000) :
    Calls Tryd.prog 58 #[.slice none 0 0, .int .i64 n] w fun e w' => ∃ u, e = .returned u ∧ w'.ownsRow w.heap.size 38 20 u ([] : Kv).length (prV []) ∧ Below w.heap.size w w' := by
  by_cases h0 : n = 0
  · subst h0
    go_enter Tryd.func58, Tryd.ntmps58
    go_wp2_with fail
    go_ret
    exact ⟨_, rfl, own_nil w _, Below.refl _ _⟩
  · obtain ⟨i0, hi, hz0, hz1, hz2⟩ := info_parts Tryd.infoPair
    have hr := Lib.run_append_nil_zeros (P := Tryd.prog) w 40 3 40 38 i0 (.agg (bu (List.replicate 20 0)).toArray) .i64 .i64 Tryd.underlying40 Tryd.underlying3 hi hz0 n (by omega) (by rw [hz1]; decide) (by omega) (by rw [hz2]; omega)
    have hge := grownCap_ge w n 0 38
    have hle := grownCap_le_maxLen w n 0 38 (by unfold maxLen; omega)
    have hzs : (Value.agg (bu (List.replicate 20 0)).toArray).cells.size = 20 := by decide +kernel
    have hA : (Builtin.zeroCells (Value.agg (bu (List.replicate 20 0)).toArray).cells n ++ Builtin.zeroCells (Value.agg (bu (List.replicate 20 0)).toArray).cells (grownCap w n 0 38 - n)).size = grownCap w n 0 38 * 20 := by
      rw [Array.size_append, size_zeroCells, size_zeroCells, hzs]
      omega
    generalize (Builtin.zeroCells (Value.agg (bu (List.replicate 20 0)).toArray).cells n ++ Builtin.zeroCells (Value.agg (bu (List.replicate 20 0)).toArray).cells (grownCap w n 0 38 - n)) = A at *
    generalize grownCap w n 0 38 = cap at *
    have HO : Hid ((w.drew.alloc (.cells A 38)).ownsRow w.heap.size 38 20 (.slice (some ⟨w.heap.size, 0, none⟩) 0 cap) ([] : Kv).length (prV [])) := Lib.hid (own_empty _ _ cap A _ (Nat.le_refl _) (bk_new w.drew _ A) hA hle)
    have HB : Hid (Below w.heap.size w (w.drew.alloc (.cells A 38))) := Lib.hid ((Below.refl w.heap.size w).drew.alloc (Nat.le_refl _) _)
    have hn0 : (0 : Int) < (n : Int) := by omega
    have hcl : (cap : Int) ≤ 9223372036854775807 := by unfold maxLen at hle; omega
    clear hz0 hz1 hz2 hi hzs hA hle
    go_enter Tryd.func58, Tryd.ntmps58
    go_wp2_with (at_builtin; refine Lib.wpList_append_run _ rfl _ _ _ _ rfl _ _ rfl rfl _ _ hr ?_)
    go_ret
    exact ⟨_, rfl, HO.out, HB.out⟩

set_option maxRecDepth 100000 in
set_option maxHeartbeats 1000000 in
theorem concat_any (c : Nat) (s0 s1 : Value) (l m : Kv) (w : World) (hc : Bk w c 40 #[s0, s1]) (h0 : Rs w s0 l) (h1 : Rs w s1 m) (hl : okPs l) (hm : okPs m) (hn : l.length ≤ 1000) (hk : m.length ≤ 1000) :
    Calls Tryd.prog 41 #[.slice (some ⟨c, 0, none⟩) 2 2] w fun e w' => ∃ u, e = .returned u ∧ w'.ownsRow w.heap.size 38 20 u (l ++ m).length (prV (l ++ m)) ∧ Below w.heap.size w w' := by
  have HG : Hid (Calls Tryd.prog 58 #[.slice none 0 0, .int .i64 ((l.length : Int) + (m.length : Int))] w fun e w' => ∃ u, e = .returned u ∧ w'.ownsRow w.heap.size 38 20 u ([] : Kv).length (prV []) ∧ Below w.heap.size w w') := Lib.hid (grow_any (l.length + m.length) w (by omega))
  have H0 := Lib.hid h0
  have H1 := Lib.hid h1
  have HC := Lib.hid hc
  obtain ⟨a0, c0, rfl, k0, _⟩ := h0.shape
  obtain ⟨a1, c1, rfl, k1, _⟩ := h1.shape
  have d0 := hc.c 0 _ rfl
  have d1 := hc.c 1 _ rfl
  clear hc h0 h1
  go_enter Tryd.func41, Tryd.ntmps41
  go_wp2_with fail
  refine wp_loop_rounds 3 ?_
  rw [rounds_succ]; go_wp2_with fail
  rw [rounds_succ]; go_wp2_with fail
  rw [rounds_succ]; go_wp2_with fail
  refine (HG.out).mono ?_
  rintro e w1 ⟨u, rfl, hu, hb⟩
  clear d0 d1 HG
  have hR0 := H0.out.below hb
  obtain ⟨v1, w2, hr1, ho1, hg1, hv1⟩ := app_rs w1 w.heap.size u _ [] l 40 hu hR0 hl (by simp; omega) hb.size
  have hb2 : Below w.heap.size w w2 := hb.grown hg1 hb.size (fun k hk => (hu.lt k hk).1)
  have hR1 := H1.out.below hb2
  rw [List.nil_append] at ho1
  obtain ⟨v2, w3, hr2, ho2, hg2, hv2⟩ := app_rs w2 w.heap.size v1 _ l m 40 ho1 hR1 hm (by omega) hb2.size
  have hb3 : Below w.heap.size w w3 := hb2.grown hg2 hb2.size (fun k hk => (ho1.lt k hk).1)
  have HO := Lib.hid ho2
  have HB := Lib.hid hb3
  have d0 := (HC.out.below hb HC.out.lt).c 0 _ rfl
  have d1 := (HC.out.below hb2 HC.out.lt).c 1 _ rfl
  clear hR0 hR1 ho1 ho2 hg1 hg2 hv1 hv2 hb hb2 hb3 hu HC H0 H1
  go_wp2_with fail
  refine wp_loop_rounds 3 ?_
  rw [rounds_succ]; go_wp2_with (at_builtin; refine Lib.wpList_append_run _ rfl _ _ _ _ rfl _ _ rfl rfl _ _ hr1 ?_)
  rw [rounds_succ]; go_wp2_with (at_builtin; refine Lib.wpList_append_run _ rfl _ _ _ _ rfl _ _ rfl rfl _ _ hr2 ?_)
  rw [rounds_succ]; go_wp2_with fail
  go_ret
  exact ⟨_, rfl, HO.out, HB.out⟩

theorem Tryd.heldPair : Tryd.prog.stoodInHeld 38 = false := by kernel_rfl
theorem Tryd.fieldsPair : Tryd.prog.underlying 38 = some (.struct (Tryd.prog.fieldsOf 38)) := by kernel_rfl
theorem Tryd.fieldsTwoP : ∃ f0 f1, (Tryd.prog.fieldsOf 38).toList = [f0, f1] ∧ f0.name ≠ "_" ∧ f1.name ≠ "_" ∧ f0.type = 36 ∧ f0.offset = 0 ∧ f1.type = 23 ∧ f1.offset = 4 := by
  unfold Program.fieldsOf
  rw [Tryd.underlying38]
  exact ⟨_, _, rfl, by decide, by decide, rfl, rfl, rfl, rfl⟩
theorem part_pf (p : List UInt8 × List UInt8) (hp : okPr p) (w : World) : (part 36 (prv p).toArray 0).run Tryd.prog w = .ok (.agg (bu p.1).toArray) w := by
  unfold part
  rw [Sem.run_bind, Tryd.agg4]
  simp only [Result.andThen_ok, if_true, Sem.run_bind, Tryd.size4, Sem.run_pure]
  congr 2
  apply Array.toList_inj.1
  rw [Array.toList_extract, List.extract_eq_take_drop, List.drop_zero]
  unfold prv
  show List.take (0 + 4 - 0) (bu p.1 ++ bu p.2) = bu p.1
  rw [List.take_append_of_le_length (by rw [bu_len, hp.1]; exact Nat.le_refl _)]
  exact List.take_of_length_le (by rw [bu_len, hp.1]; exact Nat.le_refl _)
theorem part_px (p : List UInt8 × List UInt8) (hp : okPr p) (w : World) : (part 23 (prv p).toArray 4).run Tryd.prog w = .ok (.agg (bu p.2).toArray) w := by
  unfold part
  rw [Sem.run_bind, Tryd.agg6]
  simp only [Result.andThen_ok, if_true, Sem.run_bind, Tryd.size6, Sem.run_pure]
  congr 2
  apply Array.toList_inj.1
  rw [Array.toList_extract, List.extract_eq_take_drop]
  unfold prv
  show List.take (4 + 16 - 4) (List.drop 4 (bu p.1 ++ bu p.2)) = bu p.2
  have e : (bu p.1).length = 4 := by rw [bu_len, hp.1]
  rw [← e, List.drop_left]
  exact List.take_of_length_le (by rw [bu_len, hp.2]; omega)
theorem inP (d : Nat) (p q : List UInt8 × List UInt8) (hp : okPr p) (hq : okPr q) (w : World) : (Op.equalIn (d + 1 + 1 + 1) 38 (.agg (prv p).toArray) (.agg (prv q).toArray)).run Tryd.prog w = .ok (decide (p = q)) w := by
  obtain ⟨f0, f1, hf, h0, h1, t0, o0, t1, o1⟩ := Tryd.fieldsTwoP
  have e : decide (p = q) = (decide (p.1 = q.1) && decide (p.2 = q.2)) := by
    rw [Bool.eq_iff_iff]
    simp [Prod.ext_iff]
  rw [run_equalIn_struct w (d + 1 + 1) 38 _ _ Tryd.fieldsPair Tryd.heldPair, hf, e]
  refine fields_two w (d + 1 + 1) _ _ f0 f1 h0 h1 (.agg (bu p.1).toArray) (.agg (bu q.1).toArray) (.agg (bu p.2).toArray) (.agg (bu q.2).toArray) (decide (p.1 = q.1)) (decide (p.2 = q.2)) ?_ ?_ ?_ ?_ ?_ ?_
  · rw [t0, o0]; exact part_pf p hp w
  · rw [t0, o0]; exact part_pf q hq w
  · rw [t0]; exact inU4 d p.1 q.1 hp.1 hq.1 w
  · rw [t1, o1]; exact part_px p hp w
  · rw [t1, o1]; exact part_px q hq w
  · rw [t1]; exact inU6 d p.2 q.2 hp.2 hq.2 w
theorem eqPr (p q : List UInt8 × List UInt8) (hp : okPr p) (hq : okPr q) (w : World) : (binOp .eql 38 (.agg (prv p).toArray) (.agg (prv q).toArray)).run Tryd.prog w = .ok (.bool (decide (p = q))) w := by
  rw [run_eql_struct, inP 9997 p q hp hq w]
  rfl
theorem neqPr (p q : List UInt8 × List UInt8) (hp : okPr p) (hq : okPr q) (w : World) : (binOp .neq 38 (.agg (prv p).toArray) (.agg (prv q).toArray)).run Tryd.prog w = .ok (.bool (!decide (p = q))) w := by
  rw [run_neq_struct, inP 9997 p q hp hq w]
  rfl
theorem Tryd.infoP (p : List UInt8 × List UInt8) (h : okPr p) : (Tryd.prog.info? 38).map (·.size) = some (prv p).length := by
  rw [prv_len h]
  kernel_rfl
theorem range_below {w w' : World} {b o B : Nat} {cs : List Value} (h : w.rangeAt b o cs) (hb : b < B) (hB : Below B w w') : w'.rangeAt b o cs := fun j v hj => (hB.cell (show (⟨b, o + j, none⟩ : Addr).block < B from hb)).trans (h j v hj)
/-- Where a pair stands first. -/
def ix : Kv → List UInt8 × List UInt8 → Nat
  | [], _ => 0
  | x :: r, p => if x = p then 0 else ix r p + 1
theorem ix_cons (x : List UInt8 × List UInt8) (r : Kv) (p : List UInt8 × List UInt8) : ix (x :: r) p = if x = p then 0 else ix r p + 1 := rfl
theorem ix_lt {l : Kv} {p : List UInt8 × List UInt8} (h : p ∈ l) : ix l p < l.length := by
  induction l with
  | nil => cases h
  | cons x r ih =>
    rw [ix_cons]
    split
    · simp
    · rename_i hne
      rcases List.mem_cons.1 h with h | h
      · exact absurd h.symm hne
      · have := ih h
        simp only [List.length_cons]
        omega
theorem drop_at {l : Kv} (k : Nat) (h : k < l.length) : l.drop k = l[k] :: l.drop (k + 1) := List.drop_eq_getElem_cons h
theorem ix_hit {l : Kv} {p : List UInt8 × List UInt8} {k : Nat} (h : ix l p = k + ix (l.drop k) p) (hk : k < l.length) (he : l[k] = p) : ix l p = k := by
  rw [h, drop_at k hk, ix_cons, if_pos he]
  rfl
theorem ix_miss {l : Kv} {p : List UInt8 × List UInt8} {k : Nat} (h : ix l p = k + ix (l.drop k) p) (hk : k < l.length) (he : l[k] ≠ p) : ix l p = k + 1 + ix (l.drop (k + 1)) p := by
  rw [h, drop_at k hk, ix_cons, if_neg he]
  omega

set_option maxRecDepth 100000 in
set_option maxHeartbeats 1000000 in
theorem index_any (v : Value) (l : Kv) (p : List UInt8 × List UInt8) (w : World) (hR : Rs w v l) (hl : okPs l) (hn : l.length ≤ 1000) (hm : p ∈ l) :
    Calls Tryd.prog 42 #[v, .agg (prv p).toArray] w fun e w' => e = .returned (.int .i64 (ix l p)) ∧ Below w.heap.size w w' := by
  have HP := Lib.hid (hl p hm)
  have HIP := Lib.hid (Tryd.infoP p (hl p hm))
  have HL := Lib.hid hl
  have HX := Lib.hid (ix_lt hm)
  have HB := Lib.hid ((Below.refl w.heap.size w).alloc (Nat.le_refl _) (.cells (prv p).toArray 38))
  have hR2 := hR.below HB.out
  have HBk := Lib.hid (bk_new w 38 (prv p).toArray)
  obtain ⟨ao, cap, rfl, _, hS⟩ := hR2.shape
  have HS := Lib.hid hS
  have HQ := Lib.hid (fun (q : List UInt8 × List UInt8) (hq : okPr q) W => eqPr p q HP.out hq W)
  clear hR hR2 hS hm hl
  generalize hPV : prv p = PV at *
  generalize hw2 : w.alloc (.cells PV.toArray 38) = w2 at *
  go_enter Tryd.func42, Tryd.ntmps42
  go_upto_region 1 with (fail)
  clear hw2
  go_wp2_with fail
  go_loopw [8] (fun i wr => ∃ k : Nat, k ≤ l.length ∧ i = .int .i64 k ∧ Below w2.heap.size w2 wr ∧ Hid (ix l p = k + ix (l.drop k) p)) (fun i _ => l.length - (intOf i).toNat)
  case atStart => exact ⟨0, Nat.zero_le _, rfl, Below.refl _ _, Lib.hid (by simp)⟩
  case round =>
    obtain ⟨k, hk, rfl, hbr, HA⟩ := hrel
    have HBr := Lib.hid hbr
    clear hbr
    by_cases hlt : k < l.length
    · obtain ⟨b, o, rfl, hbl, hr⟩ := HS.out k hlt
      have hq1 := range_el (range_below hr hbl HBr.out) HL.out k hlt
      have HOk := Lib.hid (okPs_at HL.out k hlt)
      have hp1 := (HBk.out.below HBr.out HBk.out.lt).range
      have hqe := HQ.out _ HOk.out
      have HIQ := Lib.hid (Tryd.infoP _ HOk.out)
      have HH := Lib.hid (fun h => ix_hit HA.out hlt h)
      have HM := Lib.hid (fun h => ix_miss HA.out hlt h)
      have hk2 : (k : Int) < (l.length : Int) := by omega
      clear hr hbl HOk
      generalize hx : l[k] = q at *
      generalize prv q = QV at *
      go_wp2_with fail
      go_upto_region 4 with (fail)
      refine wp_region_noPanic ?_
      refine wp_region_held_drew (S := fun w' => w'.rangeAt w.heap.size 0 PV ∧ w'.rangeAt b (o + k * 20) QV) (by kernel_rfl) (⟨hp1, hq1⟩) (fun hHeld => ?_)
      refine wpAnyH_take (i := 0) (oi := { dst := some 11, op := Op.load 38 (Operand.tmp 3), type := 38, pos := "slices.go:98", after := #[], guard := none }) (v := .agg (PV).toArray) rfl (by kernel_rfl) (by kernel_rfl) (by kernel_rfl) (fun _ _ _ h => h) (yieldsIf_load_mid (by rfl) _ _ rfl (w.heap.size) 0 rfl (PV) _ (fun ww hSw => hSw.1) Tryd.underlying38 rfl HIP.out) (by assumption) ?_
      (try simp only [Act.put, List.setIfInBounds_toArray, List.set_cons_zero, List.set_cons_succ])
      refine wpAnyH_take (i := 1) (oi := { dst := some 12, op := Op.move (Operand.tmp 0), type := 40, pos := "slices.go:98", after := #[], guard := none }) (v := ?_) rfl (by kernel_rfl) (by kernel_rfl) (by kernel_rfl) (fun _ _ _ h => h) (Or.inl ⟨by rfl, ?_⟩) (by assumption) ?_
      rotate_left
      · (intro ww hSw; (try dsimp only at hSw); go_simp; try with_reducible rfl)
      (try simp only [Act.put, List.setIfInBounds_toArray, List.set_cons_zero, List.set_cons_succ])
      refine wpAnyH_take (i := 2) (oi := { dst := some 13, op := Op.move (Operand.tmp 5), type := 3, pos := "slices.go:98", after := #[], guard := none }) (v := ?_) rfl (by kernel_rfl) (by kernel_rfl) (by kernel_rfl) (fun _ _ _ h => h) (Or.inl ⟨by rfl, ?_⟩) (by assumption) ?_
      rotate_left
      · (intro ww hSw; (try dsimp only at hSw); go_simp; try with_reducible rfl)
      (try simp only [Act.put, List.setIfInBounds_toArray, List.set_cons_zero, List.set_cons_succ])
      refine wpAnyH_take (i := 3) (oi := { dst := some 14, op := Op.indexAddr 40 (Operand.tmp 12) (Operand.tmp 13), type := 0, pos := "slices.go:98", after := #[{ on := 1, ground := Ground.data }, { on := 2, ground := Ground.data }], guard := none }) (v := ?_) rfl (by kernel_rfl) (by kernel_rfl) (by kernel_rfl) (fun _ _ _ h => h) (Or.inl ⟨by rfl, ?_⟩) (by assumption) ?_
      rotate_left
      · (intro ww hSw; (try dsimp only at hSw); go_simp; try with_reducible rfl)
      (try simp only [Act.put, List.setIfInBounds_toArray, List.set_cons_zero, List.set_cons_succ])
      refine wpAnyH_take (i := 4) (oi := { dst := some 15, op := Op.load 38 (Operand.tmp 14), type := 38, pos := "slices.go:98", after := #[{ on := 3, ground := Ground.data }], guard := none }) (v := .agg (QV).toArray) rfl (by kernel_rfl) (by kernel_rfl) (by kernel_rfl) (fun _ _ _ h => h) (yieldsIf_load_mid (by rfl) _ _ rfl (b) (o + k * 20) rfl (QV) _ (fun ww hSw => hSw.2) Tryd.underlying38 rfl HIQ.out) (by assumption) ?_
      (try simp only [Act.put, List.setIfInBounds_toArray, List.set_cons_zero, List.set_cons_succ])
      refine wpAnyH_take (i := 5) (oi := { dst := some 16, op := Op.binOp BinOp.eql 38 (Operand.tmp 11) (Operand.tmp 15) 38, type := 4, pos := "slices.go:98", after := #[{ on := 0, ground := Ground.data }, { on := 4, ground := Ground.data }], guard := none }) (v := ?_) rfl (by kernel_rfl) (by kernel_rfl) (by kernel_rfl) (fun _ _ _ h => h) (Or.inl ⟨by rfl, ?_⟩) (by assumption) ?_
      rotate_left
      · (intro ww hSw; (try dsimp only at hSw); go_simp; try with_reducible rfl)
      (try simp only [Act.put, List.setIfInBounds_toArray, List.set_cons_zero, List.set_cons_succ])
      refine wpAnyH_done (by kernel_rfl) ?_ _
      refine NoPanic.normal ?_
      by_cases he : q = p
      · have hd : decide (p = q) = true := by simp [he]
        have HE := Lib.hid (HH.out he)
        clear HH HM he
        rw [hd]
        go_wp2_with fail
        go_ret
        exact ⟨by rw [HE.out]; rfl, HB.out.trans (HBr.out.drew.mono HB.out.size)⟩
      · have hd : decide (p = q) = false := by simpa using fun e => he e.symm
        have HE := Lib.hid (HM.out he)
        clear HH HM he
        rw [hd]
        go_wp2_with fail
        go_roundw
        case rel => exact ⟨k + 1, hlt, by go_num, HBr.out.drew, Lib.hid HE.out⟩
        case measure => simp [intOf]; omega
    · obtain rfl : k = l.length := by omega
      exfalso
      have := HA.out
      rw [List.drop_length] at this
      have h2 := HX.out
      simp [ix] at this
      omega

set_option maxRecDepth 100000 in
set_option maxHeartbeats 8000000 in
theorem shares_any (b : Nat) (l : Kv) (p : List UInt8 × List UInt8) (w : World) (hT : Tb w b l) (hp : okPr p) :
    Calls Tryd.prog 39 #[.pointer (some ⟨b, 0, none⟩), .agg (prv p).toArray] w fun e w' => e = .returned (.bool (sixI l p.1 || fourI l p.2)) ∧ Below w.heap.size w w' := by
  have C6 := Lib.hid (fun W (hW : Below w.heap.size w W) => six_any b l p.1 W (hT.below (hW.mono (Nat.le_refl _))) hp.1)
  have C4 := Lib.hid (fun W (hW : Below w.heap.size w W) => four_any b l p.2 W (hT.below (hW.mono (Nat.le_refl _))) hp.2)
  have HP := Lib.hid hp
  have HI_VF : Hid ((Tryd.prog.info? 36).map (·.size) = some (bu p.1).length) := Lib.hid (Tryd.infoU4 _ (hp.1))
  have HO_VF : Hid ((bu p.1).toArray.all (·.oneCell') = true) := Lib.hid (bu_one _)
  have HL_VF : Hid ((bu p.1).length = 4) := Lib.hid (by rw [bu_len]; exact hp.1)
  have HI_VX : Hid ((Tryd.prog.info? 23).map (·.size) = some (bu p.2).length) := Lib.hid (Tryd.infoU6 _ (hp.2))
  have HO_VX : Hid ((bu p.2).toArray.all (·.oneCell') = true) := Lib.hid (bu_one _)
  have HL_VX : Hid ((bu p.2).length = 16) := Lib.hid (by rw [bu_len]; exact hp.2)
  have HI_PV : Hid ((Tryd.prog.info? 38).map (·.size) = some (prv p).length) := Lib.hid (Tryd.infoP _ (hp))
  have HO_PV : Hid ((prv p).toArray.all (·.oneCell') = true) := Lib.hid (prv_ones _)
  have HL_PV : Hid ((prv p).length = 20) := Lib.hid (prv_len (hp))
  have HI_AX : Hid ((Tryd.prog.info? 23).map (·.size) = some (bu (sixA l p.1)).length) := Lib.hid (Tryd.infoU6 _ (sixA_len hT.nl _))
  have HO_AX : Hid ((bu (sixA l p.1)).toArray.all (·.oneCell') = true) := Lib.hid (bu_one _)
  have HL_AX : Hid ((bu (sixA l p.1)).length = 16) := Lib.hid (by rw [bu_len]; exact sixA_len hT.nl _)
  have HI_AF : Hid ((Tryd.prog.info? 36).map (·.size) = some (bu (fourA l p.2)).length) := Lib.hid (Tryd.infoU4 _ (fourA_len hT.nl _))
  have HO_AF : Hid ((bu (fourA l p.2)).toArray.all (·.oneCell') = true) := Lib.hid (bu_one _)
  have HL_AF : Hid ((bu (fourA l p.2)).length = 4) := Lib.hid (by rw [bu_len]; exact fourA_len hT.nl _)
  have HK1 := Lib.hid ((Kp.start w).new 38 (prv p))
  have hr0 := range_f HK1.out.hd.range
  have HX1 : Hid (∀ W, Kp w w.heap.size [(w.heap.size, 38, prv p)] W → W.rangeAt w.heap.size (0 + 4) (bu p.2)) := Lib.hid (fun W k => range_x k.hd.range HP.out)
  clear hT hp HP
  generalize sixI l p.1 = o6 at *
  generalize fourI l p.2 = o4 at *
  generalize bu (sixA l p.1) = AX at *
  generalize bu (fourA l p.2) = AF at *
  generalize bu p.1 = VF at *
  generalize bu p.2 = VX at *
  generalize hPV : prv p = PV at *
  clear hPV
  generalize hw1 : w.alloc (.cells PV.toArray 38) = w1 at *
  go_enter Tryd.func39, Tryd.ntmps39
  go_upto_region 1 with (fail)
  clear hw1
  go_wp2_with (((with_reducible (change wpList _ _ _ _ _ _)); ((refine wpList_load_mid rfl 36 _ rfl (w.heap.size) (0) rfl (VF) _ hr0 Tryd.underlying36 rfl HI_VF.out ?_))))
  clear hr0
  refine (C6.out _ HK1.out.2.1).mono ?_
  rintro e w2 ⟨rfl, bb⟩
  have HK2 := Lib.hid (HK1.out.below bb (Nat.le_refl _))
  clear bb HK1
  have ht := (bk_new w2 23 ([.int .u8 0, .int .u8 0, .int .u8 0, .int .u8 0, .int .u8 0, .int .u8 0, .int .u8 0, .int .u8 0, .int .u8 0, .int .u8 0, .int .u8 0, .int .u8 0, .int .u8 0, .int .u8 0, .int .u8 0, .int .u8 0] : List Value).toArray).there AX.toArray.size (by have := HL_AX.out; simp; omega)
  go_upto_region 2 with (((with_reducible (change wpList _ _ _ _ _ _)); ((refine wpList_store_mid rfl 23 _ _ rfl w2.heap.size 0 AX.toArray rfl rfl ht (by simpa using HI_AX.out) HO_AX.out ?_))))
  have HK3 := Lib.hid (HK2.out.put 23 ([.int .u8 0, .int .u8 0, .int .u8 0, .int .u8 0, .int .u8 0, .int .u8 0, .int .u8 0, .int .u8 0, .int .u8 0, .int .u8 0, .int .u8 0, .int .u8 0, .int .u8 0, .int .u8 0, .int .u8 0, .int .u8 0] : List Value).toArray AX (by have := HL_AX.out; simp; omega))
  clear ht HK2
  generalize (w2.alloc (.cells ([.int .u8 0, .int .u8 0, .int .u8 0, .int .u8 0, .int .u8 0, .int .u8 0, .int .u8 0, .int .u8 0, .int .u8 0, .int .u8 0, .int .u8 0, .int .u8 0, .int .u8 0, .int .u8 0, .int .u8 0, .int .u8 0] : List Value).toArray 23)).setCells w2.heap.size 0 AX = w3 at *
  generalize w2.heap.size = g2 at *
  have hr0 := HX1.out _ HK3.out.tl
  go_wp2_with (((with_reducible (change wpList _ _ _ _ _ _)); ((refine wpList_load_mid rfl 23 _ rfl (w.heap.size) (0 + 4) rfl (VX) _ hr0 Tryd.underlying23 rfl HI_VX.out ?_))))
  clear hr0
  refine (C4.out _ HK3.out.2.1).mono ?_
  rintro e w4 ⟨rfl, bb⟩
  have HK4 := Lib.hid (HK3.out.below bb (Nat.le_refl _))
  clear bb HK3
  have ht := (bk_new w4 36 ([.int .u8 0, .int .u8 0, .int .u8 0, .int .u8 0] : List Value).toArray).there AF.toArray.size (by have := HL_AF.out; simp; omega)
  go_upto_region 3 with (((with_reducible (change wpList _ _ _ _ _ _)); ((refine wpList_store_mid rfl 36 _ _ rfl w4.heap.size 0 AF.toArray rfl rfl ht (by simpa using HI_AF.out) HO_AF.out ?_))))
  have HK5 := Lib.hid (HK4.out.put 36 ([.int .u8 0, .int .u8 0, .int .u8 0, .int .u8 0] : List Value).toArray AF (by have := HL_AF.out; simp; omega))
  clear ht HK4
  generalize (w4.alloc (.cells ([.int .u8 0, .int .u8 0, .int .u8 0, .int .u8 0] : List Value).toArray 36)).setCells w4.heap.size 0 AF = w5 at *
  generalize w4.heap.size = g4 at *
  cases o6
  · go_wp2_with fail
    go_ret
    exact ⟨rfl, HK5.out.2.1⟩
  · go_wp2_with fail
    go_ret
    exact ⟨rfl, HK5.out.2.1⟩
end Go.Proofs.YtchdagdmbjpmcaaDoor
