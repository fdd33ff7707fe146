/-
  Proved here: plain facts on lists that make a table; small laws of the walk.
  Conditions: none.
-/
import Derived.Test.YtchdagdmbjpmcaaDoorEc
namespace Go.Proofs.YtchdagdmbjpmcaaDoor
open Go.RowKit

/-- A list that makes a table. -/
structure Good (l : Kv) : Prop where
  ma : ∀ p ∈ l, mart p = false
  ds : Ds l
  len : l.length ≤ 16
theorem Good.nil : Good [] := ⟨fun p hp => (by cases hp), List.Pairwise.nil, Nat.zero_le _⟩
theorem Good.nl {l : Kv} (h : Good l) (hl : okPs l) : Nl l := ⟨hl, h.ds, h.len⟩
theorem good_snoc {l : Kv} {p : List UInt8 × List UInt8} (h : Good l) : addE l p = 0 ↔ Good (l ++ [p]) := by
  rw [addE_zero]
  constructor
  · rintro ⟨h1, h2, h3⟩
    refine ⟨fun q hq => ?_, List.pairwise_append.2 ⟨h.ds, by simp, fun x hx y hy => ?_⟩, by rw [List.length_append]; show l.length + 1 ≤ 16; omega⟩
    · rcases List.mem_append.1 hq with hq | hq
      · exact h.ma q hq
      · rw [List.mem_singleton.1 hq]; exact h1
    · rw [List.mem_singleton.1 hy]
      exact shr_no h2 x hx
  · intro hg
    have hlen := hg.len
    rw [List.length_append] at hlen
    have h1 : l.length + 1 ≤ 16 := hlen
    exact ⟨hg.ma p (by simp), shr_none (fun x hx => (List.pairwise_append.1 hg.ds).2.2 x hx p (by simp)), by omega⟩
theorem Good.left {l m : Kv} (h : Good (l ++ m)) : Good l := ⟨fun p hp => h.ma p (List.mem_append_left _ hp), (List.pairwise_append.1 h.ds).1, by have := h.len; rw [List.length_append] at this; omega⟩
theorem newG_good (l : Kv) : ∀ L : Kv, Good L → (((newG L l).1 = 0 ↔ Good (L ++ l)) ∧ ((newG L l).1 = 0 → (newG L l).2 = L ++ l)) := by
  induction l with
  | nil => intro L h; rw [List.append_nil]; exact ⟨⟨fun _ => h, fun _ => rfl⟩, fun _ => rfl⟩
  | cons p r ih =>
    intro L h
    show (((if addE L p = 0 then newG (L ++ [p]) r else (addE L p, [])).1 = 0 ↔ _) ∧ ((if addE L p = 0 then newG (L ++ [p]) r else (addE L p, [])).1 = 0 → (if addE L p = 0 then newG (L ++ [p]) r else (addE L p, [])).2 = _))
    have e : L ++ p :: r = (L ++ [p]) ++ r := by simp
    by_cases he : addE L p = 0
    · rw [if_pos he, e]
      exact ih _ ((good_snoc h).1 he)
    · rw [if_neg he, e]
      exact ⟨⟨fun h0 => absurd h0 he, fun hg => absurd ((good_snoc h).2 hg.left) he⟩, fun h0 => absurd h0 he⟩
theorem newE_good {l : Kv} : newE l = 0 ↔ Good l := by have h := (newG_good l [] Good.nil).1; rwa [List.nil_append] at h
theorem newL_good {l : Kv} (h : Good l) : newL l = l := by
  have h1 := newG_good l [] Good.nil
  rw [List.nil_append] at h1
  exact h1.2 (h1.1.2 h)
theorem Good.rev {l : Kv} (h : Good l) : Good l.reverse :=
  ⟨fun p hp => h.ma p (List.mem_reverse.1 hp), List.pairwise_reverse.2 (h.ds.imp fun ⟨a, b⟩ => ⟨fun e => a e.symm, fun e => b e.symm⟩), by rw [List.length_reverse]; exact h.len⟩
theorem good_rev {l : Kv} : Good l.reverse ↔ Good l := ⟨fun h => by have := h.rev; rwa [List.reverse_reverse] at this, Good.rev⟩
theorem newE_rev (l : Kv) : newE l.reverse = 0 ↔ newE l = 0 := by rw [newE_good, newE_good, good_rev]
theorem newG_app (l m : Kv) : ∀ L : Kv, (newG L l).1 = 0 → newG L (l ++ m) = newG (newG L l).2 m := by
  induction l with
  | nil => intro L _; rfl
  | cons p r ih =>
    intro L h
    have h' : (if addE L p = 0 then newG (L ++ [p]) r else (addE L p, [])).1 = 0 := h
    show (if addE L p = 0 then newG (L ++ [p]) (r ++ m) else (addE L p, [])) = newG (if addE L p = 0 then newG (L ++ [p]) r else (addE L p, [])).2 m
    by_cases he : addE L p = 0
    · rw [if_pos he] at h' ⊢
      rw [if_pos he]
      exact ih _ h'
    · rw [if_neg he] at h'
      exact absurd h' he
/-- What is there twice makes none. -/
theorem newE_twice {l : Kv} {p : List UInt8 × List UInt8} (h : Good l) (hp : p ∈ l) : newE (l ++ [p]) = 5 := by
  have h0 := newE_good.2 h
  have e : newG [] (l ++ [p]) = newG l [p] := by
    rw [newG_app l [p] [] h0]
    show newG (newL l) [p] = _
    rw [newL_good h]
  have hs : shr l p = true := by
    obtain ⟨k, hk, rfl⟩ := List.mem_iff_getElem.1 hp
    exact shr_hit k hk (.inl rfl)
  have ha : addE l p = 5 := by
    unfold addE
    rw [h.ma p hp, hs]
    rfl
  unfold newE
  rw [e]
  show (if addE l p = 0 then newG (l ++ [p]) [] else (addE l p, [])).1 = 5
  rw [ha, if_neg (by decide)]
theorem lk_of {l : Kv} (hd : Ds l) {p : List UInt8 × List UInt8} (hp : p ∈ l) : lk l p.1 = some p.2 := by
  induction l with
  | nil => cases hp
  | cons x r ih =>
    have h := List.pairwise_cons.1 hd
    show (if x.1 = p.1 then some x.2 else lk r p.1) = _
    rcases List.mem_cons.1 hp with rfl | hm
    · rw [if_pos rfl]
    · rw [if_neg (h.1 p hm).1]
      exact ih h.2 hm
theorem ds_sw {l : Kv} (h : Ds l) : Ds (sw l) := by
  unfold sw
  exact List.pairwise_map.2 (h.imp fun ⟨a, b⟩ => ⟨b, a⟩)
theorem sw_mem {l : Kv} {p : List UInt8 × List UInt8} (h : p ∈ l) : (p.2, p.1) ∈ sw l := List.mem_map.2 ⟨p, h, rfl⟩
theorem six_of {l : Kv} (hd : Ds l) {p : List UInt8 × List UInt8} (hp : p ∈ l) : sixA l p.1 = p.2 ∧ sixI l p.1 = true := by
  unfold sixA sixI lkv
  rw [lk_of hd hp]
  exact ⟨rfl, rfl⟩
theorem four_of {l : Kv} (hd : Ds l) {p : List UInt8 × List UInt8} (hp : p ∈ l) : fourA l p.2 = p.1 ∧ fourI l p.2 = true := by
  unfold fourA fourI lkv
  rw [lk_of (ds_sw hd) (sw_mem hp)]
  exact ⟨rfl, rfl⟩
theorem Tryd.bsNone (W : World) : (Instr.buildSlice 40 0 #[]).run Tryd.prog W = .ok (.slice (some ⟨W.heap.size, 0, none⟩) 0 0) (W.alloc (.cells #[] 38)) := by kernel_rfl
/-- An empty slice literal is one's own. -/
theorem own_lit (W : World) : (W.alloc (.cells #[] 38)).ownsRow W.heap.size 38 20 (.slice (some ⟨W.heap.size, 0, none⟩) 0 0) ([] : Kv).length (prV []) := own_empty _ _ 0 #[] _ (Nat.le_refl _) (bk_new W 38 #[]) rfl (by unfold maxLen; omega)
/-- A slice literal of one pair. -/
theorem rs_lit (W : World) (p : List UInt8 × List UInt8) : Rs (W.alloc (.cells (prv p).toArray 38)) (.slice (some ⟨W.heap.size, 0, none⟩) 1 1) [p] := .inr ⟨_, 1, rfl, Nat.le_refl _, .inr ⟨_, 0, rfl, by simp, by rw [prV_one]; exact (bk_new W 38 (prv p).toArray).range⟩⟩
theorem okPs_one {p : List UInt8 × List UInt8} (h : okPr p) : okPs [p] := fun q hq => by rw [List.mem_singleton.1 hq]; exact h
theorem okPs_rev {l : Kv} (h : okPs l) : okPs l.reverse := fun p hp => h p (List.mem_reverse.1 hp)
theorem same_self (v x : Value) (l : Kv) (w : World) (hR : Rs w v l) (hS : Rs w x l) (hl : okPs l) (hn : l.length ≤ 1000) : Calls Tryd.prog 28 #[v, x] w fun e w' => e = .returned (.bool true) ∧ Below w.heap.size w w' := by
  have h := same_any v x l l w hR hS hl hl hn hn
  rwa [show decide (l = l) = true by simp] at h
theorem Tb.under {w w' : World} {b B : Nat} {l : Kv} (h : Tb w b l) (hb : Below B w w') (hB : w.heap.size ≤ B) : Tb w' b l := h.below (hb.mono hB)
end Go.Proofs.YtchdagdmbjpmcaaDoor
