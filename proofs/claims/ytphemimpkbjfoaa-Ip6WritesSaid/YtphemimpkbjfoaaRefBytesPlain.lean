/-
  Proved here: plain facts on the bytes that the document's Bytes builds front to back; what its put answers, in the words of those facts.
  Conditions: as each fact says.
-/
import Derived.Test.YtphemimpkbjfoaaWritesLaw
import Derived.Test.YtphemimpkbjfoaaRefPut
import Derived.Laws.AppendOwn
namespace Go.Proofs.Ytphemimpkbjfoaa
open Go.RowKit

/-- What stands behind the first k extensions: the next that is told, and the bytes. -/
def Pk6.hk (p : Pk6) (k : Nat) : Int × ByteArray := (p.exts.drop k).foldr (fun e st => hstep st e) p.st0
theorem hk_zero (p : Pk6) : p.hk 0 = p.heads := rfl
theorem hk_step (p : Pk6) (k : Nat) (h : k < p.exts.length) : p.hk k = hstep (p.hk (k + 1)) p.exts[k] := by
  unfold Pk6.hk
  rw [List.drop_eq_getElem_cons h]
  rfl
theorem hk_end (p : Pk6) : p.hk p.exts.length = p.st0 := by
  unfold Pk6.hk
  rw [List.drop_length]
  rfl
theorem hk_kind (p : Pk6) (k : Nat) (h : k < p.exts.length) : (p.hk k).1 = p.exts[k].1 := by rw [hk_step p k h]; rfl
theorem hk_join (p : Pk6) (k : Nat) (h : k < p.exts.length) (s X : ByteArray) (hs : s ++ (p.hk k).2 = X) :
    s ++ strOfNums [(p.hk (k + 1)).1] ++ strOfNums [((p.exts[k].2.size : Int) - 6) / 8] ++ p.exts[k].2 ++ (p.hk (k + 1)).2 = X := by
  rw [← hs, hk_step p k h]
  unfold hstep
  dsimp only
  simp only [ByteArray.append_assoc]
theorem st0_range (p : Pk6) (hp : 0 ≤ p.proto ∧ p.proto < 256) : 0 ≤ p.st0.1 ∧ p.st0.1 < 256 := by
  unfold Pk6.st0
  split
  · exact ⟨show (0 : Int) ≤ 44 by decide, show (44 : Int) < 256 by decide⟩
  · exact hp
theorem hk_range (p : Pk6) (hp : 0 ≤ p.proto ∧ p.proto < 256) (hge : ∀ e ∈ p.exts, isEx e.1 ∧ e.2.size ≤ 2046 ∧ e.2.size % 8 = 6) (k : Nat) (hk : k ≤ p.exts.length) : 0 ≤ (p.hk k).1 ∧ (p.hk k).1 < 256 := by
  rcases Nat.lt_or_ge k p.exts.length with h | h
  · rw [hk_kind p k h]
    exact isEx_range (hge _ (List.getElem_mem h)).1
  · obtain rfl : k = p.exts.length := by omega
    rw [hk_end]
    exact st0_range p hp
/-- Ints as cells. -/
def intV (l : List Int) : List Value := l.map fun x => Value.int .i64 x
theorem intV_cat (a b : List Int) : intV a ++ intV b = intV (a ++ b) := by unfold intV; rw [List.map_append]
theorem intV_snoc (l : List (Int × ByteArray)) (k : Nat) (h : k < l.length) : intV ((l.take k).map (·.1)) ++ [.int .i64 l[k].1] = intV ((l.take (k + 1)).map (·.1)) := by
  rw [List.take_succ_eq_append_getElem h, List.map_append, ← intV_cat]
  rfl
theorem own_nil1 (w : World) (base : Nat) (T : TypeId) (l : List Int) (h : l = []) : w.ownsRow base T 1 (.slice none 0 0) 0 (intV l) := by subst h; exact ⟨rfl, .inl ⟨rfl, rfl⟩⟩
theorem own_ints {w : World} {base n : Nat} {T : TypeId} {v : Value} {l : List Int} (h : w.ownsRow base T 1 v n (intV l)) (hn : 0 < n) :
    ∃ (g cap : Nat) (CV : List Value), v = .slice (some ⟨g, 0, none⟩) n cap ∧ base ≤ g ∧ Bk w g T CV.toArray ∧ ∀ (j : Nat) (x : Int), l[j]? = some x → CV[j]? = some (Value.int .i64 x) := by
  obtain ⟨hl, ⟨_, h0⟩ | ⟨g, cap, cur, rfl, hb, hh, h3, h4, h5, h6⟩⟩ := h
  · omega
  · have hll : l.length = n := by simpa [intV] using hl
    refine ⟨g, cap, cur.toList, rfl, hb, hh, fun j x hx => ?_⟩
    have hj : j < l.length := (List.getElem?_eq_some_iff.1 hx).1
    have e := congrArg (fun x : List Value => x[j]?) h6
    simp only [Nat.mul_one] at e
    rw [List.getElem?_take, if_pos (by omega)] at e
    have e2 : (intV l)[j]? = some (.int .i64 x) := by
      unfold intV
      rw [List.getElem?_map, hx]
      rfl
    rw [e2] at e
    exact e
theorem nxs_at (p : Pk6) (l : List Int) (h0 : l[0]? = some p.st0.1) (k : Nat) (hk : k ≤ p.exts.length) : (p.exts.map (·.1) ++ l)[k]? = some (p.hk k).1 := by
  rcases Nat.lt_or_ge k p.exts.length with h | h
  · rw [List.getElem?_append_left (by rw [List.length_map]; exact h), List.getElem?_map, List.getElem?_eq_getElem h, hk_kind p k h]
    rfl
  · obtain rfl : k = p.exts.length := by omega
    rw [List.getElem?_append_right (by rw [List.length_map]; exact Nat.le_refl _), List.length_map, Nat.sub_self, h0, hk_end]
theorem kp_cons {w0 w : World} {B g : Nat} {T : TypeId} {CV : List Value} {l : List (Nat × TypeId × List Value)} (h : Kp w0 B l w) (hb : Bk w g T CV.toArray) : Kp w0 B ((g, T, CV) :: l) w := by
  refine ⟨fun x hx => ?_, h.2⟩
  rcases List.mem_cons.1 hx with rfl | hx
  · exact hb
  · exact h.1 x hx
theorem kp_grow {w wr w3 : World} {row : Option Nat} {T : TypeId} {V : List Value} (h : Kp w w.heap.size [(w.heap.size, T, V)] wr) (o : Obj) (g : (wr.alloc o).grownBy w3 row) (hr : ∀ k, row = some k → w.heap.size + 1 ≤ k) : Kp w w.heap.size [(w.heap.size, T, V)] w3 := by
  refine (h.alloc o).grown g (fun x hx e => ?_) (fun k hk => by have := hr k hk; omega)
  rw [List.mem_singleton] at hx
  subst hx
  have := hr _ e.symm
  dsimp only at this
  omega
theorem cell_on {w w' : World} {p : Addr} {v : Value} (h : w.cell? p = some v) (hb : Below w.heap.size w w') : w'.cell? p = some v := (hb.cell (World.block_lt_of_cell? w p h)).trans h
theorem Try.infoInt : (Try.prog.info? 3).map (fun i => (i.zero, i.size, i.bytes)) = some (some (.int .i64 0), 1, 8) := by kernel_rfl
theorem pput1 (x y : Int) (W : World) (h0 : 0 ≤ x) (h1 : x < 256) (hy : y = x) : Calls Try.prog 42 #[.int .i64 x, .int .i64 1] W fun e w' => e = .returned (.string (strOfNums [y])) ∧ Below W.heap.size W w' := by
  have h := rput1 x W h0 h1
  rw [show x % 256 = y by omega] at h
  exact h
theorem pput2 (x : Int) (W : World) (h0 : 0 ≤ x) (h1 : x < 65536) : Calls Try.prog 42 #[.int .i64 x, .int .i64 2] W fun e w' => e = .returned (.string (strOfNums [x / 256, x % 256])) ∧ Below W.heap.size W w' := by
  have h := rput2 x W h0 h1
  rw [show x / 256 % 256 = x / 256 by omega] at h
  exact h
theorem pput4 (x : Int) (W : World) (h0 : 0 ≤ x) (h1 : x < 4294967296) : Calls Try.prog 42 #[.int .i64 x, .int .i64 4] W fun e w' => e = .returned (.string (strOfNums [x / 16777216, x / 65536 % 256, x / 256 % 256, x % 256])) ∧ Below W.heap.size W w' := by
  have h := rput4 x W h0 h1
  rw [show x / 16777216 % 256 = x / 16777216 by omega] at h
  exact h
theorem strB_snoc (T : ByteArray) (l : List UInt8) (k : Nat) (h : k < l.length) : T ++ strB (l.take k) ++ strOfNums [((l.getD k 0).toNat : Int)] = T ++ strB (l.take (k + 1)) := by
  rw [ByteArray.append_assoc]
  congr 1
  apply ba_ext
  rw [ByteArray.data_append, Array.toList_append, strB_list, strB_list, List.take_succ_eq_append_getElem h, List.getD_eq_getElem?_getD, List.getElem?_eq_getElem h]
  have e : strOfNums [(((some l[k]).getD 0).toNat : Int)] = strB [l[k]] := rfl
  rw [e, strB_list]
theorem bytV_at (l : List UInt8) (k : Nat) (h : k < l.length) : (bytV l)[k]? = some (.int .u8 ((l.getD k 0).toNat : Int)) := by
  unfold bytV
  rw [List.getElem?_map, List.getElem?_eq_getElem h, List.getD_eq_getElem?_getD, List.getElem?_eq_getElem h]
  rfl
theorem cat_empty (s : ByteArray) : s ++ ⟨#[]⟩ = s := by
  apply ba_ext
  rw [ByteArray.data_append, Array.toList_append]
  exact List.append_nil _
theorem end_whole {p : Pk6} (hf : p.frag = false) {s X : ByteArray} (h : s ++ (p.hk p.exts.length).2 = X) : s = X := by
  rw [hk_end] at h
  unfold Pk6.st0 at h
  rw [hf] at h
  rw [← h]
  exact (cat_empty s).symm
theorem end_frag {p : Pk6} (hf : p.frag = true) (pl : Int) (hpl : p.place = pl) {s X : ByteArray} (h : s ++ (p.hk p.exts.length).2 = X) :
    s ++ strOfNums [p.proto] ++ strOfNums [0] ++ strOfNums [pl / 256, pl % 256] ++ strOfNums [p.id / 16777216, p.id / 65536 % 256, p.id / 256 % 256, p.id % 256] = X := by
  rw [hk_end] at h
  unfold Pk6.st0 at h
  rw [hf] at h
  rw [← h, ← hpl]
  show _ = s ++ p.fragB
  unfold Pk6.fragB
  simp only [ByteArray.append_assoc]
theorem zero_str : (0 : Int) = 0 := rfl
end Go.Proofs.Ytphemimpkbjfoaa
