/-
  Proved here: what a block is behind stores of many cells; how a result that lies in memory is read; what ip4.address answers.
  Conditions: the reader's block is whole.
-/
import Derived.Test.YtdljjcnihajchaaFBytes
import Derived.Test.YtdljjcnihajchaaFNumber
import Derived.Lib.LazyBuf
namespace Go.Proofs.Ytdljjcnihajchaa.P4
open Go.RowKit

/-- Values put into an array, one behind the other. -/
def puts (A : Array Value) (o : Nat) : List Value → Array Value
  | [] => A
  | v :: r => puts (A.setIfInBounds o v) (o + 1) r
section
variable {w w' : World} {b : Nat} {T : TypeId} {A : Array Value}
theorem Bk.set (h : Bk w b T A) (i : Nat) (v : Value) : Bk (w.setCell ⟨b, i, none⟩ v) b T (A.setIfInBounds i v) := by
  have hlt := h.lt
  unfold Bk at h
  have h' : w.heap[b] = .cells A T (0, 0) := by simpa [Array.getElem?_eq_getElem hlt] using h
  show (w.heap.modify b _)[b]? = _
  rw [Array.getElem?_eq_getElem (by simpa using hlt), Array.getElem_modify_self, h']
  rfl
theorem Bk.sets (vs : List Value) : ∀ (o : Nat) (w : World) (A : Array Value), Bk w b T A → Bk (w.setCells b o vs) b T (puts A o vs) := by
  induction vs with
  | nil => intro o w A h; exact h
  | cons v r ih => intro o w A h; exact ih (o + 1) _ _ (h.set o v)
theorem heap_sets (vs : List Value) {k : Nat} (hk : k ≠ b) : ∀ (o : Nat) (w : World), (w.setCells b o vs).heap[k]? = w.heap[k]? := by
  induction vs with
  | nil => intro o w; rfl
  | cons v r ih => intro o w; exact (ih (o + 1) _).trans (Below.heap_setCell _ _ _ _ hk)
theorem Bk.sets_other {c : Nat} (h : Bk w c T A) (hc : c ≠ b) (o : Nat) (vs : List Value) : Bk (w.setCells b o vs) c T A := (heap_sets vs hc o w).trans h
theorem Bk.set_other {c : Nat} (h : Bk w c T A) (hc : c ≠ b) (o : Nat) (v : Value) : Bk (w.setCell ⟨b, o, none⟩ v) c T A := (Below.heap_setCell _ _ _ _ hc).trans h
theorem Rd.sets_other {c : Nat} {s : ByteArray} {p : Nat} {k : Int} (h : Rd w c s p k) (hc : c ≠ b) (o : Nat) (vs : List Value) : Rd (w.setCells b o vs) c s p k := (heap_sets vs hc o w).trans h
theorem Rd.set_other {c : Nat} {s : ByteArray} {p : Nat} {k : Int} (h : Rd w c s p k) (hc : c ≠ b) (o : Nat) (v : Value) : Rd (w.setCell ⟨b, o, none⟩ v) c s p k := (Below.heap_setCell _ _ _ _ hc).trans h
theorem Bk.there (h : Bk w b T A) (n : Nat) (hn : n ≤ A.size) : w.there b 0 n := by
  intro j hj
  rw [Nat.zero_add]
  refine ⟨?_, h.z j⟩
  rw [h.c j A[j] (by simp)]
  rfl
theorem up_sets {row : Option Nat} (vs : List Value) (hb : w.heap.size ≤ b) : ∀ (o : Nat) (w' : World), w.grownBy w' row → w.grownBy (w'.setCells b o vs) row := by
  induction vs with
  | nil => intro o w' h; exact h
  | cons v r ih =>
    intro o w' h
    refine ih (o + 1) _ ⟨h.os, h.tape, h.output, by simpa [World.setCell] using h.size, fun k hk hn => ?_⟩
    exact (Below.heap_setCell _ _ _ _ (by simp; omega)).trans (h.block k hk hn)
theorem below_sets {B : Nat} (vs : List Value) (hb : B ≤ b) : ∀ (o : Nat) (w' : World), Below B w w' → Below B w (w'.setCells b o vs) := by
  induction vs with
  | nil => intro o w' h; exact h
  | cons v r ih => intro o w' h; exact ih (o + 1) _ (h.setCell (by exact hb) v)
theorem size_sets (vs : List Value) : ∀ (o : Nat) (w : World), (w.setCells b o vs).heap.size = w.heap.size := by
  induction vs with
  | nil => intro o w; rfl
  | cons v r ih => intro o w; exact (ih (o + 1) _).trans (by simp [World.setCell])
end
theorem results_cell {P : Program} {fn : Func} {t : Tmp} {T : TypeId} {tmps : Array Value} {w : World} {b o : Nat} {v : Value} (h : fn.results = #[.cell t T]) (hv : tmps.getD t undef = .pointer (some ⟨b, o, none⟩)) (hl : (loadVar T ⟨b, o, none⟩).run P w = .ok v w) :
    (results fn tmps).run P w = .ok v w := by
  have hv' : tmps[t]?.getD undef = .pointer (some ⟨b, o, none⟩) := by simpa using hv
  simp [results, h, hv', asAddr, hl]
theorem results_cell2 {P : Program} {fn : Func} {t u : Tmp} {T : TypeId} {tmps : Array Value} {w : World} {b o : Nat} {v x : Value} (h : fn.results = #[.cell t T, .tmp u]) (hv : tmps.getD t undef = .pointer (some ⟨b, o, none⟩)) (hx : tmps.getD u undef = x) (hl : (loadVar T ⟨b, o, none⟩).run P w = .ok v w) :
    (results fn tmps).run P w = .ok (.tuple #[v, x]) w := by
  have hv' : tmps[t]?.getD undef = .pointer (some ⟨b, o, none⟩) := by simpa using hv
  have hx' : tmps[u]?.getD undef = x := by simpa using hx
  simp [results, h, hv', hx', asAddr, hl]

/-- Four bytes of a text, as an array's cells. -/
def quadV (s : ByteArray) (p : Nat) : List Value := (s.extract p (p + 4)).data.toList.map fun x => Value.int .u8 (x.toNat : Int)
theorem quadV_one (s : ByteArray) (p : Nat) : ∀ v ∈ quadV s p, v.oneCell' = true := by
  intro v hv
  obtain ⟨x, _, rfl⟩ := List.mem_map.1 hv
  rfl
theorem quadV_len (s : ByteArray) (p : Nat) (h : p + 4 ≤ s.size) : (quadV s p).length = 4 := by
  unfold quadV
  rw [List.length_map]
  simp
  omega
theorem four_of' {V : List Value} (h : V.length = 4) : ∃ y0 y1 y2 y3 : Value, V = [y0, y1, y2, y3] := by
  match V, h with
  | [y0, y1, y2, y3], _ => exact ⟨y0, y1, y2, y3, rfl⟩
theorem puts4 (x0 x1 x2 x3 : Value) (V : List Value) (h : V.length = 4) : puts #[x0, x1, x2, x3] 0 V = V.toArray := by
  match V, h with
  | [y0, y1, y2, y3], _ => rfl
theorem Try.sizeByte (w : World) : (Go.sizeOf 5).run Try.prog w = .ok 1 w := by kernel_rfl
set_option maxRecDepth 100000 in
set_option maxHeartbeats 400000 in
theorem address_any {w : World} {r : Nat} {s : ByteArray} {p : Nat} (h : Rd w r s p 0) (hs : s.size ≤ maxLen) (hl : p + 4 ≤ s.size) :
    Calls Try.prog 31 #[.pointer (some ⟨r, 0, none⟩)] w fun e w' => e = .returned (.agg (quadV s p).toArray) ∧ Rd w' r s (p + 4) 0 ∧ w.grownBy w' (some r) := by
  have hr0 := h.alloc (.cells #[.int .u8 0, .int .u8 0, .int .u8 0, .int .u8 0] 33)
  have hk0 := bk_new w 33 #[.int .u8 0, .int .u8 0, .int .u8 0, .int .u8 0]
  have HK0 := Lib.hid hk0
  have HT := Lib.hid (text_ok hr0 hs 4 hl)
  have HLt := Lib.hid h.lt
  have HL := Lib.hid (quadV_len s p hl)
  have HO := Lib.hid (quadV_one s p)
  have hz : (s.extract p (p + 4)).size = 4 := by simp; omega
  have HZ := Lib.hid hz
  clear hr0 hk0 h hz hl hs
  go_enter Try.func31, Try.ntmps31
  go_wp2_with fail
  refine HT.out.mono ?_
  rintro e w2 ⟨rfl, hR2, hG2⟩
  have hk2 : Bk w2 w.heap.size 33 #[.int .u8 0, .int .u8 0, .int .u8 0, .int .u8 0] := HK0.out.grown hG2 (by have := HLt.out; simp; omega)
  have hcp : ∀ ty, (Builtin.copy_ #[72, 9] ty #[.slice (some ⟨w.heap.size, 0, none⟩) 4 4, .string (s.extract p (p + 4))]).run Try.prog w2 = .ok (goInt (s.extract p (p + 4)).size) (w2.setCells w.heap.size 0 (quadV s p)) := fun ty =>
    Go.run_copy_string w2 _ _ ty 5 w.heap.size 0 4 4 _ Try.underlying72 Try.sizeByte (Nat.le_of_eq HZ.out) (fun j hj => (hk2.there 4 (Nat.le_refl _) j (by rw [HZ.out] at hj; exact hj)).1) (fun j hj => (hk2.there 4 (Nat.le_refl _) j (by rw [HZ.out] at hj; exact hj)).2)
  have hG2' : w.grownBy w2 (some r) := up_trans (World.grownBy_alloc _ _ _) hG2
  have hk3 := Bk.sets (quadV s p) 0 _ _ hk2
  rw [puts4 _ _ _ _ _ HL.out] at hk3
  have HK3 := Lib.hid hk3
  have HR3 := Lib.hid (hR2.sets_other (b := w.heap.size) (by have := HLt.out; omega) 0 (quadV s p))
  have HG3 := Lib.hid (up_sets (quadV s p) (Nat.le_refl _) 0 _ hG2')
  clear hk2 hG2 hG2' hk3 hR2
  have HCP := Lib.hid (hcp 3)
  clear hcp
  go_wp2_with fail
  rw [HCP.out]
  generalize w2.setCells w.heap.size 0 (quadV s p) = w3 at HK3 HR3 HG3
  have hr3 := HK3.out.range
  have ht3 := HK3.out.there 4 (Nat.le_of_eq (by simpa using HL.out.symm))
  have hi : (Try.prog.info? 33).map (·.size) = some (quadV s p).length := by rw [HL.out]; kernel_rfl
  have hone := all_oneCell_toArray HO.out
  have ht4 : w3.there w.heap.size 0 (quadV s p).toArray.size := by rw [show (quadV s p).toArray.size = 4 from HL.out]; exact ht3
  go_wp2_with (first | (refine wpList_load_mid rfl 33 _ rfl w.heap.size 0 rfl (quadV s p) _ hr3 Try.underlying33 rfl hi ?_) | (refine wpList_store_mid rfl 33 _ _ rfl w.heap.size 0 (quadV s p).toArray rfl rfl ht4 hi hone ?_))
  have hk5 := Bk.sets (quadV s p) 0 _ _ HK3.out
  rw [show puts (quadV s p).toArray 0 (quadV s p) = (quadV s p).toArray by
    obtain ⟨y0, y1, y2, y3, e⟩ := four_of' HL.out
    rw [e]; rfl] at hk5
  refine bodyPost_ret (v := .agg (quadV s p).toArray) (results_cell rfl rfl (run_loadVar_mid _ w.heap.size 0 33 (quadV s p) _ hk5.range Try.underlying33 rfl hi)) rfl ⟨rfl, ?_, ?_⟩
  · exact HR3.out.sets_other (by have := HLt.out; omega) 0 _
  · exact up_sets _ (Nat.le_refl _) 0 _ HG3.out
end Go.Proofs.Ytdljjcnihajchaa.P4
