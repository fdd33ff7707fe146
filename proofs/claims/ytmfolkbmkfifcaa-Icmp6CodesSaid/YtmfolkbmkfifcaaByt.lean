/-
  Proved here: rows of bytes that may be written: made of a text or by append, a byte stored, made a text again; a message's bytes in plain words.
  Conditions: as each fact says.
-/
import Derived.Test.YtmfolkbmkfifcaaRefParse
import Derived.Laws.BytesArg
import Derived.Lib.AppendStr
import Derived.Laws.AppendOwn
namespace Go.Proofs.Ytmfolkbmkfifcaa
open Go.RowKit

/-- A row of bytes that may be written. -/
def Byt (w : World) (g : Nat) (l : List UInt8) : Prop := ∀ j (h : j < l.length), w.cell? ⟨g, j, none⟩ = some (.int .u8 (l[j].toNat : Int)) ∧ w.frozen? ⟨g, j, none⟩ = false
theorem bytes_new (s : ByteArray) (w : World) : ∃ g cap w', (convert 9 45 (.string s)).run Try.prog w = .ok (.slice (some ⟨g, 0, none⟩) s.size cap) w' ∧ (Byt w' g s.data.toList ∧ w.heap.size ≤ g) ∧ Below w.heap.size w w' := by
  refine ⟨_, _, _, run_bytes_of_string w 9 45 5 s Try.underlying9 Try.underlying45 Try.underlying5, ⟨fun j hj => ⟨?_, ?_⟩, Nat.le_refl _⟩, ?_⟩
  · rw [show w.heap.size = w.drew.heap.size from rfl, World.cell?_alloc_mark, bytesRow_at s _ j (by simpa using hj)]
    rfl
  · rw [show w.heap.size = w.drew.heap.size from rfl, World.frozen?_alloc_mark]
    have : j < (bytesRow s (grownCap w s.size 0 5)).size := by
      unfold bytesRow
      simp at hj ⊢
      omega
    simp
    omega
  · exact ((Below.refl w.heap.size w).drew).alloc (Nat.le_refl _) _
theorem Byt.set {w : World} {g : Nat} {l : List UInt8} (h : Byt w g l) (K : Nat) (hK : K < l.length) (y : UInt8) (v : Int) (hv : v = (y.toNat : Int)) : Byt (w.setCell ⟨g, K, none⟩ (.int .u8 v)) g (l.set K y) := by
  subst hv
  intro j hj
  have hj' : j < l.length := by simpa using hj
  refine ⟨?_, ?_⟩
  · rw [List.getElem_set]
    split
    · rename_i hkj
      subst hkj
      exact World.cell?_setCell_same w ⟨g, K, none⟩ _ (h K hK).1
    · rename_i hkj
      rw [World.cell?_setCell_other w _ _ _ (fun he => hkj (by injection he))]
      exact (h j hj').1
  · simp [(h j hj').2]
theorem Byt.str {w : World} {g : Nat} {l : List UInt8} (h : Byt w g l) (n cap : Nat) (hn : l.length = n) :
    (convert 45 9 (.slice (some ⟨g, 0, none⟩) n cap)).run Try.prog w = .ok (.string ⟨l.toArray⟩) w := by
  subst hn
  exact run_convert_bytes_back (P := Try.prog) w 45 9 5 ⟨g, 0, none⟩ cap l Try.underlying45 Try.underlying5 Try.underlying9 (fun j hj => by
    have e : (⟨g, 0, none⟩ : Addr).add j = ⟨g, j, none⟩ := by unfold Addr.add; split <;> simp_all
    rw [e]
    exact (h j hj).1)
theorem Byt.below {w w' : World} {g B : Nat} {l : List UInt8} (h : Byt w g l) (hb : Below B w w') (hg : g < B) : Byt w' g l := fun j hj =>
  ⟨(hb.cell (p := ⟨g, j, none⟩) hg).trans (h j hj).1, (hb.frozen (p := ⟨g, j, none⟩) hg).trans (h j hj).2⟩
/-- A number's two bytes. -/
def tw (x : Int) : ByteArray := strOfNums [x / 256, x % 256]
theorem tw_size (x : Int) : (tw x).size = 2 := rfl
def hiB (x : Int) : UInt8 := UInt8.ofNat (x / 256).toNat
def loB (x : Int) : UInt8 := UInt8.ofNat (x % 256).toNat
theorem tw_list (x : Int) : (tw x).data.toList = [hiB x, loB x] := rfl
theorem hiB_int {x : Int} (h0 : 0 ≤ x) (h1 : x ≤ 65535) : x / 256 = ((hiB x).toNat : Int) := by
  unfold hiB
  rw [u8_of_int (by omega) (by omega)]
  omega
theorem loB_int {x : Int} : x % 256 = ((loB x).toNat : Int) := by
  unfold loB
  rw [u8_of_int (by omega) (by omega)]
  omega
theorem cat_list (a b : ByteArray) : (a ++ b).data.toList = a.data.toList ++ b.data.toList := by rw [ByteArray.data_append, Array.toList_append]
/-- Bytes as cells. -/
def bytV (l : List UInt8) : List Value := l.map fun c => Value.int .u8 (c.toNat : Int)
theorem own_byts {w : World} {base n : Nat} {v : Value} {l : List UInt8} (h : w.ownsRow base 5 1 v n (bytV l)) (hn : 0 < n) : ∃ g cap, v = .slice (some ⟨g, 0, none⟩) n cap ∧ base ≤ g ∧ g < w.heap.size ∧ Byt w g l ∧ l.length = n := by
  obtain ⟨hl, ⟨_, h0⟩ | ⟨g, cap, cur, rfl, hb, hh, h3, h4, h5, h6⟩⟩ := h
  · omega
  · have hll : l.length = n := by simpa [bytV] using hl
    refine ⟨g, cap, rfl, hb, ?_, fun j hj => ⟨?_, ?_⟩, hll⟩
    · rcases Nat.lt_or_ge g w.heap.size with hlt | hge
      · exact hlt
      · rw [Array.getElem?_eq_none hge] at hh; cases hh
    · have hc : cur[j]? = some (.int .u8 (l[j].toNat : Int)) := by
        have e := congrArg (fun x : List Value => x[j]?) h6
        simp only [Nat.mul_one] at e
        rw [List.getElem?_take, if_pos (by omega)] at e
        have e2 : (bytV l)[j]? = some (.int .u8 (l[j].toNat : Int)) := by
          unfold bytV
          rw [List.getElem?_map, List.getElem?_eq_getElem hj]
          rfl
        rw [e2] at e
        simpa using e
      simp only [World.cell?, hh]
      exact hc
    · simp [World.frozen?, hh]
theorem strCells_bytV (s : ByteArray) : Go.Lib.strCells s = bytV s.data.toList := rfl
theorem own_start {w : World} {base : Nat} (A : Array Value) (l : List UInt8) (hA : A = (bytV l).toArray) (n : Nat) (hn : l.length = n) (hnm : n ≤ maxLen) (hb : base ≤ w.heap.size) :
    (w.alloc (.cells A 5)).ownsRow base 5 1 (.slice (some ⟨w.heap.size, 0, none⟩) n n) n (bytV l) := by
  subst hA
  have hl : (bytV l).length = n := by simpa [bytV] using hn
  refine ⟨by rw [hl, Nat.mul_one], .inr ⟨w.heap.size, n, (bytV l).toArray, rfl, hb, heap_alloc_new _ _, Nat.le_refl _, hnm, by simpa using hl, ?_⟩⟩
  rw [List.toList_toArray, List.take_of_length_le (by rw [hl, Nat.mul_one]; exact Nat.le_refl _)]
theorem bytV_cat (a b : List UInt8) : bytV a ++ bytV b = bytV (a ++ b) := by unfold bytV; rw [List.map_append]
theorem Try.infoU8 : (Try.prog.info? 5).map (fun i => (i.zero, i.size, i.bytes)) = some (some (.int .u8 0), 1, 1) := by kernel_rfl
/-- Why a message has no bytes: a code, or 0. -/
def Ms.why (d : Ms) : Int := if d.kd < 0 ∨ 255 < d.kd ∨ d.cd < 0 ∨ 255 < d.cd then 13 else 0
/-- A number's four bytes. -/
def fw (n : Nat) : ByteArray := strOfNums [((n : Nat) : Int) / 16777216, ((n : Nat) : Int) / 65536 % 256, ((n : Nat) : Int) / 256 % 256, ((n : Nat) : Int) % 256]
theorem fw_size (n : Nat) : (fw n).size = 4 := rfl
def u8i (x : Int) : UInt8 := UInt8.ofNat x.toNat
theorem u8i_nat {x : Int} (h0 : 0 ≤ x) (h1 : x < 256) : x = ((u8i x).toNat : Int) := by
  unfold u8i
  rw [u8_of_int h0 h1]
  omega
def fwL (n : Nat) : List UInt8 := [u8i (((n : Nat) : Int) / 16777216), u8i (((n : Nat) : Int) / 65536 % 256), u8i (((n : Nat) : Int) / 256 % 256), u8i (((n : Nat) : Int) % 256)]
theorem fw_list (n : Nat) : (fw n).data.toList = fwL n := rfl
/-- A message's bytes, with x in the sum's place. -/
def Ms.form (d : Ms) (x : Int) : ByteArray := strOfNums [d.kd, d.cd] ++ tw x ++ (fw d.rs ++ d.da)
/-- The sum that its bytes bear. -/
def Ms.sumN (d : Ms) (ps : ByteArray) : Nat := sumL (ps ++ d.form 0).data.toList
def Ms.bytes (d : Ms) (ps : ByteArray) : ByteArray := d.form (d.sumN ps : Nat)
/-- The bytes, or none. -/
def Ms.out (d : Ms) (ps : ByteArray) : ByteArray := if d.why = 0 then d.bytes ps else ⟨#[]⟩
theorem form_list (d : Ms) (x : Int) : (d.form x).data.toList = [u8i d.kd, u8i d.cd, hiB x, loB x] ++ fwL d.rs ++ d.da.data.toList := by
  unfold Ms.form
  rw [cat_list, cat_list, cat_list, tw_list, fw_list]
  rfl
theorem form_size (d : Ms) (x : Int) : (d.form x).size = 8 + d.da.size := by
  rw [← ba_size, form_list]
  simp [fwL]
  omega
theorem why_zero {d : Ms} (h : d.why = 0) : (0 ≤ d.kd ∧ d.kd ≤ 255) ∧ (0 ≤ d.cd ∧ d.cd ≤ 255) := by
  unfold Ms.why at h
  split at h
  · cases h
  · omega
theorem sumN_le (d : Ms) (ps : ByteArray) : d.sumN ps ≤ 65535 := sumL_le _
theorem bytV8 {x0 x1 x4 x5 x6 x7 : Int} (h0 : 0 ≤ x0 ∧ x0 < 256) (h1 : 0 ≤ x1 ∧ x1 < 256) (h4 : 0 ≤ x4 ∧ x4 < 256) (h5 : 0 ≤ x5 ∧ x5 < 256) (h6 : 0 ≤ x6 ∧ x6 < 256) (h7 : 0 ≤ x7 ∧ x7 < 256) :
    #[Value.int .u8 x0, .int .u8 x1, .int .u8 0, .int .u8 0, .int .u8 x4, .int .u8 x5, .int .u8 x6, .int .u8 x7] = (bytV [u8i x0, u8i x1, 0, 0, u8i x4, u8i x5, u8i x6, u8i x7]).toArray := by
  unfold bytV
  simp only [List.map_cons, List.map_nil]
  rw [← u8i_nat h0.1 h0.2, ← u8i_nat h1.1 h1.2, ← u8i_nat h4.1 h4.2, ← u8i_nat h5.1 h5.2, ← u8i_nat h6.1 h6.2, ← u8i_nat h7.1 h7.2]
  rfl
end Go.Proofs.Ytmfolkbmkfifcaa
