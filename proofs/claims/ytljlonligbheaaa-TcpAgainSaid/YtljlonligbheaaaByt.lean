/-
  Proved here: rows of bytes that may be written: made of a text, a byte stored, made a text again; a segment's bytes in plain words.
  Conditions: as each fact says.
-/
import Derived.Test.YtljlonligbheaaaRefCheck
import Derived.Laws.BytesArg
namespace Go.Proofs.Ytljlonligbheaaa
open Go.RowKit

/-- A row of bytes that may be written. -/
def Byt (w : World) (g : Nat) (l : List UInt8) : Prop := ∀ j (h : j < l.length), w.cell? ⟨g, j, none⟩ = some (.int .u8 (l[j].toNat : Int)) ∧ w.frozen? ⟨g, j, none⟩ = false
theorem bytes_new (s : ByteArray) (w : World) : ∃ g cap w', (convert 9 43 (.string s)).run Try.prog w = .ok (.slice (some ⟨g, 0, none⟩) s.size cap) w' ∧ (Byt w' g s.data.toList ∧ w.heap.size ≤ g) ∧ Below w.heap.size w w' := by
  refine ⟨_, _, _, run_bytes_of_string w 9 43 5 s Try.underlying9 Try.underlying43 Try.underlying5, ⟨fun j hj => ⟨?_, ?_⟩, Nat.le_refl _⟩, ?_⟩
  · rw [show w.heap.size = w.drew.heap.size from rfl, World.cell?_alloc_mark, bytesRow_at s _ j (by simpa using hj)]
    rfl
  · rw [show w.heap.size = w.drew.heap.size from rfl, World.frozen?_alloc_mark]
    have : j < (bytesRow s (grownCap w s.size 0 5)).size := by
      unfold bytesRow
      simp at hj ⊢
      omega
    simp
    omega
  · exact ((Below.refl w.heap.size w).drew).alloc (Nat.le_refl _) _
theorem Byt.set {w : World} {g : Nat} {l : List UInt8} (h : Byt w g l) (K : Nat) (hK : K < l.length) (y : UInt8) (v : Int) (hv : v = (y.toNat : Int)) : Byt (w.setCell ⟨g, K, none⟩ (.int .u8 v)) g (l.set K y) := by
  subst hv
  intro j hj
  have hj' : j < l.length := by simpa using hj
  refine ⟨?_, ?_⟩
  · rw [List.getElem_set]
    split
    · rename_i hkj
      subst hkj
      exact World.cell?_setCell_same w ⟨g, K, none⟩ _ (h K hK).1
    · rename_i hkj
      rw [World.cell?_setCell_other w _ _ _ (fun he => hkj (by injection he))]
      exact (h j hj').1
  · simp [(h j hj').2]
theorem Byt.str {w : World} {g : Nat} {l : List UInt8} (h : Byt w g l) (n cap : Nat) (hn : l.length = n) :
    (convert 43 9 (.slice (some ⟨g, 0, none⟩) n cap)).run Try.prog w = .ok (.string ⟨l.toArray⟩) w := by
  subst hn
  exact run_convert_bytes_back (P := Try.prog) w 43 9 5 ⟨g, 0, none⟩ cap l Try.underlying43 Try.underlying5 Try.underlying9 (fun j hj => by
    have e : (⟨g, 0, none⟩ : Addr).add j = ⟨g, j, none⟩ := by unfold Addr.add; split <;> simp_all
    rw [e]
    exact (h j hj).1)
theorem Byt.below {w w' : World} {g B : Nat} {l : List UInt8} (h : Byt w g l) (hb : Below B w w') (hg : g < B) : Byt w' g l := fun j hj =>
  ⟨(hb.cell (p := ⟨g, j, none⟩) hg).trans (h j hj).1, (hb.frozen (p := ⟨g, j, none⟩) hg).trans (h j hj).2⟩
/-- A number's two bytes. -/
def tw (x : Int) : ByteArray := strOfNums [x / 256, x % 256]
theorem tw_size (x : Int) : (tw x).size = 2 := rfl
def hiB (x : Int) : UInt8 := UInt8.ofNat (x / 256).toNat
def loB (x : Int) : UInt8 := UInt8.ofNat (x % 256).toNat
theorem tw_list (x : Int) : (tw x).data.toList = [hiB x, loB x] := rfl
theorem hiB_int {x : Int} (h0 : 0 ≤ x) (h1 : x ≤ 65535) : x / 256 = ((hiB x).toNat : Int) := by
  unfold hiB
  rw [u8_of_int (by omega) (by omega)]
  omega
theorem loB_int {x : Int} : x % 256 = ((loB x).toNat : Int) := by
  unfold loB
  rw [u8_of_int (by omega) (by omega)]
  omega
theorem cat_list (a b : ByteArray) : (a ++ b).data.toList = a.data.toList ++ b.data.toList := by rw [ByteArray.data_append, Array.toList_append]
/-- Why a segment has no bytes: a code, or 0. -/
def Sg.why (d : Sg) : Int := if tcode d.raw ≠ 0 then tcode d.raw else if d.fr < 0 ∨ 65535 < d.fr ∨ d.dst < 0 ∨ 65535 < d.dst then 13 else 0
/-- Its bytes, with x in the sum's place. -/
def Sg.form (d : Sg) (x : Int) : ByteArray := tw d.fr ++ tw d.dst ++ d.raw.extract 4 16 ++ tw x ++ d.raw.extract 18 d.raw.size
/-- The sum that its bytes bear. -/
def Sg.sumN (d : Sg) (ps : ByteArray) : Nat := sumL (ps ++ d.form 0).data.toList
def Sg.bytes (d : Sg) (ps : ByteArray) : ByteArray := d.form (d.sumN ps : Nat)
/-- The bytes, or none. -/
def Sg.out (d : Sg) (ps : ByteArray) : ByteArray := if d.why = 0 then d.bytes ps else ⟨#[]⟩
theorem why_zero {d : Sg} (h : d.why = 0) : tcode d.raw = 0 ∧ (0 ≤ d.fr ∧ d.fr ≤ 65535) ∧ (0 ≤ d.dst ∧ d.dst ≤ 65535) := by
  unfold Sg.why at h
  split at h
  · rename_i h1; exact absurd h h1
  · rename_i h1
    split at h
    · cases h
    · exact ⟨by simpa using h1, by omega, by omega⟩
theorem form_size (d : Sg) (x : Int) (h : 18 ≤ d.raw.size) : (d.form x).size = d.raw.size := by
  unfold Sg.form
  rw [dcat_len, dcat_len, dcat_len, dcat_len, tw_size, tw_size, tw_size]
  simp
  omega
theorem list18 (l : List UInt8) (h : 18 ≤ l.length) : ∃ a0 a1 a2 a3 a4 a5 a6 a7 a8 a9 a10 a11 a12 a13 a14 a15 a16 a17 t, l = a0 :: a1 :: a2 :: a3 :: a4 :: a5 :: a6 :: a7 :: a8 :: a9 :: a10 :: a11 :: a12 :: a13 :: a14 :: a15 :: a16 :: a17 :: t := by
  rcases l with _ | ⟨a0, l⟩
  · simp at h
  rcases l with _ | ⟨a1, l⟩
  · simp at h
  rcases l with _ | ⟨a2, l⟩
  · simp at h
  rcases l with _ | ⟨a3, l⟩
  · simp at h
  rcases l with _ | ⟨a4, l⟩
  · simp at h
  rcases l with _ | ⟨a5, l⟩
  · simp at h
  rcases l with _ | ⟨a6, l⟩
  · simp at h
  rcases l with _ | ⟨a7, l⟩
  · simp at h
  rcases l with _ | ⟨a8, l⟩
  · simp at h
  rcases l with _ | ⟨a9, l⟩
  · simp at h
  rcases l with _ | ⟨a10, l⟩
  · simp at h
  rcases l with _ | ⟨a11, l⟩
  · simp at h
  rcases l with _ | ⟨a12, l⟩
  · simp at h
  rcases l with _ | ⟨a13, l⟩
  · simp at h
  rcases l with _ | ⟨a14, l⟩
  · simp at h
  rcases l with _ | ⟨a15, l⟩
  · simp at h
  rcases l with _ | ⟨a16, l⟩
  · simp at h
  rcases l with _ | ⟨a17, l⟩
  · simp at h
  exact ⟨a0, a1, a2, a3, a4, a5, a6, a7, a8, a9, a10, a11, a12, a13, a14, a15, a16, a17, l, rfl⟩
theorem form_list (d : Sg) (x : Int) (h : 18 ≤ d.raw.size) : (d.form x).data.toList = (((((d.raw.data.toList.set 0 (hiB d.fr)).set 1 (loB d.fr)).set 2 (hiB d.dst)).set 3 (loB d.dst)).set 16 (hiB x)).set 17 (loB x) := by
  unfold Sg.form
  rw [cat_list, cat_list, cat_list, cat_list, ext_list, ext_end, tw_list, tw_list, tw_list]
  obtain ⟨a0, a1, a2, a3, a4, a5, a6, a7, a8, a9, a10, a11, a12, a13, a14, a15, a16, a17, t, e⟩ := list18 d.raw.data.toList (by rw [ba_size]; exact h)
  rw [e]
  rfl
theorem set_again (l : List UInt8) (a b c e : UInt8) : (((l.set 16 a).set 17 b).set 16 c).set 17 e = (l.set 16 c).set 17 e := by
  rw [List.set_comm b c (by decide), List.set_set, List.set_set]
theorem sumN_le (d : Sg) (ps : ByteArray) : d.sumN ps ≤ 65535 := sumL_le _
end Go.Proofs.Ytljlonligbheaaa
