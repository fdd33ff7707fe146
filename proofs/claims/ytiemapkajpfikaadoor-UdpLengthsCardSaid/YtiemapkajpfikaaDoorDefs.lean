/-
  Proved here: a datagram's bytes and codes, in plain words.
  Conditions: as each fact says.
-/
import Derived.Test.YtiemapkajpfikaaDoorDg
namespace Go.Proofs.YtiemapkajpfikaaDoor
open Go.RowKit

/-- The code of a text and its pseudo head. -/
def ccode (s ps : ByteArray) : Int := if dcode s ≠ 0 then dcode s else if (dans s).sm = 0 then 4 else if sumL (ps ++ s).data.toList ≠ 0 then 9 else 0
theorem dcat_len (a b : ByteArray) : (a ++ b).size = a.size + b.size := ByteArray.size_append
/-- A number's two bytes. -/
def tw (x : Int) : ByteArray := strOfNums [x / 256, x % 256]
theorem tw_size (x : Int) : (tw x).size = 2 := rfl
/-- Why a datagram has no bytes: a code, or 0. -/
def Dg.why (d : Dg) : Int := if d.fr < 0 ∨ 65535 < d.fr ∨ d.dst < 0 ∨ 65535 < d.dst then 13 else if 65527 < d.data.size then 3 else 0
def Dg.ahead (d : Dg) : ByteArray := tw d.fr ++ tw d.dst ++ tw (8 + (d.data.size : Int))
/-- The sum that its bytes bear. -/
def Dg.sumN (d : Dg) (ps : ByteArray) : Nat := sumL (ps ++ d.ahead ++ tw 0 ++ d.data).data.toList
def Dg.sum1 (d : Dg) (ps : ByteArray) : Int := if d.sumN ps = 0 then 65535 else (d.sumN ps : Nat)
def Dg.bytes (d : Dg) (ps : ByteArray) : ByteArray := d.ahead ++ tw (d.sum1 ps) ++ d.data
/-- The bytes, or none. -/
def Dg.out (d : Dg) (ps : ByteArray) : ByteArray := if d.why = 0 then d.bytes ps else ⟨#[]⟩
theorem why_zero {d : Dg} (h : d.why = 0) : (0 ≤ d.fr ∧ d.fr ≤ 65535) ∧ (0 ≤ d.dst ∧ d.dst ≤ 65535) ∧ d.data.size ≤ 65527 := by
  unfold Dg.why at h
  split at h
  · cases h
  · split at h
    · cases h
    · omega
theorem ahead_size (d : Dg) : d.ahead.size = 6 := by
  unfold Dg.ahead
  rw [dcat_len, dcat_len, tw_size, tw_size, tw_size]
theorem sum1_le (d : Dg) (ps : ByteArray) : 0 ≤ d.sum1 ps ∧ d.sum1 ps ≤ 65535 := by
  unfold Dg.sum1
  have : d.sumN ps ≤ 65535 := sumL_le _
  split <;> omega
theorem cell_kept {w w' : World} {p : Addr} {v : Value} (h : w.cell? p = some v) (hb : Below w.heap.size w w') : w'.cell? p = some v := (hb.cell (World.block_lt_of_cell? w p h)).trans h
end Go.Proofs.YtiemapkajpfikaaDoor
