/-
  Proved here: plain facts on segments and on the words of their heads.
  Conditions: as each fact says.
-/
import Derived.Test.YtljlonligbheaaaRefOf
import Derived.Test.YtljlonligbheaaaLow
import Derived.Test.YtljlonligbheaaaBlocks
namespace Go.Proofs.Ytljlonligbheaaa
open Go.RowKit

/-- A segment. -/
structure Sg where
  fr : Int
  dst : Int
  fl : Int
  raw : ByteArray
def Sg.vals (d : Sg) : List Value := [.int .i64 d.fr, .int .i64 d.dst, .int .i64 d.fl, .string d.raw]
def sg0 : Sg := ⟨0, 0, 0, ⟨#[]⟩⟩
/-- Byte i of a text. -/
def byN (s : ByteArray) (i : Nat) : Nat := (s.data.toList.getD i 0).toNat
theorem byN_lt (s : ByteArray) (i : Nat) : byN s i < 256 := UInt8.toNat_lt _
theorem byN_at (s : ByteArray) (i : Nat) (h : i < s.size) : byN s i = s[i].toNat := by
  unfold byN
  rw [List.getD_eq_getElem?_getD, List.getElem?_eq_getElem (by simpa using h)]
  rfl
/-- The code by which a text is refused, or 0. -/
def tcode (s : ByteArray) : Int := if s.size < 20 then 7 else if byN s 12 / 16 * 4 < 20 then 8 else if s.size < byN s 12 / 16 * 4 then 7 else 0
/-- The segment that a text is. -/
def tpkt (s : ByteArray) : Sg := ⟨wd s.data.toList 0, wd s.data.toList 1, (byN s 13 % 64 : Nat), s⟩
def tans (s : ByteArray) : Sg := if tcode s = 0 then tpkt s else sg0
theorem wd_le (l : List UInt8) (j : Nat) : wd l j ≤ 65535 := by
  unfold wd
  have := (l.getD (2 * j) 0).toNat_lt
  have := (l.getD (2 * j + 1) 0).toNat_lt
  omega
theorem wd_take (l : List UInt8) (n j : Nat) (h : 2 * j + 1 < n) : wd (l.take n) j = wd l j := by
  unfold wd
  have e : ∀ i, i < n → (l.take n).getD i 0 = l.getD i 0 := fun i hi => by
    rw [List.getD_eq_getElem?_getD, List.getD_eq_getElem?_getD, List.getElem?_take, if_pos hi]
  rw [e _ (by omega), e _ (by omega)]
theorem head_words (s : ByteArray) (h : 4 ≤ s.size) : wds (s.extract 0 4).data.toList = [wd s.data.toList 0, wd s.data.toList 1] := by
  have hl : (s.extract 0 4).data.toList.length = 4 := by rw [ba_size]; simp; omega
  unfold wds
  rw [hl, ext_list, List.drop_zero]
  show [wd _ 0, wd _ 1] = _
  rw [wd_take _ 4 0 (by omega), wd_take _ 4 1 (by omega)]
theorem Try.infoSg (d : Sg) : (Try.prog.info? 23).map (·.size) = some d.vals.length := by
  show _ = some 4
  kernel_rfl
theorem svals_one (d : Sg) : d.vals.toArray.all (·.oneCell') = true := by unfold Sg.vals; simp [Value.oneCell']
theorem tcode_ok {s : ByteArray} (h : tcode s = 0) : 20 ≤ s.size ∧ 20 ≤ byN s 12 / 16 * 4 ∧ byN s 12 / 16 * 4 ≤ s.size := by
  unfold tcode at h
  split at h
  · cases h
  · split at h
    · cases h
    · split at h
      · cases h
      · omega
end Go.Proofs.Ytljlonligbheaaa
