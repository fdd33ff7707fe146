/-
  Proved here: plain facts on messages and on the words of their heads.
  Conditions: as each fact says.
-/
import Derived.Test.YtmfolkbmkfifcaaRefOf
import Derived.Test.YtmfolkbmkfifcaaLow
import Derived.Test.YtmfolkbmkfifcaaBlocks
namespace Go.Proofs.Ytmfolkbmkfifcaa
open Go.RowKit

/-- A message. -/
structure Ms where
  kd : Int
  cd : Int
  rs : Nat
  da : ByteArray
def Ms.vals (d : Ms) : List Value := [.int .i64 d.kd, .int .i64 d.cd, .int .u32 (d.rs : Nat), .string d.da]
def ms0 : Ms := ⟨0, 0, 0, ⟨#[]⟩⟩
/-- Byte i of a text. -/
def byN (s : ByteArray) (i : Nat) : Nat := (s.data.toList.getD i 0).toNat
theorem byN_lt (s : ByteArray) (i : Nat) : byN s i < 256 := UInt8.toNat_lt _
theorem byN_at (s : ByteArray) (i : Nat) (h : i < s.size) : byN s i = s[i].toNat := by
  unfold byN
  rw [List.getD_eq_getElem?_getD, List.getElem?_eq_getElem (by simpa using h)]
  rfl
/-- The code by which a text is refused, or 0. -/
def mcode (ps s : ByteArray) : Int := if s.size < 8 then 7 else if sumL (ps ++ s).data.toList = 0 then 0 else 9
/-- The message that a text is. -/
def mpkt (s : ByteArray) : Ms := ⟨(wd s.data.toList 0 / 256 : Nat), (wd s.data.toList 0 % 256 : Nat), wd s.data.toList 2 * 65536 + wd s.data.toList 3, s.extract 8 s.size⟩
def mans (ps s : ByteArray) : Ms := if mcode ps s = 0 then mpkt s else ms0
theorem wd_le (l : List UInt8) (j : Nat) : wd l j ≤ 65535 := by
  unfold wd
  have := (l.getD (2 * j) 0).toNat_lt
  have := (l.getD (2 * j + 1) 0).toNat_lt
  omega
theorem wd_take (l : List UInt8) (n j : Nat) (h : 2 * j + 1 < n) : wd (l.take n) j = wd l j := by
  unfold wd
  have e : ∀ i, i < n → (l.take n).getD i 0 = l.getD i 0 := fun i hi => by
    rw [List.getD_eq_getElem?_getD, List.getD_eq_getElem?_getD, List.getElem?_take, if_pos hi]
  rw [e _ (by omega), e _ (by omega)]
theorem head_words (s : ByteArray) (h : 8 ≤ s.size) : wds (s.extract 0 8).data.toList = [wd s.data.toList 0, wd s.data.toList 1, wd s.data.toList 2, wd s.data.toList 3] := by
  have hl : (s.extract 0 8).data.toList.length = 8 := by rw [ba_size]; simp; omega
  unfold wds
  rw [hl, ext_list, List.drop_zero]
  show [wd _ 0, wd _ 1, wd _ 2, wd _ 3] = _
  rw [wd_take _ 8 0 (by omega), wd_take _ 8 1 (by omega), wd_take _ 8 2 (by omega), wd_take _ 8 3 (by omega)]
theorem dcat_len (a b : ByteArray) : (a ++ b).size = a.size + b.size := ByteArray.size_append
theorem mpkt_rs (s : ByteArray) : (mpkt s).rs < 4294967296 := by
  have := wd_le s.data.toList 2
  have := wd_le s.data.toList 3
  show wd s.data.toList 2 * 65536 + wd s.data.toList 3 < _
  omega
theorem mans_rs (ps s : ByteArray) : (mans ps s).rs < 4294967296 := by
  unfold mans
  split
  · exact mpkt_rs s
  · decide
theorem Try.infoMs (d : Ms) : (Try.prog.info? 26).map (·.size) = some d.vals.length := by
  show _ = some 4
  kernel_rfl
theorem mvals_one (d : Ms) : d.vals.toArray.all (·.oneCell') = true := by unfold Ms.vals; simp [Value.oneCell']
end Go.Proofs.Ytmfolkbmkfifcaa
