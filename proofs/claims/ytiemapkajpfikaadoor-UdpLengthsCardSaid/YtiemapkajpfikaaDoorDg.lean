/-
  Proved here: plain facts on datagrams and on the words of their heads.
  Conditions: as each fact says.
-/
import Derived.Test.YtiemapkajpfikaaDoorLow
import Derived.Test.YtiemapkajpfikaaDoorBlocks
namespace Go.Proofs.YtiemapkajpfikaaDoor
open Go.RowKit

/-- A datagram. -/
structure Dg where
  fr : Int
  dst : Int
  sm : Int
  data : ByteArray
def Dg.vals (d : Dg) : List Value := [.int .i64 d.fr, .int .i64 d.dst, .int .i64 d.sm, .string d.data]
def dg0 : Dg := ⟨0, 0, 0, ⟨#[]⟩⟩
/-- The code by which a text is refused, or 0. -/
def dcode (s : ByteArray) : Int := if s.size < 8 then 7 else if wd s.data.toList 2 ≠ s.size then 8 else 0
/-- The datagram that a text is. -/
def dpkt (s : ByteArray) : Dg := ⟨wd s.data.toList 0, wd s.data.toList 1, wd s.data.toList 3, s.extract 8 s.size⟩
def dans (s : ByteArray) : Dg := if dcode s = 0 then dpkt s else dg0
theorem wd_le (l : List UInt8) (j : Nat) : wd l j ≤ 65535 := by
  unfold wd
  have := (l.getD (2 * j) 0).toNat_lt
  have := (l.getD (2 * j + 1) 0).toNat_lt
  omega
theorem wd_take (l : List UInt8) (n j : Nat) (h : 2 * j + 1 < n) : wd (l.take n) j = wd l j := by
  unfold wd
  have e : ∀ i, i < n → (l.take n).getD i 0 = l.getD i 0 := fun i hi => by
    rw [List.getD_eq_getElem?_getD, List.getD_eq_getElem?_getD, List.getElem?_take, if_pos hi]
  rw [e _ (by omega), e _ (by omega)]
theorem head_words (s : ByteArray) (h : 8 ≤ s.size) : wds (s.extract 0 8).data.toList = [wd s.data.toList 0, wd s.data.toList 1, wd s.data.toList 2, wd s.data.toList 3] := by
  have hl : (s.extract 0 8).data.toList.length = 8 := by rw [ba_size]; simp; omega
  unfold wds
  rw [hl, ext_list, List.drop_zero]
  show [wd _ 0, wd _ 1, wd _ 2, wd _ 3] = _
  rw [wd_take _ 8 0 (by omega), wd_take _ 8 1 (by omega), wd_take _ 8 2 (by omega), wd_take _ 8 3 (by omega)]
theorem Tryd.infoDg (d : Dg) : (Tryd.prog.info? 24).map (·.size) = some d.vals.length := by
  show _ = some 4
  kernel_rfl
theorem dvals_one (d : Dg) : d.vals.toArray.all (·.oneCell') = true := by unfold Dg.vals; simp [Value.oneCell']
end Go.Proofs.YtiemapkajpfikaaDoor
