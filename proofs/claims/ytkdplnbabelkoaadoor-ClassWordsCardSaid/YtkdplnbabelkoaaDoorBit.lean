/-
  Proved here: what the document's bit answers.
  Conditions: a slice over bytes that lie in memory.
-/
import Derived.Test.YtkdplnbabelkoaaDoorB8
namespace Go.Proofs.YtkdplnbabelkoaaDoor
open Go.RowKit

/-- Bytes as cells. -/
def bu (l : List UInt8) : List Value := l.map fun c => .int .u8 (c.toNat : Int)
theorem bu_len (l : List UInt8) : (bu l).length = l.length := by simp [bu]
theorem bu_at (l : List UInt8) (i : Nat) (h : i < l.length) : (bu l)[i]? = some (.int .u8 ((l.getD i 0).toNat : Int)) := by
  unfold bu
  rw [List.getElem?_map, List.getElem?_eq_getElem h, List.getD_eq_getElem?_getD, List.getElem?_eq_getElem h]
  rfl
/-- An address's bit. -/
def bitv (l : List UInt8) (i : Nat) : Bool := (l.getD (i / 8) 0).toNat / 2 ^ (7 - i % 8) % 2 == 1
/-- Bytes that lie at a block's beginning. -/
def Lies (b : Nat) (l : List UInt8) (w : World) : Prop := ∀ i, i < l.length → w.cell? ⟨b, i, none⟩ = some (.int .u8 ((l.getD i 0).toNat : Int))
theorem Lies.below {b : Nat} {l : List UInt8} {w w' : World} (h : Lies b l w) (hb : Below w.heap.size w w') : Lies b l w' := fun i hi => (hb.cell (World.block_lt_of_cell? w _ (h i hi))).trans (h i hi)
theorem bit_eq (x n : Nat) : ((x : Int) / (n : Int) % 2 == 1) = (x / n % 2 == 1) := by
  rw [Bool.eq_iff_iff]
  simp only [beq_iff_eq]
  omega
theorem bit_eq1 (x : Nat) : ((x : Int) % 2 == 1) = (x / 2 ^ (7 - 7) % 2 == 1) := by
  rw [Bool.eq_iff_iff]
  simp only [beq_iff_eq, Nat.sub_self, Nat.pow_zero, Nat.div_one]
  omega
set_option maxRecDepth 100000 in
theorem rbit_any (b : Nat) (l : List UInt8) (i cap : Nat) (w : World) (hb : Lies b l w) (hi : i < 8 * l.length) (hl : l.length ≤ 16) :
    Calls Tryd.prog 67 #[.slice (some ⟨b, 0, none⟩) l.length cap, .int .i64 (i : Nat)] w fun e w' => e = .returned (.bool (bitv l i)) ∧ w' = w := by
  have hd : i / 8 < l.length := by omega
  have c := hb (i / 8) hd
  have kd : ((i : Nat) : Int).tdiv 8 = ((i / 8 : Nat) : Int) := by rw [Int.tdiv_eq_ediv_of_nonneg (by omega)]; omega
  have km : ((i : Nat) : Int).tmod 8 = ((i % 8 : Nat) : Int) := by rw [Int.tmod_eq_emod_of_nonneg (by omega)]; omega
  have HB : Hid (bitv l i = ((l.getD (i / 8) 0).toNat / 2 ^ (7 - i % 8) % 2 == 1)) := Lib.hid rfl
  have id : ((i / 8 : Nat) : Int) < (l.length : Int) := by omega
  have hm : i % 8 < 8 := Nat.mod_lt _ (by omega)
  generalize bitv l i = R at *
  generalize l.getD (i / 8) 0 = x at *
  generalize i / 8 = q at *
  generalize i % 8 = m at *
  have hx := x.toNat_lt
  have hm' : m = 0 ∨ m = 1 ∨ m = 2 ∨ m = 3 ∨ m = 4 ∨ m = 5 ∨ m = 6 ∨ m = 7 := by omega
  go_enter Tryd.func67, Tryd.ntmps67
  rcases hm' with rfl | rfl | rfl | rfl | rfl | rfl | rfl | rfl
  · go_wp2_with fail
    go_ret
    exact ⟨by rw [HB.out]; exact congrArg (fun t => Ending.returned (.bool t)) (bit_eq x.toNat 128), rfl⟩
  · go_wp2_with fail
    go_ret
    exact ⟨by rw [HB.out]; exact congrArg (fun t => Ending.returned (.bool t)) (bit_eq x.toNat 64), rfl⟩
  · go_wp2_with fail
    go_ret
    exact ⟨by rw [HB.out]; exact congrArg (fun t => Ending.returned (.bool t)) (bit_eq x.toNat 32), rfl⟩
  · go_wp2_with fail
    go_ret
    exact ⟨by rw [HB.out]; exact congrArg (fun t => Ending.returned (.bool t)) (bit_eq x.toNat 16), rfl⟩
  · go_wp2_with fail
    go_ret
    exact ⟨by rw [HB.out]; exact congrArg (fun t => Ending.returned (.bool t)) (bit_eq x.toNat 8), rfl⟩
  · go_wp2_with fail
    go_ret
    exact ⟨by rw [HB.out]; exact congrArg (fun t => Ending.returned (.bool t)) (bit_eq x.toNat 4), rfl⟩
  · go_wp2_with fail
    go_ret
    exact ⟨by rw [HB.out]; exact congrArg (fun t => Ending.returned (.bool t)) (bit_eq x.toNat 2), rfl⟩
  · go_wp2_with fail
    go_ret
    exact ⟨by rw [HB.out]; exact congrArg (fun t => Ending.returned (.bool t)) (bit_eq1 x.toNat), rfl⟩
end Go.Proofs.YtkdplnbabelkoaaDoor
