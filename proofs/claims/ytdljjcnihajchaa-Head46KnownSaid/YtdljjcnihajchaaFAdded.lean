/-
  Proved here: what sum.added, sum.total, sum.Of and sum.Right answer.
  Conditions: the pieces' cells hold texts, at most 2^40 bytes in all.
-/
import Derived.Test.YtdljjcnihajchaaProg
import Derived.Test.YtdljjcnihajchaaFPlain
import Derived.WalkKit
import Derived.Handy
import Derived.Lib.Hide
import Derived.BigQuiet
import Derived.Deep.QuietTactic
import Derived.WalkSpells
import Derived.OneCell
import Derived.Below
import Derived.Outline
namespace Go.Proofs.Ytdljjcnihajchaa.P4
open Go.RowKit

theorem take_snoc (s : ByteArray) (k : Nat) (h : k < s.size) : s.data.toList.take (k + 1) = s.data.toList.take k ++ [s[k]] := by
  rw [List.take_succ_eq_append_getElem (by simpa using h)]; rfl

theorem and_low (x : Int) (k : Nat) (hk : k ≤ 32) (m : Int) (hm : m = ((2 ^ k - 1 : Nat) : Int)) : bits .and .i64 x m = x % ((2 ^ k : Nat) : Int) := by
  subst hm
  have hp : 2 ^ k ≤ 2 ^ 32 := Nat.pow_le_pow_right (by omega) hk
  have hp0 : 0 < 2 ^ k := Nat.pow_pos (by omega)
  have hd : (2 ^ k : Nat) ∣ 2 ^ 64 := Nat.pow_dvd_pow 2 (by omega)
  have h2 : (BitVec.ofInt 64 ((2 ^ k - 1 : Nat) : Int)).toNat = 2 ^ k - 1 := by
    rw [BitVec.ofInt_natCast, BitVec.toNat_ofNat]; exact Nat.mod_eq_of_lt (by omega)
  show IntKind.i64.wrap ((BitVec.ofInt 64 x &&& BitVec.ofInt 64 ((2 ^ k - 1 : Nat) : Int)).toNat : Int) = _
  rw [BitVec.toNat_and, h2, Nat.and_two_pow_sub_one_eq_mod, BitVec.toNat_ofInt]
  have e : (((x % ((2 ^ 64 : Nat) : Int)).toNat % 2 ^ k : Nat) : Int) = x % ((2 ^ k : Nat) : Int) := by
    rw [Int.natCast_emod, Int.toNat_of_nonneg (Int.emod_nonneg _ (by decide))]
    exact Int.emod_emod_of_dvd _ (Int.natCast_dvd_natCast.2 hd)
  rw [e, IntKind.wrap_i64]
  have h3 : 0 ≤ x % ((2 ^ k : Nat) : Int) := Int.emod_nonneg _ (by omega)
  have h4 : x % ((2 ^ k : Nat) : Int) < ((2 ^ k : Nat) : Int) := Int.emod_lt_of_pos _ (by omega)
  omega
theorem and_16 (x : Int) : bits .and .i64 x 65535 = x % 65536 := and_low x 16 (by decide) _ (by decide)
theorem and_8 (x : Int) : bits .and .i64 x 255 = x % 256 := and_low x 8 (by decide) _ (by decide)
theorem and_32 (x : Int) : bits .and .i64 x 4294967295 = x % 4294967296 := and_low x 32 (by decide) _ (by decide)

/-- The cells of a slice of texts. -/
def Pcs (w : World) (ao : Option Addr) (len : Nat) (S : Nat → ByteArray) : Prop :=
  ∀ i, i < len → ∃ b o, ao = some ⟨b, o, none⟩ ∧ w.cell? ⟨b, o + i, none⟩ = some (.string (S i))

set_option maxRecDepth 100000 in
set_option maxHeartbeats 1000000 in
theorem added_any (ao : Option Addr) (len cap : Nat) (S : Nat → ByteArray) (w : World) (hl : len ≤ 1099511627776) (hP : Pcs w ao len S) (hz : (catL S len).length ≤ 1099511627776) :
    Calls Try.prog 54 #[.slice ao len cap] w fun e w' => e = .returned (.int .i64 (acc true (catL S len) : Nat)) ∧ w = w' := by
  have HP := Lib.hid hP
  have HZ := Lib.hid hz
  clear hP hz
  go_enter Try.func54, Try.ntmps54
  go_wp2_with fail
  go_loop [3, 4, 10] (fun n h i => ∃ k : Nat, k ≤ len ∧ i = .int .i64 k ∧ n = .int .i64 (acc true (catL S k) : Nat) ∧ h = .bool (evn (catL S k).length)) (fun _ _ i => len - (intOf i).toNat)
  case atStart => exact ⟨0, Nat.zero_le _, rfl, rfl, rfl⟩
  case round =>
    obtain ⟨k, hk, rfl, rfl, rfl⟩ := hrel
    by_cases hlt : k < len
    · obtain ⟨b, o, rfl, hc⟩ := HP.out k hlt
      have hsz : (catL S k).length + (S k).size ≤ 1099511627776 := by
        have h1 := catL_le S (show k + 1 ≤ len from hlt)
        have h2 := HZ.out
        rw [show (catL S (k + 1)).length = (catL S k).length + (S k).size by show (catL S k ++ (S k).data.toList).length = _; simp] at h1
        omega
      go_wp2_with fail
      go_loop [3, 4, 16] (fun n h i => ∃ j : Nat, j ≤ (S k).size ∧ i = .int .i64 j ∧ n = .int .i64 (acc true (catL S k ++ (S k).data.toList.take j) : Nat) ∧ h = .bool (evn (catL S k ++ (S k).data.toList.take j).length)) (fun _ _ i => (S k).size - (intOf i).toNat)
      case atStart => exact ⟨0, Nat.zero_le _, rfl, by simp, by simp⟩
      case round =>
        obtain ⟨j, hj, rfl, rfl, rfl⟩ := hrel
        have hL : (catL S k ++ (S k).data.toList.take j).length = (catL S k).length + j := by simp; omega
        have ha := acc_le (catL S k ++ (S k).data.toList.take j) true
        have HL := Lib.hid hL
        have hb1 : acc true (catL S k ++ (S k).data.toList.take j) ≤ 65280 * 1099511627776 := by omega
        clear ha hL
        by_cases hlt2 : j < (S k).size
        · have h8 := (S k)[j].toNat_lt
          have HT := Lib.hid (take_snoc (S k) j hlt2)
          have HS : Hid (evn ((catL S k ++ (S k).data.toList.take (j + 1)).length) = !evn (catL S k ++ (S k).data.toList.take j).length) := Lib.hid (by rw [HT.out, ← List.append_assoc, List.length_append, List.length_singleton, evn_succ])
          cases hb : evn (catL S k ++ (S k).data.toList.take j).length
          · have HA := Lib.hid (acc_low (S k)[j] hb)
            rw [hb] at HS
            clear hb
            go_wp2_with fail
            go_round
            case rel => exact ⟨j + 1, by omega, by go_num, by rw [HT.out, ← List.append_assoc, HA.out]; go_num, by rw [HS.out]; rfl⟩
            case measure => simp [intOf]; omega
          · have HA := Lib.hid (acc_high (S k)[j] hb)
            rw [hb] at HS
            clear hb
            go_wp2_with fail
            go_round
            case rel => exact ⟨j + 1, by omega, by go_num, by rw [HT.out, ← List.append_assoc, HA.out]; go_num, by rw [HS.out]; rfl⟩
            case measure => simp [intOf]; omega
        · go_wp2_with fail
          have hjj : (S k).data.toList.take j = (S k).data.toList := List.take_of_length_le (by simp; omega)
          go_round
          case rel => exact ⟨k + 1, by omega, by go_num, by rw [hjj]; rfl, by rw [hjj]; rfl⟩
          case measure => simp [intOf]; omega
    · go_wp2_with fail
      go_ret
      obtain rfl : k = len := by omega
      exact ⟨rfl, rfl⟩

set_option maxRecDepth 100000 in
theorem total_any (n : Nat) (w : World) (hn : n < 4611686018427387904) :
    Calls Try.prog 53 #[.int .i64 n] w fun e w' => e = .returned (.int .i64 (fold n : Nat)) ∧ w = w' := by
  go_enter Try.func53, Try.ntmps53
  go_wp2_with fail
  go_loop [0] (fun t => ∃ m : Nat, t = .int .i64 m ∧ m < 4611686018427387904 ∧ Hid (fold m = fold n)) (fun t => (intOf t).toNat)
  case atStart => exact ⟨n, rfl, hn, Lib.hid rfl⟩
  case round =>
    obtain ⟨m, rfl, hm, hf⟩ := hrel
    by_cases hlt : 65535 < m
    · have HF := Lib.hid (fold_step hlt)
      have ha := and_16 m
      go_wp2_with fail
      go_round
      case rel => exact ⟨m / 65536 + m % 65536, by go_num, by omega, Lib.hid (HF.out.trans hf.out)⟩
      case measure => simp [intOf]; omega
    · go_wp2_with fail
      go_ret
      have e : fold n = m := by rw [← hf.out, fold_small (by omega)]
      rw [e]
      exact ⟨rfl, rfl⟩
theorem total_at (x : Int) (n : Nat) (w : World) (hx : x = n) (hn : n < 4611686018427387904) :
    Calls Try.prog 53 #[.int .i64 x] w fun e w' => e = .returned (.int .i64 (fold n : Nat)) ∧ w = w' := by
  subst hx
  exact total_any n w hn
theorem of_any (ao : Option Addr) (len cap : Nat) (S : Nat → ByteArray) (w : World) (hl : len ≤ 1099511627776) (hP : Pcs w ao len S) (hz : (catL S len).length ≤ 1099511627776) :
    Calls Try.prog 46 #[.slice ao len cap] w fun e w' => e = .returned (.int .i64 (sumL (catL S len) : Nat)) ∧ w = w' := by
  have ha := acc_le (catL S len) true
  have hf := fold_le (acc true (catL S len))
  have HS := Lib.hid (show ((sumL (catL S len) : Nat) : Int) = 65535 - (fold (acc true (catL S len)) : Nat) by unfold sumL; omega)
  have HA := Lib.hid (added_any ao len cap S w hl hP hz)
  have HT := Lib.hid (total_any (acc true (catL S len)) w (by omega))
  clear hP hl
  go_enter Try.func46, Try.ntmps46
  go_wp2_with fail
  refine HA.out.mono ?_
  rintro e w' ⟨rfl, rfl⟩
  go_wp2_with fail
  refine HT.out.mono ?_
  rintro e w' ⟨rfl, rfl⟩
  go_wp2_with fail
  go_ret
  rw [HS.out]
  exact ⟨rfl, rfl⟩
/-- Is a text right? -/
def rightB (l : List UInt8) : Bool := ((sumL l : Nat) : Int) == 0
theorem rightB_yes {l : List UInt8} (h : fold (acc true l) = 65535) : rightB l = true := by
  have h1 := (sumL_zero l).2 h
  unfold rightB
  rw [h1]; rfl
theorem rightB_iff (l : List UInt8) : rightB l = true ↔ sumL l = 0 := by
  unfold rightB
  simp
theorem right_any (ao : Option Addr) (len cap : Nat) (S : Nat → ByteArray) (w : World) (hl : len ≤ 1099511627776) (hP : Pcs w ao len S) (hz : (catL S len).length ≤ 1099511627776) :
    Calls Try.prog 30 #[.slice ao len cap] w fun e w' => e = .returned (.bool (rightB (catL S len))) ∧ w = w' := by
  have HA := Lib.hid (of_any ao len cap S w hl hP hz)
  clear hP hl hz
  unfold rightB
  generalize sumL (catL S len) = n at HA
  go_enter Try.func30, Try.ntmps30
  go_wp2_with fail
  refine HA.out.mono ?_
  rintro e w' ⟨rfl, rfl⟩
  go_wp2_with fail
  go_ret
  exact ⟨rfl, rfl⟩

/-! Texts given one by one. -/
def nth (l : List ByteArray) (i : Nat) : ByteArray := l.getD i ⟨#[]⟩
def allOf (l : List ByteArray) : List UInt8 := l.flatMap (·.data.toList)
theorem catL_nth (l : List ByteArray) : ∀ k, k ≤ l.length → catL (nth l) k = allOf (l.take k)
  | 0, _ => by simp [catL, allOf]
  | k + 1, h => by
    have hk : k < l.length := h
    show catL (nth l) k ++ (nth l k).data.toList = _
    rw [catL_nth l k (by omega), List.take_succ_eq_append_getElem hk]
    unfold allOf nth
    rw [List.flatMap_append, List.getD_eq_getElem?_getD, List.getElem?_eq_getElem hk]
    simp
theorem pcs_new (w : World) (l : List ByteArray) : Pcs (w.alloc (.cells (l.map Value.string).toArray 9)) (some ⟨w.heap.size, 0, none⟩) l.length (nth l) := by
  intro i hi
  refine ⟨_, _, rfl, ?_⟩
  rw [World.cell?_alloc_new]
  unfold nth
  rw [List.getD_eq_getElem?_getD, List.getElem?_eq_getElem hi]
  simp [hi]
theorem of_new (w : World) (l : List ByteArray) (hl : l.length ≤ 1000) (hz : (allOf l).length ≤ 1099511627776) :
    Calls Try.prog 46 #[.slice (some ⟨w.heap.size, 0, none⟩) l.length l.length] (w.alloc (.cells (l.map Value.string).toArray 9)) fun e w' => e = .returned (.int .i64 (sumL (allOf l) : Nat)) ∧ Below w.heap.size w w' := by
  have e : catL (nth l) l.length = allOf l := by rw [catL_nth l _ (Nat.le_refl _), List.take_length]
  refine (of_any _ _ _ (nth l) _ (by omega) (pcs_new w l) (by rw [e]; exact hz)).mono ?_
  rintro _ _ ⟨rfl, rfl⟩
  rw [e]
  exact ⟨rfl, (Below.refl _ _).alloc (Nat.le_refl _) _⟩
theorem right_new (w : World) (l : List ByteArray) (hl : l.length ≤ 1000) (hz : (allOf l).length ≤ 1099511627776) :
    Calls Try.prog 30 #[.slice (some ⟨w.heap.size, 0, none⟩) l.length l.length] (w.alloc (.cells (l.map Value.string).toArray 9)) fun e w' => e = .returned (.bool (rightB (allOf l))) ∧ Below w.heap.size w w' := by
  have e : catL (nth l) l.length = allOf l := by rw [catL_nth l _ (Nat.le_refl _), List.take_length]
  refine (right_any _ _ _ (nth l) _ (by omega) (pcs_new w l) (by rw [e]; exact hz)).mono ?_
  rintro _ _ ⟨rfl, rfl⟩
  rw [e]
  exact ⟨rfl, (Below.refl _ _).alloc (Nat.le_refl _) _⟩
theorem added_new (w : World) (l : List ByteArray) (hl : l.length ≤ 1000) (hz : (allOf l).length ≤ 1099511627776) :
    Calls Try.prog 54 #[.slice (some ⟨w.heap.size, 0, none⟩) l.length l.length] (w.alloc (.cells (l.map Value.string).toArray 9)) fun e w' => e = .returned (.int .i64 (acc true (allOf l) : Nat)) ∧ Below w.heap.size w w' := by
  have e : catL (nth l) l.length = allOf l := by rw [catL_nth l _ (Nat.le_refl _), List.take_length]
  refine (added_any _ _ _ (nth l) _ (by omega) (pcs_new w l) (by rw [e]; exact hz)).mono ?_
  rintro _ _ ⟨rfl, rfl⟩
  rw [e]
  exact ⟨rfl, (Below.refl _ _).alloc (Nat.le_refl _) _⟩
section
variable (w : World) (a b c d f : ByteArray)
theorem len_all1 : (allOf [a]).length = a.size := by simp [allOf]
theorem len_all2 : (allOf [a, b]).length = a.size + b.size := by simp [allOf]
theorem len_all4 : (allOf [a, b, c, d]).length = a.size + (b.size + (c.size + d.size)) := by simp [allOf]
theorem len_all5 : (allOf [a, b, c, d, f]).length = a.size + (b.size + (c.size + (d.size + f.size))) := by simp [allOf]
theorem added1 (h : a.size ≤ 1099511627776) :
    Calls Try.prog 54 #[.slice (some ⟨w.heap.size, 0, none⟩) 1 1] (w.alloc (.cells #[.string a] 9)) fun e w' => e = .returned (.int .i64 (acc true a.data.toList : Nat)) ∧ Below w.heap.size w w' := by
  have := added_new w [a] (by simp) (by rw [len_all1]; omega)
  rwa [show allOf [a] = a.data.toList by simp [allOf]] at this
theorem of1 (h : a.size ≤ 1099511627776) :
    Calls Try.prog 46 #[.slice (some ⟨w.heap.size, 0, none⟩) 1 1] (w.alloc (.cells #[.string a] 9)) fun e w' => e = .returned (.int .i64 (sumL a.data.toList : Nat)) ∧ Below w.heap.size w w' := by
  have := of_new w [a] (by simp) (by rw [len_all1]; omega)
  rwa [show allOf [a] = a.data.toList by simp [allOf]] at this
theorem of2 (h : a.size + b.size ≤ 1099511627776) :
    Calls Try.prog 46 #[.slice (some ⟨w.heap.size, 0, none⟩) 2 2] (w.alloc (.cells #[.string a, .string b] 9)) fun e w' => e = .returned (.int .i64 (sumL (allOf [a, b]) : Nat)) ∧ Below w.heap.size w w' :=
  of_new w [a, b] (by simp) (by rw [len_all2]; omega)
theorem of4 (h : a.size + (b.size + (c.size + d.size)) ≤ 1099511627776) :
    Calls Try.prog 46 #[.slice (some ⟨w.heap.size, 0, none⟩) 4 4] (w.alloc (.cells #[.string a, .string b, .string c, .string d] 9)) fun e w' => e = .returned (.int .i64 (sumL (allOf [a, b, c, d]) : Nat)) ∧ Below w.heap.size w w' :=
  of_new w [a, b, c, d] (by simp) (by rw [len_all4]; omega)
theorem right1 (h : a.size ≤ 1099511627776) :
    Calls Try.prog 30 #[.slice (some ⟨w.heap.size, 0, none⟩) 1 1] (w.alloc (.cells #[.string a] 9)) fun e w' => e = .returned (.bool (rightB a.data.toList)) ∧ Below w.heap.size w w' := by
  have := right_new w [a] (by simp) (by rw [len_all1]; omega)
  rwa [show allOf [a] = a.data.toList by simp [allOf]] at this
theorem right2 (h : a.size + b.size ≤ 1099511627776) :
    Calls Try.prog 30 #[.slice (some ⟨w.heap.size, 0, none⟩) 2 2] (w.alloc (.cells #[.string a, .string b] 9)) fun e w' => e = .returned (.bool (rightB (allOf [a, b]))) ∧ Below w.heap.size w w' :=
  right_new w [a, b] (by simp) (by rw [len_all2]; omega)
theorem right5 (h : a.size + (b.size + (c.size + (d.size + f.size))) ≤ 1099511627776) :
    Calls Try.prog 30 #[.slice (some ⟨w.heap.size, 0, none⟩) 5 5] (w.alloc (.cells #[.string a, .string b, .string c, .string d, .string f] 9)) fun e w' => e = .returned (.bool (rightB (allOf [a, b, c, d, f]))) ∧ Below w.heap.size w w' :=
  right_new w [a, b, c, d, f] (by simp) (by rw [len_all5]; omega)
end

end Go.Proofs.Ytdljjcnihajchaa.P4
