/-
  Proved here: what the document's Holds answers.
  Conditions: slices over bytes that lie in memory, of the same length.
-/
import Derived.Test.YtkdplnbabelkoaaDoorBit
namespace Go.Proofs.YtkdplnbabelkoaaDoor
open Go.RowKit

/-- Whether bit i of two addresses is as a prefix of n bits asks. -/
def bitOk (a x : List UInt8) (n : Int) (i : Nat) : Bool := if n ≤ (i : Int) then !(bitv a i) else (bitv a i == bitv x i)
/-- Whether the first n bits of one, all others noughts, are the other one's. -/
def holdsv (a x : List UInt8) (n : Int) : Bool := decide (0 ≤ n) && (decide (n ≤ 8 * (a.length : Int)) && (List.range (8 * a.length)).all (bitOk a x n))
theorem range_more (p : Nat → Bool) (k n : Nat) (h : (List.range k).all p = false) (hk : k ≤ n) : (List.range n).all p = false := by
  rw [List.all_eq_false] at *
  obtain ⟨x, hx, h0⟩ := h
  exact ⟨x, by rw [List.mem_range] at *; omega, h0⟩
theorem range_next (p : Nat → Bool) (k : Nat) : (List.range (k + 1)).all p = ((List.range k).all p && p k) := by rw [List.range_succ, List.all_append]; simp
set_option maxRecDepth 100000 in
set_option maxHeartbeats 1000000 in
theorem rholds_any (b1 b2 : Nat) (a x : List UInt8) (n : Int) (c1 c2 : Nat) (w : World) (ha : Lies b1 a w) (hx : Lies b2 x w) (hl : a.length ≤ 16) (hlx : x.length = a.length) :
    Calls Tryd.prog 55 #[.slice (some ⟨b1, 0, none⟩) a.length c1, .slice (some ⟨b2, 0, none⟩) a.length c2, .int .i64 n] w fun e w' => e = .returned (.bool (holdsv a x n)) ∧ w' = w := by
  have CA := Lib.hid (fun i (h : i < 8 * a.length) => rbit_any b1 a i c1 w ha h hl)
  have CX := Lib.hid (fun i (h : i < 8 * a.length) => rbit_any b2 x i c2 w hx (by omega) (by omega))
  rw [hlx] at CX
  have HR : Hid (holdsv a x n = (decide (0 ≤ n) && (decide (n ≤ 8 * (a.length : Int)) && (List.range (8 * a.length)).all (bitOk a x n)))) := Lib.hid rfl
  generalize holdsv a x n = R at *
  have HM := Lib.hid (fun k => range_more (bitOk a x n) k (8 * a.length))
  have HN := Lib.hid (fun k => range_next (bitOk a x n) k)
  have HBit : Hid (∀ k, bitOk a x n k = if n ≤ (k : Int) then !(bitv a k) else (bitv a k == bitv x k)) := Lib.hid (fun _ => rfl)
  generalize hln : a.length = m at *
  clear ha hx hln hlx
  go_enter Tryd.func55, Tryd.ntmps55
  have kw : IntKind.i64.wrap (8 * (m : Int)) = 8 * (m : Int) := IntWalk.i64_in _ (by omega)
  by_cases h0 : n < 0
  · have d0 := decide_eq_true h0
    have HX : Hid (R = false) := Lib.hid (by rw [HR.out, decide_eq_false (by omega)]; rfl)
    clear HR h0
    go_wp2_with fail
    go_ret
    exact ⟨by rw [HX.out]; rfl, rfl⟩
  have d0 := decide_eq_false h0
  by_cases h8 : 8 * (m : Int) < n
  · have d8 := decide_eq_true h8
    have HX : Hid (R = false) := Lib.hid (by rw [HR.out, decide_eq_true (p := 0 ≤ n) (by omega), decide_eq_false (by omega)]; rfl)
    clear HR h0 h8
    go_wp2_with fail
    go_ret
    exact ⟨by rw [HX.out]; rfl, rfl⟩
  have d8 := decide_eq_false h8
  have HT : Hid (R = (List.range (8 * m)).all (bitOk a x n)) := Lib.hid (by rw [HR.out, decide_eq_true (p := 0 ≤ n) (by omega), decide_eq_true (p := n ≤ 8 * (m : Int)) (by omega)]; rfl)
  clear HR h0 h8
  go_wp2_with fail
  go_loop [7] (fun i => ∃ k : Nat, k ≤ 8 * m ∧ i = .int .i64 k ∧ Hid ((List.range k).all (bitOk a x n) = true)) (fun i => 8 * m - (intOf i).toNat)
  case atStart => exact ⟨0, Nat.zero_le _, rfl, Lib.hid rfl⟩
  case round =>
    obtain ⟨k, hk, rfl, hC⟩ := hrel
    by_cases hlt : k < 8 * m
    · have il : ((k : Nat) : Int) < 8 * (m : Int) := by omega
      have hn := HN.out k
      rw [hC.out, Bool.true_and, HBit.out k] at hn
      have ca := Lib.hid (CA.out k hlt)
      have cx := Lib.hid (CX.out k hlt)
      have hm := Lib.hid (fun h => HM.out (k + 1) h (by omega))
      generalize bitv a k = p at *
      generalize bitv x k = q at *
      by_cases hnk : n ≤ (k : Int)
      · have dg := decide_eq_true hnk
        have hlt2 : ¬ ((k : Nat) : Int) < n := by omega
        have dl := decide_eq_false hlt2
        rw [if_pos hnk] at hn
        have hn' := Lib.hid hn
        clear hn hnk hlt2
        go_wp2_with fail
        refine ca.out.mono ?_
        rintro e w2 ⟨rfl, rfl⟩
        cases p
        · go_wp2_with fail
          go_round
          case rel => exact ⟨k + 1, by omega, by go_num, Lib.hid hn'.out⟩
          case measure => simp [intOf]; omega
        · have HX : Hid (R = false) := Lib.hid (by rw [HT.out]; exact hm.out hn'.out)
          go_wp2_with fail
          go_ret
          exact ⟨by rw [HX.out]; rfl, rfl⟩
      · have dg := decide_eq_false hnk
        have hlt2 : ((k : Nat) : Int) < n := by omega
        have dl := decide_eq_true hlt2
        rw [if_neg hnk] at hn
        have hn' := Lib.hid hn
        clear hn hnk
        go_wp2_with fail
        refine ca.out.mono ?_
        rintro e w2 ⟨rfl, rfl⟩
        go_wp2_with fail
        refine cx.out.mono ?_
        rintro e w2 ⟨rfl, rfl⟩
        rcases p with _ | _ <;> rcases q with _ | _
        · have HX9 : Hid ((List.range (k + 1)).all (bitOk a x n) = true) := Lib.hid (by rw [hn'.out]; rfl)
          clear hn'
          go_wp2_with fail
          go_round
          case rel => exact ⟨k + 1, by omega, by go_num, HX9⟩
          case measure => simp [intOf]; omega
        · have HX : Hid (R = false) := Lib.hid (by rw [HT.out]; exact hm.out (by rw [hn'.out]; rfl))
          clear hn'
          go_wp2_with fail
          go_ret
          exact ⟨by rw [HX.out]; rfl, rfl⟩
        · have HX : Hid (R = false) := Lib.hid (by rw [HT.out]; exact hm.out (by rw [hn'.out]; rfl))
          clear hn'
          go_wp2_with fail
          go_ret
          exact ⟨by rw [HX.out]; rfl, rfl⟩
        · have HX9 : Hid ((List.range (k + 1)).all (bitOk a x n) = true) := Lib.hid (by rw [hn'.out]; rfl)
          clear hn'
          go_wp2_with fail
          go_round
          case rel => exact ⟨k + 1, by omega, by go_num, HX9⟩
          case measure => simp [intOf]; omega
    · obtain rfl : k = 8 * m := by omega
      have HX : Hid (R = true) := Lib.hid (by rw [HT.out]; exact hC.out)
      go_wp2_with fail
      go_ret
      exact ⟨by rw [HX.out]; rfl, rfl⟩
end Go.Proofs.YtkdplnbabelkoaaDoor
