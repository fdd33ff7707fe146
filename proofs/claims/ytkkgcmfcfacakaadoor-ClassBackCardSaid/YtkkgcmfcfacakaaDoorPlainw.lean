/-
  Proved here: what the law's 'plain' answers of plain signs.
  Conditions: the text has plain signs alone.
-/
import Derived.Test.YtkkgcmfcfacakaaDoorRtb
import Derived.Test.YtkkgcmfcfacakaaDoorRead
namespace Go.Proofs.YtkkgcmfcfacakaaDoor
open Go.RowKit

set_option maxRecDepth 100000 in
set_option maxHeartbeats 8000000 in
theorem plain_any (s : ByteArray) (w : World) (h : ∀ c ∈ bl s, isPl c = true) :
    Calls Tryd.prog 33 #[.string s] w fun e w' => e = .returned (.bool true) ∧ Below w.heap.size w w' := by
  have HC := Lib.hid h
  have HB0 : Hid (Below w.heap.size w (w.alloc (.stringIter s 0))) := Lib.hid ((Below.refl _ _).alloc (Nat.le_refl _) _)
  have HIt0 : Hid ((w.iter s 0).heap[w.heap.size]? = some (.stringIter s 0)) := Lib.hid (World.iter_heap w s 0)
  clear h
  go_enter Tryd.func33, Tryd.ntmps33
  go_wp2_with fail
  go_loopw [] (fun wr => ∃ k : Nat, k ≤ s.size ∧ Below w.heap.size w wr ∧ wr.heap[w.heap.size]? = some (.stringIter s k)) (fun wr => s.size - wr.iterPos w.heap.size)
  case atStart => exact ⟨0, Nat.zero_le _, HB0.out, HIt0.out⟩
  case round =>
    obtain ⟨k, hk, hB, hIt⟩ := hrel
    have HB := Lib.hid hB
    have HIt := Lib.hid hIt
    clear hB hIt HB0 HIt0
    have HItw := HIt
    by_cases hlt : k < s.size
    · have hm : isPl (s[k]) = true := HC.out _ (List.mem_of_getElem? (bl_at s k hlt))
      have hcs : (s[k]).toNat = 58 ∨ (48 ≤ (s[k]).toNat ∧ (s[k]).toNat ≤ 57) ∨ (97 ≤ (s[k]).toNat ∧ (s[k]).toNat ≤ 102) := by
        unfold isPl at hm
        simp only [Bool.or_eq_true, Bool.and_eq_true, decide_eq_true_eq, beq_iff_eq] at hm
        rcases hm with (h | h) | h
        · left; rw [h]; rfl
        · exact .inr (.inl h)
        · exact .inr (.inr h)
      have ha : (s[k]).toNat < 128 := by omega
      have hnx0 := fun ty => Lib.run_next_ascii_at (P := Tryd.prog) wr w.heap.size s k ty HIt.out hlt ha
      have hI1 := Lib.iterAt_heap wr w.heap.size s k (k + 1) HIt.out
      have hB1 := Lib.below_iterAt HB.out (Nat.le_refl _) s (k + 1)
      generalize wr.iterAt w.heap.size s (k + 1) = w1 at *
      have HI1 := Lib.hid hI1
      have HB1 := Lib.hid hB1
      clear hI1 hB1 HIt HB hm
      rcases hcs with hc | hc | hc
      · have q1 : (((s[k]).toNat : Int) != 58) = false := by rw [hc]; rfl
        clear hc
        have HLt := Lib.hid hlt
        go_wp2_with fail
        go_roundw
        case rel => exact ⟨k + 1, HLt.out, HB1.out, HI1.out⟩
        case measure =>
          have := HLt.out
          rw [iterPos_of HI1.out, iterPos_of HItw.out]
          omega
      · have q1 : (((s[k]).toNat : Int) != 58) = true := by rw [bne_iff_ne]; omega
        have q2 : ¬ ((s[k]).toNat : Int) < 48 := by omega
        have q3 : ¬ (57 : Int) < ((s[k]).toNat : Int) := by omega
        clear hc
        have HLt := Lib.hid hlt
        go_wp2_with fail
        go_roundw
        case rel => exact ⟨k + 1, HLt.out, HB1.out, HI1.out⟩
        case measure =>
          have := HLt.out
          rw [iterPos_of HI1.out, iterPos_of HItw.out]
          omega
      · have q1 : (((s[k]).toNat : Int) != 58) = true := by rw [bne_iff_ne]; omega
        have q2 : ¬ ((s[k]).toNat : Int) < 48 := by omega
        have q3 : (57 : Int) < ((s[k]).toNat : Int) := by omega
        have q4 : ¬ ((s[k]).toNat : Int) < 97 := by omega
        have q5 : ¬ (102 : Int) < ((s[k]).toNat : Int) := by omega
        clear hc
        have HLt := Lib.hid hlt
        go_wp2_with fail
        go_roundw
        case rel => exact ⟨k + 1, HLt.out, HB1.out, HI1.out⟩
        case measure =>
          have := HLt.out
          rw [iterPos_of HI1.out, iterPos_of HItw.out]
          omega
    · have hnx0 := fun ty => Lib.run_next_end_at (P := Tryd.prog) wr w.heap.size s k ty HIt.out hlt
      go_wp2_with fail
      go_ret
      exact ⟨rfl, HB.out⟩
end Go.Proofs.YtkkgcmfcfacakaaDoor
