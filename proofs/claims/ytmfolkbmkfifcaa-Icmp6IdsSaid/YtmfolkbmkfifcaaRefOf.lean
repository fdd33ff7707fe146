/-
  Proved here: what the document's Total and Of answer.
  Conditions: the numbers' cells hold them; a text of at most 80000 bytes.
-/
import Derived.Test.YtmfolkbmkfifcaaWords
namespace Go.Proofs.Ytmfolkbmkfifcaa
open Go.RowKit

/-- The cells of a slice of numbers. -/
def Nms (w : World) (ao : Option Addr) (l : List Nat) : Prop :=
  ∀ i (h : i < l.length), ∃ b o, ao = some ⟨b, o, none⟩ ∧ w.cell? ⟨b, o + i, none⟩ = some (.int .i64 (l[i] : Nat))
theorem nms_own {w : World} {base : Nat} {v : Value} {l : List Nat} (h : w.ownsRow base 3 1 v l.length (ints l)) :
    ∃ ao cap, v = .slice ao l.length cap ∧ Nms w ao l := by
  rcases h.2 with ⟨rfl, h0⟩ | ⟨g, cap, cur, rfl, _⟩
  · refine ⟨none, 0, by rw [h0], fun i hi => by omega⟩
  · refine ⟨_, cap, rfl, fun i hi => ⟨_, _, rfl, ?_⟩⟩
    have := h.cells (g := g) rfl i (.int .i64 (l[i] : Nat)) (by simp [ints, hi])
    rw [← this]
    simp [Addr.add]
    split <;> simp_all

set_option maxRecDepth 100000 in
set_option maxHeartbeats 1000000 in
theorem rtotal_any (ao : Option Addr) (len cap : Nat) (l : List Nat) (w : World) (hl : l.length = len) (hm : len ≤ 1099511627776) (hN : Nms w ao l) (hx : ∀ x ∈ l, x ≤ 65535) :
    Calls Try.prog 34 #[.slice ao len cap] w fun e w' => e = .returned (.int .i64 (fold l.sum : Nat)) ∧ w = w' := by
  have HL := Lib.hid hl
  have HN := Lib.hid hN
  have HX := Lib.hid hx
  clear hl hN hx
  go_enter Try.func34, Try.ntmps34
  go_wp2_with fail
  go_loop [3, 4] (fun n i => ∃ k : Nat, k ≤ len ∧ i = .int .i64 k ∧ n = .int .i64 ((l.take k).sum : Nat)) (fun _ i => len - (intOf i).toNat)
  case atStart => exact ⟨0, Nat.zero_le _, rfl, by simp⟩
  case round =>
    obtain ⟨k, hk, rfl, rfl⟩ := hrel
    have hb : (l.take k).sum ≤ 65535 * 1099511627776 := by
      have h1 := sum_le (l.take k) (fun x hx => HX.out x (List.mem_of_mem_take hx))
      have h2 : (l.take k).length ≤ k := List.length_take_le _ _
      omega
    by_cases hlt : k < len
    · have hk2 : k < l.length := by rw [HL.out]; exact hlt
      obtain ⟨b, o, rfl, hc⟩ := HN.out k hk2
      have h6 : l[k] ≤ 65535 := HX.out _ (List.getElem_mem _)
      have HS := Lib.hid (sum_take l k hk2)
      go_wp2_with fail
      go_round
      case rel => exact ⟨k + 1, by omega, by go_num, by rw [HS.out]; go_num⟩
      case measure => simp [intOf]; omega
    · have HE : Hid ((l.take k).sum = l.sum) := Lib.hid (by rw [List.take_of_length_le]; rw [HL.out]; omega)
      go_wp2_with fail
      go_loop [3] (fun t => ∃ m : Nat, t = .int .i64 m ∧ m < 4611686018427387904 ∧ Hid (fold m = fold l.sum)) (fun t => (intOf t).toNat)
      case atStart => exact ⟨_, rfl, by omega, Lib.hid (by rw [HE.out])⟩
      case round =>
        obtain ⟨m, rfl, hm, hf⟩ := hrel
        by_cases hlt9 : 65535 < m
        · have HF := Lib.hid (fold_step hlt9)
          go_wp2_with fail
          go_round
          case rel => exact ⟨m / 65536 + m % 65536, by go_num, by omega, Lib.hid (HF.out.trans hf.out)⟩
          case measure => simp [intOf]; omega
        · go_wp2_with fail
          go_ret
          have e : fold l.sum = m := by rw [← hf.out, fold_small (by omega)]
          rw [e]
          exact ⟨rfl, rfl⟩

theorem rof_any (s : ByteArray) (w : World) (hs : s.size ≤ 80000) :
    Calls Try.prog 28 #[.string s] w fun e w' => e = .returned (.int .i64 (sumL s.data.toList : Nat)) ∧ Below w.heap.size w w' := by
  have hf := fold_le (acc true s.data.toList)
  have HS := Lib.hid (show ((sumL s.data.toList : Nat) : Int) = 65535 - (fold (acc true s.data.toList) : Nat) by unfold sumL; omega)
  have HL : Hid ((wds s.data.toList).length ≤ 1099511627776) := Lib.hid (by rw [wds_len]; have : s.data.toList.length = s.size := by simp
                                                                            omega)
  have HW := Lib.hid (words_any s w hs)
  have HX := Lib.hid (wds_le s.data.toList)
  have HA := Lib.hid (wds_acc s.data.toList)
  go_enter Try.func28, Try.ntmps28
  go_wp2_with fail
  refine HW.out.mono ?_
  rintro e w1 ⟨v, rfl, hown, hb⟩
  obtain ⟨ao, cap, rfl, hn⟩ := nms_own hown
  have HB := Lib.hid hb
  have HN := Lib.hid hn
  clear hown hb hn
  go_wp2_with fail
  refine (rtotal_any _ _ _ _ _ rfl HL.out HN.out HX.out).mono ?_
  rintro e w2 ⟨rfl, rfl⟩
  rw [HA.out]
  go_wp2_with fail
  go_ret
  rw [HS.out]
  exact ⟨rfl, HB.out⟩
end Go.Proofs.Ytmfolkbmkfifcaa
