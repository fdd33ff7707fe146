/-
  Proved here: what the document's Routed answers.
  Conditions: a text of at most 70000 bytes.
-/
import Derived.Test.YtdljjcnihajchaaFRoute
namespace Go.Proofs.Ytdljjcnihajchaa.P4
open Go.RowKit

/-- What the document's Routed answers. -/
def RrPost (R : Option Bool) (w : World) (e : Ending) (w' : World) : Prop :=
  match R with
  | some b => e = .returned (.tuple #[.bool b, .int .i64 0]) ∧ Below w.heap.size w w'
  | none => e = .returned (.tuple #[.bool false, .int .i64 8]) ∧ Below w.heap.size w w'
theorem lb_drop (l : List UInt8) (k i : Nat) : lb (l.drop k) i = lb l (k + i) := by
  unfold lb
  rw [List.getD_eq_getElem?_getD, List.getElem?_drop, ← List.getD_eq_getElem?_getD]
set_option maxRecDepth 100000 in
set_option maxHeartbeats 2000000 in
theorem rrouted_any (s : ByteArray) (w : World) (hs : s.size ≤ 70000) :
    Calls Try.prog 17 #[.string s] w (RrPost (rtE s.data.toList false) w) := by
  obtain ⟨R, hR⟩ : ∃ R, R = rtE s.data.toList false := ⟨_, rfl⟩
  rw [← hR]
  have HR := Lib.hid hR
  clear hR
  go_enter Try.func17, Try.ntmps17
  go_wp2_with fail
  go_loopw [4, 5] (fun r i wr => ∃ (k : Nat) (a : Bool), k ≤ s.size ∧ r = .bool a ∧ i = .int .i64 k ∧ Hid (R = rtE (s.data.toList.drop k) a) ∧ Below w.heap.size w wr) (fun _ i _ => s.size - (intOf i).toNat)
  case atStart => exact ⟨0, false, Nat.zero_le _, rfl, rfl, HR, Below.refl _ _⟩
  case round =>
    obtain ⟨k, a, hk, rfl, rfl, HT, hbl⟩ := hrel
    have HB := Lib.hid hbl
    clear hbl
    have hlen : (s.data.toList.drop k).length = s.size - k := by rw [List.length_drop, sz_list]
    have HLen := Lib.hid hlen
    clear hlen
    by_cases hlt : k < s.size
    · have e0 : lb (s.data.toList.drop k) 0 = s[k].toNat := by rw [lb_drop, Nat.add_zero, lb_at s k hlt]
      have E0 := Lib.hid e0
      clear e0
      have g0 := s[k].toNat_lt
      by_cases h0 : s[k].toNat = 0
      · have HE : Hid (R = some a) := Lib.hid (by rw [HT.out]; exact rtE_end a (.inr (by rw [E0.out]; exact h0)))
        have h0b : ((s[k].toNat : Int) != 0) = false := by rw [h0]; rfl
        clear h0 HT
        go_wp2_with fail
        go_ret2
        rw [HE.out]
        exact ⟨rfl, HB.out⟩
      · have h0b : ((s[k].toNat : Int) != 0) = true := by rw [bne_iff_ne]; omega
        have HN : Hid (¬ ((s.data.toList.drop k).length = 0 ∨ lb (s.data.toList.drop k) 0 = 0)) := Lib.hid (by rw [HLen.out, E0.out]; omega)
        by_cases h1 : s[k].toNat = 1
        · have h1b : ((s[k].toNat : Int) == 1) = true := by rw [h1]; rfl
          have HX : Hid (R = rtE (s.data.toList.drop (k + 1)) a) := Lib.hid (by
            rw [HT.out, rtE_next a HN.out (.inl (by rw [E0.out]; exact h1)), List.drop_drop]
            have q1 : rtLen (s.data.toList.drop k) = 1 := by unfold rtLen; rw [E0.out, if_pos h1]
            have q2 : rtHit (s.data.toList.drop k) = false := by unfold rtHit; rw [E0.out, h1]; rfl
            rw [q1, q2, Bool.or_false])
          clear h1 h0 HT HN
          go_wp2_with fail
          go_roundw
          case rel => exact ⟨k + 1, a, by omega, rfl, by go_num, HX, HB.out⟩
          case measure => simp [intOf]; omega
        · have h1b : ((s[k].toNat : Int) == 1) = false := by rw [beq_eq_false_iff_ne]; omega
          by_cases h2 : s.size ≤ k + 1
          · have HE : Hid (R = none) := Lib.hid (by
              rw [HT.out]
              refine rtE_bad a HN.out ?_
              unfold rtOk
              rw [E0.out, HLen.out]
              omega)
            clear h1 h0 HT HN
            go_wp2_with fail
            go_ret2
            rw [HE.out]
            exact ⟨rfl, HB.out⟩
          · have hlt2 : k + 1 < s.size := by omega
            have e1 : lb (s.data.toList.drop k) 1 = s[k + 1].toNat := by rw [lb_drop, lb_at s (k + 1) hlt2]
            have E1 := Lib.hid e1
            clear e1
            have g1 := s[k + 1].toNat_lt
            by_cases h3 : s[k + 1].toNat < 2
            · have HE : Hid (R = none) := Lib.hid (by
                rw [HT.out]
                refine rtE_bad a HN.out ?_
                unfold rtOk
                rw [E0.out, E1.out, HLen.out]
                split <;> omega)
              clear h1 h0 HT HN h2
              go_wp2_with fail
              go_ret2
              rw [HE.out]
              exact ⟨rfl, HB.out⟩
            · by_cases h4 : s.size < k + s[k + 1].toNat
              · have HE : Hid (R = none) := Lib.hid (by
                  rw [HT.out]
                  refine rtE_bad a HN.out ?_
                  unfold rtOk
                  rw [E0.out, E1.out, HLen.out]
                  omega)
                clear h1 h0 HT HN h2
                go_wp2_with fail
                go_ret2
                rw [HE.out]
                exact ⟨rfl, HB.out⟩
              · have q1 : rtLen (s.data.toList.drop k) = s[k + 1].toNat := by unfold rtLen; rw [E0.out, if_neg h1, E1.out]
                have Q1 := Lib.hid q1
                have HX : rtOk (s.data.toList.drop k) → Hid (R = rtE (s.data.toList.drop (k + s[k + 1].toNat)) (a || rtHit (s.data.toList.drop k))) := fun hok => Lib.hid (by
                  rw [HT.out, rtE_next a HN.out hok, List.drop_drop, Q1.out])
                clear q1
                by_cases hx : s[k].toNat = 131
                · have h5 : ((s[k].toNat : Int) == 131) = true := by rw [hx]; rfl
                  have hr : rte s[k].toNat = true := by rw [hx]; rfl
                  by_cases h7 : s[k + 1].toNat < 3
                  · have HE : Hid (R = none) := Lib.hid (by
                      rw [HT.out]
                      refine rtE_bad a HN.out ?_
                      unfold rtOk
                      rw [E0.out, E1.out, HLen.out, hr]
                      simp only [if_true]
                      omega)
                    clear h1 h0 HT HN h2 HX hr hx
                    go_wp2_with fail
                    go_ret2
                    rw [HE.out]
                    exact ⟨rfl, HB.out⟩
                  · have hlt3 : k + 2 < s.size := by omega
                    have e2 : lb (s.data.toList.drop k) 2 = s[k + 2].toNat := by rw [lb_drop, lb_at s (k + 2) hlt3]
                    have g2 := s[k + 2].toNat_lt
                    have hok : rtOk (s.data.toList.drop k) := by
                      unfold rtOk
                      rw [E0.out, E1.out, HLen.out, hr]
                      simp only [if_true]
                      omega
                    have HX' := HX hok
                    by_cases hle : s[k + 2].toNat ≤ s[k + 1].toNat
                    · have q2 : rtHit (s.data.toList.drop k) = true := by unfold rtHit; rw [E0.out, hr, E1.out, e2]; simpa using hle
                      rw [q2, Bool.or_true] at HX'
                      clear h1 h0 HT HN h2 HX hr hx e2 hok q2
                      go_wp2_with fail
                      have p1 : (0 : Int) ≤ (k : Int) + 1 := by omega
                      have p2 : (k : Int) + 1 < (s.size : Int) := by omega
                      have p3 : (0 : Int) ≤ (k : Int) + 2 := by omega
                      have p4 : (k : Int) + 2 < (s.size : Int) := by omega
                      have k1 : IntKind.i64.wrap ((k : Int) + 1) = (k : Int) + 1 := IntWalk.i64_in _ (by omega)
                      have k2 : ((k : Int) + 1).toNat = k + 1 := by omega
                      have k3 : IntKind.i64.wrap ((k : Int) + 2) = (k : Int) + 2 := IntWalk.i64_in _ (by omega)
                      have k4 : ((k : Int) + 2).toNat = k + 2 := by omega
                      go_quiet (fail)
                      clear k1 k3
                      go_wp2_with fail
                      go_roundw
                      case rel => exact ⟨k + s[k + 1].toNat, true, by omega, rfl, by go_num, HX', ⟨HB.out.os, HB.out.tape, HB.out.output, HB.out.size, HB.out.block⟩⟩
                      case measure => simp [intOf]; omega
                    · have q2 : rtHit (s.data.toList.drop k) = false := by unfold rtHit; rw [E0.out, hr, E1.out, e2]; simpa using hle
                      rw [q2, Bool.or_false] at HX'
                      clear h1 h0 HT HN h2 HX hr hx e2 hok q2
                      go_wp2_with fail
                      have p1 : (0 : Int) ≤ (k : Int) + 1 := by omega
                      have p2 : (k : Int) + 1 < (s.size : Int) := by omega
                      have p3 : (0 : Int) ≤ (k : Int) + 2 := by omega
                      have p4 : (k : Int) + 2 < (s.size : Int) := by omega
                      have k1 : IntKind.i64.wrap ((k : Int) + 1) = (k : Int) + 1 := IntWalk.i64_in _ (by omega)
                      have k2 : ((k : Int) + 1).toNat = k + 1 := by omega
                      have k3 : IntKind.i64.wrap ((k : Int) + 2) = (k : Int) + 2 := IntWalk.i64_in _ (by omega)
                      have k4 : ((k : Int) + 2).toNat = k + 2 := by omega
                      go_quiet (fail)
                      clear k1 k3
                      go_wp2_with fail
                      go_roundw
                      case rel => exact ⟨k + s[k + 1].toNat, a, by omega, rfl, by go_num, HX', ⟨HB.out.os, HB.out.tape, HB.out.output, HB.out.size, HB.out.block⟩⟩
                      case measure => simp [intOf]; omega
                · by_cases hy : s[k].toNat = 137
                  · have h5 : ((s[k].toNat : Int) == 131) = false := by rw [hy]; rfl
                    have h6 : ((s[k].toNat : Int) == 137) = true := by rw [hy]; rfl
                    have hr : rte s[k].toNat = true := by rw [hy]; rfl
                    by_cases h7 : s[k + 1].toNat < 3
                    · have HE : Hid (R = none) := Lib.hid (by
                        rw [HT.out]
                        refine rtE_bad a HN.out ?_
                        unfold rtOk
                        rw [E0.out, E1.out, HLen.out, hr]
                        simp only [if_true]
                        omega)
                      clear h1 h0 HT HN h2 HX hr hx hy
                      go_wp2_with fail
                      go_ret2
                      rw [HE.out]
                      exact ⟨rfl, HB.out⟩
                    · have hlt3 : k + 2 < s.size := by omega
                      have e2 : lb (s.data.toList.drop k) 2 = s[k + 2].toNat := by rw [lb_drop, lb_at s (k + 2) hlt3]
                      have g2 := s[k + 2].toNat_lt
                      have hok : rtOk (s.data.toList.drop k) := by
                        unfold rtOk
                        rw [E0.out, E1.out, HLen.out, hr]
                        simp only [if_true]
                        omega
                      have HX' := HX hok
                      by_cases hle : s[k + 2].toNat ≤ s[k + 1].toNat
                      · have q2 : rtHit (s.data.toList.drop k) = true := by unfold rtHit; rw [E0.out, hr, E1.out, e2]; simpa using hle
                        rw [q2, Bool.or_true] at HX'
                        clear h1 h0 HT HN h2 HX hr hx hy e2 hok q2
                        go_wp2_with fail
                        have p1 : (0 : Int) ≤ (k : Int) + 1 := by omega
                        have p2 : (k : Int) + 1 < (s.size : Int) := by omega
                        have p3 : (0 : Int) ≤ (k : Int) + 2 := by omega
                        have p4 : (k : Int) + 2 < (s.size : Int) := by omega
                        have k1 : IntKind.i64.wrap ((k : Int) + 1) = (k : Int) + 1 := IntWalk.i64_in _ (by omega)
                        have k2 : ((k : Int) + 1).toNat = k + 1 := by omega
                        have k3 : IntKind.i64.wrap ((k : Int) + 2) = (k : Int) + 2 := IntWalk.i64_in _ (by omega)
                        have k4 : ((k : Int) + 2).toNat = k + 2 := by omega
                        go_quiet (fail)
                        clear k1 k3
                        go_wp2_with fail
                        go_roundw
                        case rel => exact ⟨k + s[k + 1].toNat, true, by omega, rfl, by go_num, HX', ⟨HB.out.os, HB.out.tape, HB.out.output, HB.out.size, HB.out.block⟩⟩
                        case measure => simp [intOf]; omega
                      · have q2 : rtHit (s.data.toList.drop k) = false := by unfold rtHit; rw [E0.out, hr, E1.out, e2]; simpa using hle
                        rw [q2, Bool.or_false] at HX'
                        clear h1 h0 HT HN h2 HX hr hx hy e2 hok q2
                        go_wp2_with fail
                        have p1 : (0 : Int) ≤ (k : Int) + 1 := by omega
                        have p2 : (k : Int) + 1 < (s.size : Int) := by omega
                        have p3 : (0 : Int) ≤ (k : Int) + 2 := by omega
                        have p4 : (k : Int) + 2 < (s.size : Int) := by omega
                        have k1 : IntKind.i64.wrap ((k : Int) + 1) = (k : Int) + 1 := IntWalk.i64_in _ (by omega)
                        have k2 : ((k : Int) + 1).toNat = k + 1 := by omega
                        have k3 : IntKind.i64.wrap ((k : Int) + 2) = (k : Int) + 2 := IntWalk.i64_in _ (by omega)
                        have k4 : ((k : Int) + 2).toNat = k + 2 := by omega
                        go_quiet (fail)
                        clear k1 k3
                        go_wp2_with fail
                        go_roundw
                        case rel => exact ⟨k + s[k + 1].toNat, a, by omega, rfl, by go_num, HX', ⟨HB.out.os, HB.out.tape, HB.out.output, HB.out.size, HB.out.block⟩⟩
                        case measure => simp [intOf]; omega
                  · have h5 : ((s[k].toNat : Int) == 131) = false := by rw [beq_eq_false_iff_ne]; omega
                    have h6 : ((s[k].toNat : Int) == 137) = false := by rw [beq_eq_false_iff_ne]; omega
                    have hr : rte s[k].toNat = false := by unfold rte; simp only [Bool.or_eq_false_iff, beq_eq_false_iff_ne]; omega
                    have hok : rtOk (s.data.toList.drop k) := by
                      unfold rtOk
                      rw [E0.out, E1.out, HLen.out, hr]
                      simp only [Bool.false_eq_true, if_false]
                      omega
                    have HX' := HX hok
                    have q2 : rtHit (s.data.toList.drop k) = false := by unfold rtHit; rw [E0.out, hr]; rfl
                    rw [q2, Bool.or_false] at HX'
                    clear h1 h0 HT HN h2 HX hr hok q2 hx hy
                    go_wp2_with fail
                    go_roundw
                    case rel => exact ⟨k + s[k + 1].toNat, a, by omega, rfl, by go_num, HX', HB.out⟩
                    case measure => simp [intOf]; omega
    · have HE : Hid (R = some a) := Lib.hid (by rw [HT.out]; exact rtE_end a (.inl (by rw [HLen.out]; omega)))
      clear HT
      go_wp2_with fail
      go_ret2
      rw [HE.out]
      exact ⟨rfl, HB.out⟩
end Go.Proofs.Ytdljjcnihajchaa.P4
