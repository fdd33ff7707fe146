/-
  Proved here: what head64.Head answers, in one.
  Conditions: the slice reads as the packet's extensions; at most 70000 bytes.
-/
import Derived.Test.YtkihhmnlefekoaaPpa
import Derived.Test.YtkihhmnlefekoaaPpb
import Derived.Test.YtkihhmnlefekoaaPpc
import Derived.Test.YtkihhmnlefekoaaPpd
import Derived.Test.YtkihhmnlefekoaaR64
namespace Go.Proofs.Ytkihhmnlefekoaa
open Go.RowKit

theorem bad_head64 {p : Pk6} {f0 f1 f2 f3 t0 t1 t2 t3 id : Int} {w : World} {c : Int} (hc : hcode64 p id = c) (h0 : c ≠ 0) {e : Ending} {w' : World} (h : Bad (.agg P4.pkt0.vals.toArray) c w e w') :
    ∃ x, e = .returned (.tuple #[.agg (hout64 p f0 f1 f2 f3 t0 t1 t2 t3 id).vals.toArray, x]) ∧ ErrV w.heap.size (hcode64 p id) x w' ∧ Below w.heap.size w w' := by
  obtain ⟨f, rfl, h1, h2, h3⟩ := h
  rw [hout64_bad (by rw [hc]; exact h0), hc]
  exact ⟨_, rfl, .inr ⟨h0, f, rfl, h1, h2⟩, h3⟩
theorem head64_any (p : Pk6) (v : Value) (f0 f1 f2 f3 t0 t1 t2 t3 id : Int) (w : World) (hx : Exs w v p.exts) (hl : p.exts.length ≤ 1099511627776) (hd : p.data.size ≤ 70000) :
    Calls Try.prog 9 #[.agg (p.vals v).toArray, .agg ([.int .u8 f0, .int .u8 f1, .int .u8 f2, .int .u8 f3] : List Value).toArray, .agg ([.int .u8 t0, .int .u8 t1, .int .u8 t2, .int .u8 t3] : List Value).toArray, .int .i64 id] w fun e w' => ∃ x, e = .returned (.tuple #[.agg (hout64 p f0 f1 f2 f3 t0 t1 t2 t3 id).vals.toArray, x]) ∧ ErrV w.heap.size (hcode64 p id) x w' ∧ Below w.heap.size w w' := by
  have h13 : ∀ (_ : p.hop < 2 ∨ 255 < p.hop ∨ p.cls < 0 ∨ 255 < p.cls ∨ id < 0 ∨ 65535 < id), hcode64 p id = 13 := fun h => by unfold hcode64; rw [if_pos h]
  by_cases n0 : p.hop < 2
  · exact (head64_r0 p v f0 f1 f2 f3 t0 t1 t2 t3 id w n0).mono fun e w' h => bad_head64 (h13 (by omega)) (by decide) h
  by_cases n1 : 255 < p.hop
  · exact (head64_r1 p v f0 f1 f2 f3 t0 t1 t2 t3 id w n0 n1).mono fun e w' h => bad_head64 (h13 (by omega)) (by decide) h
  by_cases nc : p.cls < 0 ∨ 255 < p.cls
  · exact (head64_rc p v f0 f1 f2 f3 t0 t1 t2 t3 id w n0 n1 nc).mono fun e w' h => bad_head64 (h13 (by omega)) (by decide) h
  have n2 : ¬ p.cls < 0 := by omega
  have n3 : ¬ 255 < p.cls := by omega
  by_cases ni : id < 0 ∨ 65535 < id
  · exact (head64_ri p v f0 f1 f2 f3 t0 t1 t2 t3 id w n0 n1 n2 n3 ni).mono fun e w' h => bad_head64 (h13 (by omega)) (by decide) h
  have n4 : ¬ id < 0 := by omega
  have n5 : ¬ 65535 < id := by omega
  have hc := hcode64_in (p := p) (id := id) n0 n1 n2 n3 n4 n5
  cases hr : rtd p.exts
  · cases hp : prOk64 p.proto
    · have hc : hcode64 p id = 10 := by rw [hc, if_pos (.inl hp)]
      exact (head64_kindp p v f0 f1 f2 f3 t0 t1 t2 t3 id w n0 n1 n2 n3 n4 n5 hx hl hr hp).mono fun e w' h => bad_head64 hc (by decide) h
    · rw [if_neg (by rw [hp, hr]; simp)] at hc
      by_cases hz : p.pl ≤ 65515 - (p.data.size : Int)
      · rw [if_neg (by omega)] at hc
        rw [hout64_ok hc, hc]
        cases hf : p.frag
        · by_cases hs : (p.data.size : Int) ≤ 1240
          · have e : h64 p f0 f1 f2 f3 t0 t1 t2 t3 id = ⟨p.cls, id, p.hop - 1, pr64 p.proto, 0, false, false, f0, f1, f2, f3, t0, t1, t2, t3, ⟨#[]⟩, p.data⟩ := by
              unfold h64
              rw [hf, if_neg (by simp), if_pos (by omega), if_neg (by simp), show decide (1240 < p.data.size) = false by rw [decide_eq_false_iff_not]; omega]
              rfl
            rw [e]
            exact (head64_small p v f0 f1 f2 f3 t0 t1 t2 t3 id w n0 n1 n2 n3 n4 n5 hx hl hr hp hd hz hf hs).mono fun e w' ⟨h, b⟩ => ⟨_, h, .inl ⟨rfl, rfl⟩, b⟩
          · have e : h64 p f0 f1 f2 f3 t0 t1 t2 t3 id = ⟨p.cls, 0, p.hop - 1, pr64 p.proto, 0, true, false, f0, f1, f2, f3, t0, t1, t2, t3, ⟨#[]⟩, p.data⟩ := by
              unfold h64
              rw [hf, if_neg (by simp), if_neg (by omega), if_neg (by simp), show decide (1240 < p.data.size) = true by rw [decide_eq_true_iff]; omega]
              rfl
            rw [e]
            exact (head64_big p v f0 f1 f2 f3 t0 t1 t2 t3 id w n0 n1 n2 n3 n4 n5 hx hl hr hp hd hz hf hs).mono fun e w' ⟨h, b⟩ => ⟨_, h, .inl ⟨rfl, rfl⟩, b⟩
        · have e : h64 p f0 f1 f2 f3 t0 t1 t2 t3 id = ⟨p.cls, p.id % 65536, p.hop - 1, pr64 p.proto, p.pl, false, p.more, f0, f1, f2, f3, t0, t1, t2, t3, ⟨#[]⟩, p.data⟩ := by
            unfold h64
            rw [hf, if_pos rfl, if_pos rfl]
            rfl
          rw [e]
          exact (head64_frag p v f0 f1 f2 f3 t0 t1 t2 t3 id w n0 n1 n2 n3 n4 n5 hx hl hr hp hd hz hf).mono fun e w' ⟨h, b⟩ => ⟨_, h, .inl ⟨rfl, rfl⟩, b⟩
      · rw [if_pos (by omega)] at hc
        exact (head64_long p v f0 f1 f2 f3 t0 t1 t2 t3 id w n0 n1 n2 n3 n4 n5 hx hl hr hp hd hz).mono fun e w' h => bad_head64 hc (by decide) h
  · have hc : hcode64 p id = 10 := by rw [hc, if_pos (.inr hr)]
    exact (head64_kindr p v f0 f1 f2 f3 t0 t1 t2 t3 id w n0 n1 n2 n3 n4 n5 hx hl hr).mono fun e w' h => bad_head64 hc (by decide) h
end Go.Proofs.Ytkihhmnlefekoaa
