/-
  Proved here: what the document's Head of layer 13 answers, in one.
  Conditions: the slice reads as the packet's extensions; a place that is not below 0; an identifier of 32 bits; at most 70000 bytes.
-/
import Derived.Test.YtkihhmnlefekoaaR64a
import Derived.Test.YtkihhmnlefekoaaR64b
import Derived.Test.YtkihhmnlefekoaaR64c
import Derived.Test.YtkihhmnlefekoaaR64d
import Derived.Test.YtkihhmnlefekoaaR64e
namespace Go.Proofs.Ytkihhmnlefekoaa
open Go.RowKit

theorem hcode64_in {p : Pk6} {id : Int} (n0 : ¬ p.hop < 2) (n1 : ¬ 255 < p.hop) (n2 : ¬ p.cls < 0) (n3 : ¬ 255 < p.cls) (n4 : ¬ id < 0) (n5 : ¬ 65535 < id) : hcode64 p id = (if prOk64 p.proto = false ∨ rtd p.exts = true then 10 else if 65535 < p.pl ∨ 65535 < p.pl + 20 + (p.data.size : Int) then 3 else 0) := by
  unfold hcode64
  rw [if_neg (by omega)]
theorem hout64_bad {p : Pk6} {f0 f1 f2 f3 t0 t1 t2 t3 id : Int} (h : hcode64 p id ≠ 0) : hout64 p f0 f1 f2 f3 t0 t1 t2 t3 id = P4.pkt0 := by unfold hout64; rw [if_neg h]
theorem hout64_ok {p : Pk6} {f0 f1 f2 f3 t0 t1 t2 t3 id : Int} (h : hcode64 p id = 0) : hout64 p f0 f1 f2 f3 t0 t1 t2 t3 id = h64 p f0 f1 f2 f3 t0 t1 t2 t3 id := by unfold hout64; rw [if_pos h]
theorem rhead64_any (p : Pk6) (v : Value) (f0 f1 f2 f3 t0 t1 t2 t3 id : Int) (w : World) (hx : Exs w v p.exts) (hl : p.exts.length ≤ 1099511627776) (hpl : 0 ≤ p.pl) (hd : p.data.size ≤ 70000) (hi : 0 ≤ p.id ∧ p.id < 4294967296) :
    Calls Try.prog 15 #[.agg (p.vals v).toArray, .agg ([.int .u8 f0, .int .u8 f1, .int .u8 f2, .int .u8 f3] : List Value).toArray, .agg ([.int .u8 t0, .int .u8 t1, .int .u8 t2, .int .u8 t3] : List Value).toArray, .int .i64 id] w (fun e w' => e = .returned (.tuple #[.agg (hout64 p f0 f1 f2 f3 t0 t1 t2 t3 id).vals.toArray, .int .i64 (hcode64 p id)]) ∧ Below w.heap.size w w') := by
  by_cases n0 : (p.hop < 2)
  · have hc : hcode64 p id = 13 := by unfold hcode64; rw [if_pos (by omega)]
    rw [hout64_bad (by rw [hc]; decide), hc]
    exact rhead64_r0 p v f0 f1 f2 f3 t0 t1 t2 t3 id w n0
  by_cases n1 : (255 < p.hop)
  · have hc : hcode64 p id = 13 := by unfold hcode64; rw [if_pos (by omega)]
    rw [hout64_bad (by rw [hc]; decide), hc]
    exact rhead64_r1 p v f0 f1 f2 f3 t0 t1 t2 t3 id w n0 n1
  by_cases n2 : (p.cls < 0)
  · have hc : hcode64 p id = 13 := by unfold hcode64; rw [if_pos (by omega)]
    rw [hout64_bad (by rw [hc]; decide), hc]
    exact rhead64_r2 p v f0 f1 f2 f3 t0 t1 t2 t3 id w n0 n1 n2
  by_cases n3 : (255 < p.cls)
  · have hc : hcode64 p id = 13 := by unfold hcode64; rw [if_pos (by omega)]
    rw [hout64_bad (by rw [hc]; decide), hc]
    exact rhead64_r3 p v f0 f1 f2 f3 t0 t1 t2 t3 id w n0 n1 n2 n3
  by_cases n4 : (id < 0)
  · have hc : hcode64 p id = 13 := by unfold hcode64; rw [if_pos (by omega)]
    rw [hout64_bad (by rw [hc]; decide), hc]
    exact rhead64_r4 p v f0 f1 f2 f3 t0 t1 t2 t3 id w n0 n1 n2 n3 n4
  by_cases n5 : (65535 < id)
  · have hc : hcode64 p id = 13 := by unfold hcode64; rw [if_pos (by omega)]
    rw [hout64_bad (by rw [hc]; decide), hc]
    exact rhead64_r5 p v f0 f1 f2 f3 t0 t1 t2 t3 id w n0 n1 n2 n3 n4 n5
  have hc := hcode64_in (p := p) (id := id) n0 n1 n2 n3 n4 n5
  cases hp : prOk64 p.proto
  · have hc : hcode64 p id = 10 := by rw [hc, if_pos (.inl hp)]
    rw [hout64_bad (by rw [hc]; decide), hc]
    exact rhead64_kindp p v f0 f1 f2 f3 t0 t1 t2 t3 id w n0 n1 n2 n3 n4 n5 hp
  cases hr : rtd p.exts
  · rw [if_neg (by rw [hp, hr]; simp)] at hc
    by_cases n6 : 65535 < p.pl
    · rw [if_pos (.inl n6)] at hc
      rw [hout64_bad (by rw [hc]; decide), hc]
      exact rhead64_long1 p v f0 f1 f2 f3 t0 t1 t2 t3 id w n0 n1 n2 n3 n4 n5 hx hl hp hr n6
    by_cases n7 : 65535 < p.pl + 20 + (p.data.size : Int)
    · rw [if_pos (.inr n7)] at hc
      rw [hout64_bad (by rw [hc]; decide), hc]
      exact rhead64_long2 p v f0 f1 f2 f3 t0 t1 t2 t3 id w n0 n1 n2 n3 n4 n5 hx hl hp hr hpl hd n6 n7
    rw [if_neg (by omega)] at hc
    rw [hout64_ok hc, hc]
    cases hf : p.frag
    · by_cases hz : (p.data.size : Int) ≤ 1240
      · have e : h64 p f0 f1 f2 f3 t0 t1 t2 t3 id = ⟨p.cls, id, p.hop - 1, pr64 p.proto, 0, false, false, f0, f1, f2, f3, t0, t1, t2, t3, ⟨#[]⟩, p.data⟩ := by
          unfold h64
          rw [hf, if_neg (by simp), if_pos (by omega), if_neg (by simp), show decide (1240 < p.data.size) = false by rw [decide_eq_false_iff_not]; omega]
          rfl
        rw [e]
        exact rhead64_small p v f0 f1 f2 f3 t0 t1 t2 t3 id w n0 n1 n2 n3 n4 n5 hx hl hp hr hpl hd n6 n7 hf hz
      · have e : h64 p f0 f1 f2 f3 t0 t1 t2 t3 id = ⟨p.cls, 0, p.hop - 1, pr64 p.proto, 0, true, false, f0, f1, f2, f3, t0, t1, t2, t3, ⟨#[]⟩, p.data⟩ := by
          unfold h64
          rw [hf, if_neg (by simp), if_neg (by omega), if_neg (by simp), show decide (1240 < p.data.size) = true by rw [decide_eq_true_iff]; omega]
          rfl
        rw [e]
        exact rhead64_big p v f0 f1 f2 f3 t0 t1 t2 t3 id w n0 n1 n2 n3 n4 n5 hx hl hp hr hpl hd n6 n7 hf hz
    · have e : h64 p f0 f1 f2 f3 t0 t1 t2 t3 id = ⟨p.cls, p.id % 65536, p.hop - 1, pr64 p.proto, p.pl, false, p.more, f0, f1, f2, f3, t0, t1, t2, t3, ⟨#[]⟩, p.data⟩ := by
        unfold h64
        rw [hf, if_pos rfl, if_pos rfl]
        rfl
      rw [e]
      exact rhead64_frag p v f0 f1 f2 f3 t0 t1 t2 t3 id w n0 n1 n2 n3 n4 n5 hx hl hp hr hpl hd n6 n7 hf hi
  · rw [if_pos (.inr hr)] at hc
    rw [hout64_bad (by rw [hc]; decide), hc]
    exact rhead64_kindr p v f0 f1 f2 f3 t0 t1 t2 t3 id w n0 n1 n2 n3 n4 n5 hx hl hp hr
end Go.Proofs.Ytkihhmnlefekoaa
