/-
  Proved here: what becomes of a head of IPv6, plainly; what the document's Proto answers.
  Conditions: none.
-/
import Derived.Test.YtkihhmnlefekoaaFOpenPkt
import Derived.Test.YtkihhmnlefekoaaCells
import Derived.Test.YtkihhmnlefekoaaChain
import Derived.Test.YtkihhmnlefekoaaExts
namespace Go.Proofs.Ytkihhmnlefekoaa
open Go.RowKit

/-- Is there such a protocol over IPv4? -/
def prOk64 (n : Int) : Bool := n == 58 || (decide (2 < n) && (decide (n ≤ 255) && (n != 43 && (n != 44 && n != 60))))
/-- The protocol over IPv4. -/
def pr64 (n : Int) : Int := if n = 58 then 1 else if prOk64 n = true then n else 0
/-- The code of the fault that a head is. -/
def hcode64 (p : Pk6) (id : Int) : Int :=
  if p.hop < 2 ∨ 255 < p.hop ∨ p.cls < 0 ∨ 255 < p.cls ∨ id < 0 ∨ 65535 < id then 13
  else if prOk64 p.proto = false ∨ rtd p.exts = true then 10
  else if 65535 < p.pl ∨ 65535 < p.pl + 20 + (p.data.size : Int) then 3
  else 0
/-- A packet over IPv4. -/
def h64 (p : Pk6) (f0 f1 f2 f3 t0 t1 t2 t3 id : Int) : P4.Pkt :=
  ⟨p.cls, if p.frag = true then p.id % 65536 else if p.data.size ≤ 1240 then id else 0, p.hop - 1, pr64 p.proto, if p.frag = true then p.pl else 0, !p.frag && decide (1240 < p.data.size), p.frag && p.more, f0, f1, f2, f3, t0, t1, t2, t3, ⟨#[]⟩, p.data⟩
def hout64 (p : Pk6) (f0 f1 f2 f3 t0 t1 t2 t3 id : Int) : P4.Pkt := if hcode64 p id = 0 then h64 p f0 f1 f2 f3 t0 t1 t2 t3 id else P4.pkt0
theorem rproto64_c58 (n : Int) (w : World) (h : n = 58) :
    Calls Try.prog 17 #[.int .i64 n] w fun e w' => e = .returned (.tuple #[.int .i64 1, .bool true]) ∧ w = w' := by
  subst h
  go_enter Try.func17, Try.ntmps17
  go_wp2_with fail
  go_ret2
  exact ⟨rfl, rfl⟩
theorem rproto64_c43 (n : Int) (w : World) (h : n = 43) :
    Calls Try.prog 17 #[.int .i64 n] w fun e w' => e = .returned (.tuple #[.int .i64 0, .bool false]) ∧ w = w' := by
  subst h
  go_enter Try.func17, Try.ntmps17
  go_wp2_with fail
  go_ret2
  exact ⟨rfl, rfl⟩
theorem rproto64_c44 (n : Int) (w : World) (h : n = 44) :
    Calls Try.prog 17 #[.int .i64 n] w fun e w' => e = .returned (.tuple #[.int .i64 0, .bool false]) ∧ w = w' := by
  subst h
  go_enter Try.func17, Try.ntmps17
  go_wp2_with fail
  go_ret2
  exact ⟨rfl, rfl⟩
theorem rproto64_c60 (n : Int) (w : World) (h : n = 60) :
    Calls Try.prog 17 #[.int .i64 n] w fun e w' => e = .returned (.tuple #[.int .i64 0, .bool false]) ∧ w = w' := by
  subst h
  go_enter Try.func17, Try.ntmps17
  go_wp2_with fail
  go_ret2
  exact ⟨rfl, rfl⟩
theorem rproto64_less (n : Int) (w : World) (k58 : (n == 58) = false) (hn : n ≤ 2) :
    Calls Try.prog 17 #[.int .i64 n] w fun e w' => e = .returned (.tuple #[.int .i64 0, .bool false]) ∧ w = w' := by
  go_enter Try.func17, Try.ntmps17
  go_wp2_with fail
  go_ret2
  exact ⟨rfl, rfl⟩
theorem rproto64_more (n : Int) (w : World) (k58 : (n == 58) = false) (k43 : (n == 43) = false) (k44 : (n == 44) = false) (k60 : (n == 60) = false) (h0 : ¬ n ≤ 2) (hn : 255 < n) :
    Calls Try.prog 17 #[.int .i64 n] w fun e w' => e = .returned (.tuple #[.int .i64 0, .bool false]) ∧ w = w' := by
  go_enter Try.func17, Try.ntmps17
  go_wp2_with fail
  go_ret2
  exact ⟨rfl, rfl⟩
theorem rproto64_is (n : Int) (w : World) (k58 : (n == 58) = false) (k43 : (n == 43) = false) (k44 : (n == 44) = false) (k60 : (n == 60) = false) (h0 : ¬ n ≤ 2) (hn : ¬ 255 < n) :
    Calls Try.prog 17 #[.int .i64 n] w fun e w' => e = .returned (.tuple #[.int .i64 n, .bool true]) ∧ w = w' := by
  go_enter Try.func17, Try.ntmps17
  go_wp2_with fail
  go_ret2
  exact ⟨rfl, rfl⟩
theorem rproto64_any (n : Int) (w : World) :
    Calls Try.prog 17 #[.int .i64 n] w fun e w' => e = .returned (.tuple #[.int .i64 (pr64 n), .bool (prOk64 n)]) ∧ w = w' := by
  by_cases h58 : n = 58
  · have := rproto64_c58 n w h58
    rw [h58] at this ⊢
    exact this
  by_cases h43 : n = 43
  · have := rproto64_c43 n w h43
    rw [h43] at this ⊢
    exact this
  by_cases h44 : n = 44
  · have := rproto64_c44 n w h44
    rw [h44] at this ⊢
    exact this
  by_cases h60 : n = 60
  · have := rproto64_c60 n w h60
    rw [h60] at this ⊢
    exact this
  have k58 : (n == 58) = false := by rw [beq_eq_false_iff_ne]; exact h58
  have k43 : (n == 43) = false := by rw [beq_eq_false_iff_ne]; exact h43
  have k44 : (n == 44) = false := by rw [beq_eq_false_iff_ne]; exact h44
  have k60 : (n == 60) = false := by rw [beq_eq_false_iff_ne]; exact h60
  have hp : prOk64 n = (decide (2 < n) && decide (n ≤ 255)) := by unfold prOk64 bne; rw [k43, k44, k58, k60]; simp
  by_cases hn : n ≤ 2
  · have e1 : prOk64 n = false := by rw [hp, show decide (2 < n) = false by rw [decide_eq_false_iff_not]; omega]; rfl
    have e2 : pr64 n = 0 := by unfold pr64; rw [if_neg h58, e1, if_neg (by simp)]
    rw [e1, e2]
    exact rproto64_less n w k58 hn
  · by_cases h5 : 255 < n
    · have e1 : prOk64 n = false := by rw [hp, show decide (n ≤ 255) = false by rw [decide_eq_false_iff_not]; omega, Bool.and_false]
      have e2 : pr64 n = 0 := by unfold pr64; rw [if_neg h58, e1, if_neg (by simp)]
      rw [e1, e2]
      exact rproto64_more n w k58 k43 k44 k60 hn h5
    · have e1 : prOk64 n = true := by rw [hp, show decide (2 < n) = true by rw [decide_eq_true_iff]; omega, show decide (n ≤ 255) = true by rw [decide_eq_true_iff]; omega]; rfl
      have e2 : pr64 n = n := by unfold pr64; rw [if_neg h58, e1, if_pos rfl]
      rw [e1, e2]
      exact rproto64_is n w k58 k43 k44 k60 hn h5
end Go.Proofs.Ytkihhmnlefekoaa
