/-
  Proved here: what becomes of a head of IPv4, plainly; what Proto answers, the program's and the document's.
  Conditions: none.
  Proved here: how packets of IPv6 are built; what ip4.Routed answers, in layer 4's words.
  Conditions: as each fact says.
-/
import Derived.Test.YtkihhmnlefekoaaFRoute
import Derived.Test.YtkihhmnlefekoaaFOpenPkt
import Derived.Test.YtkihhmnlefekoaaCells
import Derived.Test.YtkihhmnlefekoaaChain
import Derived.Test.YtkihhmnlefekoaaSame
import Derived.Test.YtkihhmnlefekoaaRx
namespace Go.Proofs.Ytkihhmnlefekoaa
open Go.RowKit

/-- Is there such a protocol over IPv6? -/
def prOk (n : Int) : Bool := n == 1 || (decide (0 < n) && (decide (n ≤ 255) && (n != 2 && (n != 43 && (n != 44 && (n != 58 && n != 60))))))
/-- The protocol over IPv6. -/
def pr46 (n : Int) : Int := if n = 1 then 58 else if prOk n = true then n else 0
/-- The code of the fault that a head is. -/
def hcode (p : P4.Pkt) : Int :=
  if p.ttl < 2 ∨ 255 < p.ttl ∨ p.tos < 0 ∨ 255 < p.tos then 13
  else match P4.rtE p.opts.data.toList false with
    | none => 8
    | some true => 10
    | some false => if prOk p.proto = true then 0 else 10
/-- A packet over IPv6. -/
def h46 (p : P4.Pkt) (F T : List UInt8) (hF : F.length = 16) (hT : T.length = 16) : Pk6 :=
  ⟨p.tos, 0, p.ttl - 1, F, T, [], p.more || p.pl != 0, if (p.more || p.pl != 0) = true then IntKind.u32.wrap p.id else 0, p.pl, p.more, pr46 p.proto, p.data, hF, hT⟩
def hout (p : P4.Pkt) (F T : List UInt8) (hF : F.length = 16) (hT : T.length = 16) : Pk6 := if hcode p = 0 then h46 p F T hF hT else pk0
theorem hout_exts (p : P4.Pkt) (F T : List UInt8) (hF : F.length = 16) (hT : T.length = 16) : (hout p F T hF hT).exts = [] := by
  unfold hout
  split <;> rfl
theorem exs_nil (w : World) : Exs w (.slice none 0 0) [] := ⟨none, 0, rfl, fun i hi => by cases hi⟩
theorem proto_c1 (n : Int) (w : World) (h : n = 1) :
    Calls Try.prog 22 #[.int .i64 n] w fun e w' => e = .returned (.tuple #[.int .i64 58, .bool true]) ∧ w = w' := by
  subst h
  go_enter Try.func22, Try.ntmps22
  go_wp2_with fail
  go_ret2
  exact ⟨rfl, rfl⟩
theorem proto_c0 (n : Int) (w : World) (h : n = 0) :
    Calls Try.prog 22 #[.int .i64 n] w fun e w' => e = .returned (.tuple #[.int .i64 0, .bool false]) ∧ w = w' := by
  subst h
  go_enter Try.func22, Try.ntmps22
  go_wp2_with fail
  go_ret2
  exact ⟨rfl, rfl⟩
theorem proto_c2 (n : Int) (w : World) (h : n = 2) :
    Calls Try.prog 22 #[.int .i64 n] w fun e w' => e = .returned (.tuple #[.int .i64 0, .bool false]) ∧ w = w' := by
  subst h
  go_enter Try.func22, Try.ntmps22
  go_wp2_with fail
  go_ret2
  exact ⟨rfl, rfl⟩
theorem proto_c43 (n : Int) (w : World) (h : n = 43) :
    Calls Try.prog 22 #[.int .i64 n] w fun e w' => e = .returned (.tuple #[.int .i64 0, .bool false]) ∧ w = w' := by
  subst h
  go_enter Try.func22, Try.ntmps22
  go_wp2_with fail
  go_ret2
  exact ⟨rfl, rfl⟩
theorem proto_c44 (n : Int) (w : World) (h : n = 44) :
    Calls Try.prog 22 #[.int .i64 n] w fun e w' => e = .returned (.tuple #[.int .i64 0, .bool false]) ∧ w = w' := by
  subst h
  go_enter Try.func22, Try.ntmps22
  go_wp2_with fail
  go_ret2
  exact ⟨rfl, rfl⟩
theorem proto_c58 (n : Int) (w : World) (h : n = 58) :
    Calls Try.prog 22 #[.int .i64 n] w fun e w' => e = .returned (.tuple #[.int .i64 0, .bool false]) ∧ w = w' := by
  subst h
  go_enter Try.func22, Try.ntmps22
  go_wp2_with fail
  go_ret2
  exact ⟨rfl, rfl⟩
theorem proto_c60 (n : Int) (w : World) (h : n = 60) :
    Calls Try.prog 22 #[.int .i64 n] w fun e w' => e = .returned (.tuple #[.int .i64 0, .bool false]) ∧ w = w' := by
  subst h
  go_enter Try.func22, Try.ntmps22
  go_wp2_with fail
  go_ret2
  exact ⟨rfl, rfl⟩
theorem proto_less (n : Int) (w : World) (k0 : (n == 0) = false) (k1 : (n == 1) = false) (k2 : (n == 2) = false) (k43 : (n == 43) = false) (k44 : (n == 44) = false) (k58 : (n == 58) = false) (k60 : (n == 60) = false) (hn : n < 0) :
    Calls Try.prog 22 #[.int .i64 n] w fun e w' => e = .returned (.tuple #[.int .i64 0, .bool false]) ∧ w = w' := by
  go_enter Try.func22, Try.ntmps22
  go_wp2_with fail
  go_ret2
  exact ⟨rfl, rfl⟩
theorem proto_more (n : Int) (w : World) (k0 : (n == 0) = false) (k1 : (n == 1) = false) (k2 : (n == 2) = false) (k43 : (n == 43) = false) (k44 : (n == 44) = false) (k58 : (n == 58) = false) (k60 : (n == 60) = false) (h0 : ¬ n < 0) (hn : 255 < n) :
    Calls Try.prog 22 #[.int .i64 n] w fun e w' => e = .returned (.tuple #[.int .i64 0, .bool false]) ∧ w = w' := by
  go_enter Try.func22, Try.ntmps22
  go_wp2_with fail
  go_ret2
  exact ⟨rfl, rfl⟩
theorem proto_is (n : Int) (w : World) (k0 : (n == 0) = false) (k1 : (n == 1) = false) (k2 : (n == 2) = false) (k43 : (n == 43) = false) (k44 : (n == 44) = false) (k58 : (n == 58) = false) (k60 : (n == 60) = false) (h0 : ¬ n < 0) (hn : ¬ 255 < n) :
    Calls Try.prog 22 #[.int .i64 n] w fun e w' => e = .returned (.tuple #[.int .i64 n, .bool true]) ∧ w = w' := by
  go_enter Try.func22, Try.ntmps22
  go_wp2_with fail
  go_ret2
  exact ⟨rfl, rfl⟩
theorem proto_any (n : Int) (w : World) :
    Calls Try.prog 22 #[.int .i64 n] w fun e w' => e = .returned (.tuple #[.int .i64 (pr46 n), .bool (prOk n)]) ∧ w = w' := by
  by_cases h1 : n = 1
  · have := proto_c1 n w h1
    rw [h1] at this ⊢
    exact this
  by_cases h0 : n = 0
  · have := proto_c0 n w h0
    rw [h0] at this ⊢
    exact this
  by_cases h2 : n = 2
  · have := proto_c2 n w h2
    rw [h2] at this ⊢
    exact this
  by_cases h43 : n = 43
  · have := proto_c43 n w h43
    rw [h43] at this ⊢
    exact this
  by_cases h44 : n = 44
  · have := proto_c44 n w h44
    rw [h44] at this ⊢
    exact this
  by_cases h58 : n = 58
  · have := proto_c58 n w h58
    rw [h58] at this ⊢
    exact this
  by_cases h60 : n = 60
  · have := proto_c60 n w h60
    rw [h60] at this ⊢
    exact this
  have k1 : (n == 1) = false := by rw [beq_eq_false_iff_ne]; exact h1
  have k0 : (n == 0) = false := by rw [beq_eq_false_iff_ne]; exact h0
  have k2 : (n == 2) = false := by rw [beq_eq_false_iff_ne]; exact h2
  have k43 : (n == 43) = false := by rw [beq_eq_false_iff_ne]; exact h43
  have k44 : (n == 44) = false := by rw [beq_eq_false_iff_ne]; exact h44
  have k58 : (n == 58) = false := by rw [beq_eq_false_iff_ne]; exact h58
  have k60 : (n == 60) = false := by rw [beq_eq_false_iff_ne]; exact h60
  have hp : prOk n = (decide (0 < n) && decide (n ≤ 255)) := by unfold prOk bne; rw [k1, k2, k43, k44, k58, k60]; simp
  by_cases hn : n < 0
  · have e1 : prOk n = false := by rw [hp, show decide (0 < n) = false by rw [decide_eq_false_iff_not]; omega]; rfl
    have e2 : pr46 n = 0 := by unfold pr46; rw [if_neg h1, e1, if_neg (by simp)]
    rw [e1, e2]
    exact proto_less n w k0 k1 k2 k43 k44 k58 k60 hn
  · by_cases h5 : 255 < n
    · have e1 : prOk n = false := by rw [hp, show decide (n ≤ 255) = false by rw [decide_eq_false_iff_not]; omega, Bool.and_false]
      have e2 : pr46 n = 0 := by unfold pr46; rw [if_neg h1, e1, if_neg (by simp)]
      rw [e1, e2]
      exact proto_more n w k0 k1 k2 k43 k44 k58 k60 hn h5
    · have e1 : prOk n = true := by rw [hp, show decide (0 < n) = true by rw [decide_eq_true_iff]; omega, show decide (n ≤ 255) = true by rw [decide_eq_true_iff]; omega]; rfl
      have e2 : pr46 n = n := by unfold pr46; rw [if_neg h1, e1, if_pos rfl]
      rw [e1, e2]
      exact proto_is n w k0 k1 k2 k43 k44 k58 k60 hn h5
theorem Try.execZ6 (ρ : Operand → Value) (d : Option Tmp) (ty : TypeId) (ps : String) (af : Array Edge) (w : World) : (execOp ρ { dst := d, op := .build 35 #[], type := ty, pos := ps, after := af, guard := none }).run Try.prog w = .ok (.value (.agg (pk0.vals (.slice none 0 0)).toArray)) w := by kernel_rfl
theorem buildZ (w : World) : (Instr.build 35 #[]).run Try.prog w = .ok (.agg (pk0.vals (.slice none 0 0)).toArray) w := by kernel_rfl
theorem buildH (x h pr : Int) (d : ByteArray) (F T : List UInt8) (hF : F.length = 16) (hT : T.length = 16) (w : World) : (Instr.build 35 #[(0, .int .i64 x), (2, .int .i64 h), (3, .agg (bytV F).toArray), (4, .agg (bytV T).toArray), (10, .int .i64 pr), (11, .string d)]).run Try.prog w = .ok (.agg ((⟨x, 0, h, F, T, [], false, 0, 0, false, pr, d, hF, hT⟩ : Pk6).vals (.slice none 0 0)).toArray) w := by
  obtain ⟨x0, x1, x2, x3, x4, x5, x6, x7, x8, x9, x10, x11, x12, x13, x14, x15, rfl⟩ := list16u hF
  obtain ⟨y0, y1, y2, y3, y4, y5, y6, y7, y8, y9, y10, y11, y12, y13, y14, y15, rfl⟩ := list16u hT
  kernel_rfl
theorem rtd_none (s : ByteArray) (w : World) (h : P4.rtE s.data.toList false = none) : Calls Try.prog 42 #[.string s] w (Bad (.bool false) 8 w) := by
  have := P4.routed_any s w
  rw [h] at this
  exact this
theorem rtd_some (s : ByteArray) (b : Bool) (w : World) (h : P4.rtE s.data.toList false = some b) : Calls Try.prog 42 #[.string s] w fun e w' => e = .returned (.tuple #[.bool b, .nilIface]) ∧ Below w.heap.size w w' := by
  have := P4.routed_any s w
  rw [h] at this
  exact this
end Go.Proofs.Ytkihhmnlefekoaa
