/-
  Proved here: what ip6.address answers; how a packet's cells are changed one by one.
  Conditions: the reader's block is whole, and has the bytes.
-/
import Derived.Test.YtdljjcnihajchaaPk6
namespace Go.Proofs.Ytdljjcnihajchaa
open Go.RowKit

theorem all_oneCell_toArray' {l : List Value} (h : ∀ v ∈ l, v.oneCell' = true) : l.toArray.all (·.oneCell') = true := by
  rw [List.all_toArray, List.all_eq_true]
  exact h
theorem puts_mid (A B C l : List Value) (h : l.length = B.length) : puts (A ++ (B ++ C)).toArray A.length l = (A ++ (l ++ C)).toArray := by
  apply Array.toList_inj.1
  rw [puts_list _ _ _ (by simp; omega)]
  show List.take A.length (A ++ (B ++ C)) ++ l ++ List.drop (A.length + l.length) (A ++ (B ++ C)) = A ++ (l ++ C)
  rw [List.take_left' rfl, List.drop_append, List.drop_of_length_le (by omega), List.nil_append, Nat.add_sub_cancel_left, h, List.drop_left, List.append_assoc]
/-- The packet of no numbers. -/
def pk0 : Pk6 := ⟨0, 0, 0, List.replicate 16 0, List.replicate 16 0, [], false, 0, 0, false, 0, ⟨#[]⟩, rfl, rfl⟩
theorem pk0_vals : (pk0.vals (.slice none 0 0)).toArray = #[.int .i64 0, .int .i64 0, .int .i64 0, .int .u8 0, .int .u8 0, .int .u8 0, .int .u8 0, .int .u8 0, .int .u8 0, .int .u8 0, .int .u8 0, .int .u8 0, .int .u8 0, .int .u8 0, .int .u8 0, .int .u8 0, .int .u8 0, .int .u8 0, .int .u8 0, .int .u8 0, .int .u8 0, .int .u8 0, .int .u8 0, .int .u8 0, .int .u8 0, .int .u8 0, .int .u8 0, .int .u8 0, .int .u8 0, .int .u8 0, .int .u8 0, .int .u8 0, .int .u8 0, .int .u8 0, .int .u8 0, .slice none 0 0, .bool false, .int .u32 0, .int .i64 0, .bool false, .int .i64 0, .string ⟨#[]⟩] := rfl
section
variable (p : Pk6) (v : Value)
theorem vset0 (x : Int) : (p.vals v).toArray.setIfInBounds 0 (.int .i64 x) = (({ p with cls := x } : Pk6).vals v).toArray := by rw [List.setIfInBounds_toArray]; rfl
theorem vset1 (x : Int) : (p.vals v).toArray.setIfInBounds 1 (.int .i64 x) = (({ p with flow := x } : Pk6).vals v).toArray := by rw [List.setIfInBounds_toArray]; rfl
theorem vset2 (x : Int) : (p.vals v).toArray.setIfInBounds 2 (.int .i64 x) = (({ p with hop := x } : Pk6).vals v).toArray := by rw [List.setIfInBounds_toArray]; rfl
/-- The cells ahead of the tail. -/
def Pk6.front (p : Pk6) : List Value := [.int .i64 p.cls, .int .i64 p.flow, .int .i64 p.hop] ++ (bytV p.fr ++ bytV p.dst)
theorem front_len : p.front.length = 35 := by
  unfold Pk6.front
  rw [List.length_append, List.length_append, bytV_len, bytV_len, p.hfr, p.hdst]
  rfl
theorem vals_front : p.vals v = p.front ++ p.tail v := by
  unfold Pk6.vals Pk6.front
  simp only [List.append_assoc]
theorem vtail (i : Nat) (x : Value) (q : Pk6) (u : Value) (hf : q.front = p.front) (ht : (p.tail v).set i x = q.tail u) : (p.vals v).toArray.setIfInBounds (35 + i) x = (q.vals u).toArray := by
  rw [List.setIfInBounds_toArray, vals_front, vals_front, List.set_append_right _ _ (by rw [front_len]; omega), front_len, Nat.add_sub_cancel_left, ht, hf]
theorem vputs_fr (l : List UInt8) (hl : l.length = 16) : puts (p.vals v).toArray 3 (bytV l) = (({ p with fr := l, hfr := hl } : Pk6).vals v).toArray :=
  puts_mid [.int .i64 p.cls, .int .i64 p.flow, .int .i64 p.hop] (bytV p.fr) (bytV p.dst ++ p.tail v) (bytV l) (by rw [bytV_len, bytV_len, hl, p.hfr])
theorem vputs_dst (l : List UInt8) (hl : l.length = 16) : puts (p.vals v).toArray 19 (bytV l) = (({ p with dst := l, hdst := hl } : Pk6).vals v).toArray := by
  have e : ∀ (q : Pk6), q.vals v = ([.int .i64 q.cls, .int .i64 q.flow, .int .i64 q.hop] ++ bytV q.fr) ++ (bytV q.dst ++ q.tail v) := fun q => by unfold Pk6.vals; rw [List.append_assoc]
  have e2 : ([Value.int .i64 p.cls, .int .i64 p.flow, .int .i64 p.hop] ++ bytV p.fr).length = 19 := by rw [List.length_append, bytV_len, p.hfr]; rfl
  have h := puts_mid ([.int .i64 p.cls, .int .i64 p.flow, .int .i64 p.hop] ++ bytV p.fr) (bytV p.dst) (p.tail v) (bytV l) (by rw [bytV_len, bytV_len, hl, p.hdst])
  rw [e2] at h
  rw [e p, e, h]
  rfl
theorem vputs_all (q : Pk6) (u : Value) : puts (p.vals v).toArray 0 (q.vals u) = (q.vals u).toArray := puts_whole _ _ (by rw [vals_len]; have := vals_len p v; simp; omega)
end
end Go.Proofs.Ytdljjcnihajchaa
