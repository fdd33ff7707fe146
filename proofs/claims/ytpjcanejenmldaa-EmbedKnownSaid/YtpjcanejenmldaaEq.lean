/-
  Proved here: addresses and prefixes are the same just if their bytes and lengths are.
  Conditions: addresses of 16 and of 4 bytes.
-/
import Derived.Test.YtpjcanejenmldaaNet
import Derived.Laws.StructEq
import Derived.ChangeKeysEq
namespace Go.Proofs.Ytpjcanejenmldaa
open Go.RowKit

theorem Try.aggU8 (w : World) : (Go.isAgg 5).run Try.prog w = .ok false w := by kernel_rfl
theorem Try.cellsU8 : Try.prog.cellsOf 5 = 1 := by kernel_rfl
theorem part_b8 (l : List Int) (j : Nat) (h : j < l.length) (w : World) : (part 5 (b8 l).toArray j).run Try.prog w = .ok (.int .u8 (l.getD j 0)) w := by
  unfold part
  rw [Sem.run_bind, Try.aggU8]
  have e : (b8 l).toArray[j]? = some (.int .u8 (l.getD j 0)) := by
    rw [List.getElem?_toArray]
    exact b8_at l j h
  simp [e]
theorem items_b8 (d : Nat) (l m : List Int) (w : World) (is : List Nat) : (∀ j ∈ is, j < l.length) → (∀ j ∈ is, j < m.length) → (Op.eqItems (d + 1) 5 1 (b8 l).toArray (b8 m).toArray is).run Try.prog w = .ok (is.all fun j => l.getD j 0 == m.getD j 0) w := by
  induction is with
  | nil => intro _ _; simp [Op.eqItems]
  | cons j r ih =>
    intro hl hm
    have hp := part_b8 l j (hl j (by simp)) w
    have hq := part_b8 m j (hm j (by simp)) w
    have hn := run_equalIn_int (P := Try.prog) w d 5 .u8 .u8 (l.getD j 0) (m.getD j 0) Try.underlying5
    have hr := ih (fun x hx => hl x (by simp [hx])) (fun x hx => hm x (by simp [hx]))
    have hc : ((j :: r).all fun j => l.getD j 0 == m.getD j 0) = ((l.getD j 0 == m.getD j 0) && r.all fun j => l.getD j 0 == m.getD j 0) := rfl
    rw [hc]
    generalize (r.all fun j => l.getD j 0 == m.getD j 0) = R at *
    generalize l.getD j 0 = a at *
    generalize m.getD j 0 = b at *
    simp only [Op.eqItems, Nat.mul_one, Sem.run_bind, hp, hq, hn, Result.andThen_ok]
    cases (a == b)
    · simp
    · simp [hr]
theorem all_same (l m : List Int) (h : l.length = m.length) : ((List.range l.length).all fun j => l.getD j 0 == m.getD j 0) = (l == m) := by
  rw [Bool.eq_iff_iff]
  simp only [List.all_eq_true, List.mem_range, beq_iff_eq]
  constructor
  · intro hx
    apply List.ext_getElem h
    intro i h1 h2
    have := hx i h1
    rwa [List.getD_eq_getElem?_getD, List.getD_eq_getElem?_getD, List.getElem?_eq_getElem h1, List.getElem?_eq_getElem h2] at this
  · rintro rfl j _
    rfl
theorem in_b8 (d n : Nat) (T : TypeId) (hu : Try.prog.underlying T = some (.array n 5)) (l m : List Int) (hl : l.length = n) (hm : m.length = n) (w : World) : (Op.equalIn (d + 1 + 1) T (.agg (b8 l).toArray) (.agg (b8 m).toArray)).run Try.prog w = .ok (l == m) w := by
  obtain ⟨i0, hi, _, _, _⟩ := info_parts (show (Try.prog.info? 5).map (fun i => (i.zero, i.size, i.bytes)) = some (some (.int .u8 0), 1, 1) by kernel_rfl)
  rw [run_equalIn_array w (d + 1) _ _ hu hi, Try.cellsU8, items_b8 d l m w _ (fun j hj => by rw [hl]; exact List.mem_range.1 hj) (fun j hj => by rw [hm]; exact List.mem_range.1 hj), ← hl, all_same l m (by omega)]
theorem eq6 (l m : List Int) (hl : l.length = 16) (hm : m.length = 16) (w : World) : (binOp .eql 23 (.agg (b8 l).toArray) (.agg (b8 m).toArray)).run Try.prog w = .ok (.bool (l == m)) w := by
  rw [run_eql_struct, in_b8 9998 16 23 Try.underlying23 l m hl hm w]
  rfl
theorem neq6 (l m : List Int) (hl : l.length = 16) (hm : m.length = 16) (w : World) : (binOp .neq 23 (.agg (b8 l).toArray) (.agg (b8 m).toArray)).run Try.prog w = .ok (.bool (!(l == m))) w := by
  rw [run_neq_struct, in_b8 9998 16 23 Try.underlying23 l m hl hm w]
  rfl
theorem eq4 (l m : List Int) (hl : l.length = 4) (hm : m.length = 4) (w : World) : (binOp .eql 31 (.agg (b8 l).toArray) (.agg (b8 m).toArray)).run Try.prog w = .ok (.bool (l == m)) w := by
  rw [run_eql_struct, in_b8 9998 4 31 Try.underlying31 l m hl hm w]
  rfl
theorem neq4 (l m : List Int) (hl : l.length = 4) (hm : m.length = 4) (w : World) : (binOp .neq 31 (.agg (b8 l).toArray) (.agg (b8 m).toArray)).run Try.prog w = .ok (.bool (!(l == m))) w := by
  rw [run_neq_struct, in_b8 9998 4 31 Try.underlying31 l m hl hm w]
  rfl
theorem Try.heldNet : Try.prog.stoodInHeld 26 = false := by kernel_rfl
theorem Try.fieldsNet : Try.prog.underlying 26 = some (.struct (Try.prog.fieldsOf 26)) := by kernel_rfl
theorem Try.aggSix (w : World) : (Go.isAgg 23).run Try.prog w = .ok true w := by kernel_rfl
theorem Try.aggInt (w : World) : (Go.isAgg 3).run Try.prog w = .ok false w := by kernel_rfl
theorem Try.sizeSix (w : World) : (Go.sizeOf 23).run Try.prog w = .ok 16 w := by kernel_rfl
theorem part_ad (p : Nt) (hp : p.ad.length = 16) (w : World) : (part 23 p.vals.toArray 0).run Try.prog w = .ok (.agg (b8 p.ad).toArray) w := by
  unfold part
  rw [Sem.run_bind, Try.aggSix]
  simp only [Result.andThen_ok, if_true, Sem.run_bind, Try.sizeSix, Sem.run_pure]
  congr 2
  apply Array.toList_inj.1
  rw [Array.toList_extract, List.extract_eq_take_drop, List.drop_zero]
  exact nvals_ad p hp
theorem part_ln (p : Nt) (hp : p.ad.length = 16) (w : World) : (part 3 p.vals.toArray 16).run Try.prog w = .ok (.int .i64 p.ln) w := by
  unfold part
  rw [Sem.run_bind, Try.aggInt]
  have e : p.vals.toArray[16]? = some (.int .i64 p.ln) := by
    rw [List.getElem?_toArray]
    exact nvals_ln p hp
  simp [e]
theorem fields_two {P : Program} (w : World) (d : Nat) (xs ys : Array Value) (f0 f1 : Field) (h0 : f0.name ≠ "_") (h1 : f1.name ≠ "_") (a0 b0 a1 b1 : Value) (R S : Bool)
    (p0 : (part f0.type xs f0.offset).run P w = .ok a0 w) (q0 : (part f0.type ys f0.offset).run P w = .ok b0 w) (e0 : (Op.equalIn d f0.type a0 b0).run P w = .ok R w)
    (p1 : (part f1.type xs f1.offset).run P w = .ok a1 w) (q1 : (part f1.type ys f1.offset).run P w = .ok b1 w) (e1 : (Op.equalIn d f1.type a1 b1).run P w = .ok S w) : (Op.eqFields d xs ys [f0, f1]).run P w = .ok (R && S) w := by
  cases R
  · simp [Op.eqFields, h0, p0, q0, e0]
  · cases S
    · simp [Op.eqFields, h0, h1, p0, q0, e0, p1, q1, e1]
    · simp [Op.eqFields, h0, h1, p0, q0, e0, p1, q1, e1]
theorem Try.fieldsTwo : ∃ f0 f1, (Try.prog.fieldsOf 26).toList = [f0, f1] ∧ f0.name ≠ "_" ∧ f1.name ≠ "_" ∧ f0.type = 23 ∧ f0.offset = 0 ∧ f1.type = 3 ∧ f1.offset = 16 := by
  unfold Program.fieldsOf
  rw [Try.underlying26]
  exact ⟨_, _, rfl, by decide, by decide, rfl, rfl, rfl, rfl⟩
theorem inN (d : Nat) (p q : Nt) (hp : p.ad.length = 16) (hq : q.ad.length = 16) (w : World) : (Op.equalIn (d + 1 + 1 + 1) 26 (.agg p.vals.toArray) (.agg q.vals.toArray)).run Try.prog w = .ok (p.ad == q.ad && p.ln == q.ln) w := by
  obtain ⟨f0, f1, hf, h0, h1, t0, o0, t1, o1⟩ := Try.fieldsTwo
  rw [run_equalIn_struct w (d + 1 + 1) 26 _ _ Try.fieldsNet Try.heldNet, hf]
  refine fields_two w (d + 1 + 1) _ _ f0 f1 h0 h1 (.agg (b8 p.ad).toArray) (.agg (b8 q.ad).toArray) (.int .i64 p.ln) (.int .i64 q.ln) (p.ad == q.ad) (p.ln == q.ln) ?_ ?_ ?_ ?_ ?_ ?_
  · rw [t0, o0]; exact part_ad p hp w
  · rw [t0, o0]; exact part_ad q hq w
  · rw [t0]; exact in_b8 d 16 23 Try.underlying23 p.ad q.ad hp hq w
  · rw [t1, o1]; exact part_ln p hp w
  · rw [t1, o1]; exact part_ln q hq w
  · rw [t1]; exact run_equalIn_int (P := Try.prog) w (d + 1) 3 .i64 .i64 p.ln q.ln Try.underlying3
theorem neqN (p q : Nt) (hp : p.ad.length = 16) (hq : q.ad.length = 16) (w : World) : (binOp .neq 26 (.agg p.vals.toArray) (.agg q.vals.toArray)).run Try.prog w = .ok (.bool (!(p.ad == q.ad && p.ln == q.ln))) w := by
  rw [run_neq_struct, inN 9997 p q hp hq w]
  rfl
end Go.Proofs.Ytpjcanejenmldaa
