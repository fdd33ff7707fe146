/-
  Proved here: addresses and prefixes are the same just if their bytes and lengths are.
  Conditions: addresses of 4 and of 16 bytes.
-/
import Derived.Test.YtkdplnbabelkoaaDoorHeld
import Derived.Laws.StructEq
import Derived.ChangeKeysEq
namespace Go.Proofs.YtkdplnbabelkoaaDoor
open Go.RowKit

theorem Tryd.aggU8 (w : World) : (Go.isAgg 5).run Tryd.prog w = .ok false w := by kernel_rfl
theorem Tryd.cellsU8 : Tryd.prog.cellsOf 5 = 1 := by kernel_rfl
theorem part_b8 (l : List Int) (j : Nat) (h : j < l.length) (w : World) : (part 5 (b8 l).toArray j).run Tryd.prog w = .ok (.int .u8 (l.getD j 0)) w := by
  unfold part
  rw [Sem.run_bind, Tryd.aggU8]
  have e : (b8 l).toArray[j]? = some (.int .u8 (l.getD j 0)) := by
    rw [List.getElem?_toArray]
    exact b8_at l j h
  simp [e]
theorem items_b8 (d : Nat) (l m : List Int) (w : World) (is : List Nat) : (∀ j ∈ is, j < l.length) → (∀ j ∈ is, j < m.length) → (Op.eqItems (d + 1) 5 1 (b8 l).toArray (b8 m).toArray is).run Tryd.prog w = .ok (is.all fun j => l.getD j 0 == m.getD j 0) w := by
  induction is with
  | nil => intro _ _; simp [Op.eqItems]
  | cons j r ih =>
    intro hl hm
    have hp := part_b8 l j (hl j (by simp)) w
    have hq := part_b8 m j (hm j (by simp)) w
    have hn := run_equalIn_int (P := Tryd.prog) w d 5 .u8 .u8 (l.getD j 0) (m.getD j 0) Tryd.underlying5
    have hr := ih (fun x hx => hl x (by simp [hx])) (fun x hx => hm x (by simp [hx]))
    have hc : ((j :: r).all fun j => l.getD j 0 == m.getD j 0) = ((l.getD j 0 == m.getD j 0) && r.all fun j => l.getD j 0 == m.getD j 0) := rfl
    rw [hc]
    generalize (r.all fun j => l.getD j 0 == m.getD j 0) = R at *
    generalize l.getD j 0 = a at *
    generalize m.getD j 0 = b at *
    simp only [Op.eqItems, Nat.mul_one, Sem.run_bind, hp, hq, hn, Result.andThen_ok]
    cases (a == b)
    · simp
    · simp [hr]
theorem all_same (l m : List Int) (h : l.length = m.length) : ((List.range l.length).all fun j => l.getD j 0 == m.getD j 0) = (l == m) := by
  rw [Bool.eq_iff_iff]
  simp only [List.all_eq_true, List.mem_range, beq_iff_eq]
  constructor
  · intro hx
    apply List.ext_getElem h
    intro i h1 h2
    have := hx i h1
    rwa [List.getD_eq_getElem?_getD, List.getD_eq_getElem?_getD, List.getElem?_eq_getElem h1, List.getElem?_eq_getElem h2] at this
  · rintro rfl j _
    rfl
theorem in_b8 (d n : Nat) (T : TypeId) (hu : Tryd.prog.underlying T = some (.array n 5)) (l m : List Int) (hl : l.length = n) (hm : m.length = n) (w : World) : (Op.equalIn (d + 1 + 1) T (.agg (b8 l).toArray) (.agg (b8 m).toArray)).run Tryd.prog w = .ok (l == m) w := by
  obtain ⟨i0, hi, _, _, _⟩ := info_parts (show (Tryd.prog.info? 5).map (fun i => (i.zero, i.size, i.bytes)) = some (some (.int .u8 0), 1, 1) by kernel_rfl)
  rw [run_equalIn_array w (d + 1) _ _ hu hi, Tryd.cellsU8, items_b8 d l m w _ (fun j hj => by rw [hl]; exact List.mem_range.1 hj) (fun j hj => by rw [hm]; exact List.mem_range.1 hj), ← hl, all_same l m (by omega)]
/-- Bytes as numbers. -/
def iu (l : List UInt8) : List Int := l.map fun c => (c.toNat : Int)
theorem iu_len (l : List UInt8) : (iu l).length = l.length := by simp [iu]
theorem bu_b8 (l : List UInt8) : bu l = b8 (iu l) := by unfold bu b8 iu; rw [List.map_map]; rfl
theorem iu_eq (l m : List UInt8) : (iu l == iu m) = decide (l = m) := by
  rw [Bool.eq_iff_iff, beq_iff_eq, decide_eq_true_eq]
  constructor
  · intro h
    unfold iu at h
    exact (List.map_inj_right (fun a b hab => UInt8.toNat_inj.mp (by omega))).mp h
  · intro h; rw [h]
theorem fields_two {P : Program} (w : World) (d : Nat) (xs ys : Array Value) (f0 f1 : Field) (h0 : f0.name ≠ "_") (h1 : f1.name ≠ "_") (a0 b0 a1 b1 : Value) (R S : Bool)
    (p0 : (part f0.type xs f0.offset).run P w = .ok a0 w) (q0 : (part f0.type ys f0.offset).run P w = .ok b0 w) (e0 : (Op.equalIn d f0.type a0 b0).run P w = .ok R w)
    (p1 : (part f1.type xs f1.offset).run P w = .ok a1 w) (q1 : (part f1.type ys f1.offset).run P w = .ok b1 w) (e1 : (Op.equalIn d f1.type a1 b1).run P w = .ok S w) : (Op.eqFields d xs ys [f0, f1]).run P w = .ok (R && S) w := by
  cases R
  · simp [Op.eqFields, h0, p0, q0, e0]
  · cases S
    · simp [Op.eqFields, h0, h1, p0, q0, e0, p1, q1, e1]
    · simp [Op.eqFields, h0, h1, p0, q0, e0, p1, q1, e1]
theorem inU4 (d : Nat) (l m : List UInt8) (hl : l.length = 4) (hm : m.length = 4) (w : World) : (Op.equalIn (d + 1 + 1) 28 (.agg (bu l).toArray) (.agg (bu m).toArray)).run Tryd.prog w = .ok (decide (l = m)) w := by
  rw [bu_b8, bu_b8, in_b8 d 4 28 Tryd.underlying28 (iu l) (iu m) (by rw [iu_len, hl]) (by rw [iu_len, hm]) w, iu_eq]
theorem equ4 (l m : List UInt8) (hl : l.length = 4) (hm : m.length = 4) (w : World) : (binOp .eql 28 (.agg (bu l).toArray) (.agg (bu m).toArray)).run Tryd.prog w = .ok (.bool (decide (l = m))) w := by
  rw [run_eql_struct, inU4 9998 l m hl hm w]
  rfl
theorem nequ4 (l m : List UInt8) (hl : l.length = 4) (hm : m.length = 4) (w : World) : (binOp .neq 28 (.agg (bu l).toArray) (.agg (bu m).toArray)).run Tryd.prog w = .ok (.bool (!decide (l = m))) w := by
  rw [run_neq_struct, inU4 9998 l m hl hm w]
  rfl
theorem Tryd.heldNet4 : Tryd.prog.stoodInHeld 32 = false := by kernel_rfl
theorem Tryd.fieldsNet4 : Tryd.prog.underlying 32 = some (.struct (Tryd.prog.fieldsOf 32)) := by kernel_rfl
theorem Tryd.agg4 (w : World) : (Go.isAgg 28).run Tryd.prog w = .ok true w := by kernel_rfl
theorem Tryd.aggInt4 (w : World) : (Go.isAgg 3).run Tryd.prog w = .ok false w := by kernel_rfl
theorem Tryd.size4 (w : World) : (Go.sizeOf 28).run Tryd.prog w = .ok 4 w := by kernel_rfl
theorem part_ad4 (p : Nn) (hp : p.ad.length = 4) (w : World) : (part 28 p.vals.toArray 0).run Tryd.prog w = .ok (.agg (bu p.ad).toArray) w := by
  unfold part
  rw [Sem.run_bind, Tryd.agg4]
  simp only [Result.andThen_ok, if_true, Sem.run_bind, Tryd.size4, Sem.run_pure]
  congr 2
  apply Array.toList_inj.1
  rw [Array.toList_extract, List.extract_eq_take_drop, List.drop_zero]
  unfold Nn.vals
  show List.take (0 + 4 - 0) (bu p.ad ++ [.int .i64 p.ln]) = bu p.ad
  rw [List.take_append_of_le_length (by rw [bu_len, hp]; exact Nat.le_refl _)]
  exact List.take_of_length_le (by rw [bu_len, hp]; exact Nat.le_refl _)
theorem part_ln4 (p : Nn) (hp : p.ad.length = 4) (w : World) : (part 3 p.vals.toArray 4).run Tryd.prog w = .ok (.int .i64 p.ln) w := by
  unfold part
  rw [Sem.run_bind, Tryd.aggInt4]
  have e : p.vals.toArray[4]? = some (.int .i64 p.ln) := by
    rw [List.getElem?_toArray]
    have := nn_ln p
    rwa [hp] at this
  simp [e]
theorem Tryd.fieldsTwo4 : ∃ f0 f1, (Tryd.prog.fieldsOf 32).toList = [f0, f1] ∧ f0.name ≠ "_" ∧ f1.name ≠ "_" ∧ f0.type = 28 ∧ f0.offset = 0 ∧ f1.type = 3 ∧ f1.offset = 4 := by
  unfold Program.fieldsOf
  rw [Tryd.underlying32]
  exact ⟨_, _, rfl, by decide, by decide, rfl, rfl, rfl, rfl⟩
theorem inN4 (d : Nat) (p q : Nn) (hp : p.ad.length = 4) (hq : q.ad.length = 4) (w : World) : (Op.equalIn (d + 1 + 1 + 1) 32 (.agg p.vals.toArray) (.agg q.vals.toArray)).run Tryd.prog w = .ok (decide (p.ad = q.ad) && p.ln == q.ln) w := by
  obtain ⟨f0, f1, hf, h0, h1, t0, o0, t1, o1⟩ := Tryd.fieldsTwo4
  rw [run_equalIn_struct w (d + 1 + 1) 32 _ _ Tryd.fieldsNet4 Tryd.heldNet4, hf]
  refine fields_two w (d + 1 + 1) _ _ f0 f1 h0 h1 (.agg (bu p.ad).toArray) (.agg (bu q.ad).toArray) (.int .i64 p.ln) (.int .i64 q.ln) (decide (p.ad = q.ad)) (p.ln == q.ln) ?_ ?_ ?_ ?_ ?_ ?_
  · rw [t0, o0]; exact part_ad4 p hp w
  · rw [t0, o0]; exact part_ad4 q hq w
  · rw [t0]; exact inU4 d p.ad q.ad hp hq w
  · rw [t1, o1]; exact part_ln4 p hp w
  · rw [t1, o1]; exact part_ln4 q hq w
  · rw [t1]; exact run_equalIn_int (P := Tryd.prog) w (d + 1) 3 .i64 .i64 p.ln q.ln Tryd.underlying3
theorem eqN4 (p q : Nn) (hp : p.ad.length = 4) (hq : q.ad.length = 4) (w : World) : (binOp .eql 32 (.agg p.vals.toArray) (.agg q.vals.toArray)).run Tryd.prog w = .ok (.bool (decide (p.ad = q.ad) && p.ln == q.ln)) w := by
  rw [run_eql_struct, inN4 9997 p q hp hq w]
  rfl
theorem neqN4 (p q : Nn) (hp : p.ad.length = 4) (hq : q.ad.length = 4) (w : World) : (binOp .neq 32 (.agg p.vals.toArray) (.agg q.vals.toArray)).run Tryd.prog w = .ok (.bool (!(decide (p.ad = q.ad) && p.ln == q.ln))) w := by
  rw [run_neq_struct, inN4 9997 p q hp hq w]
  rfl
theorem inU6 (d : Nat) (l m : List UInt8) (hl : l.length = 16) (hm : m.length = 16) (w : World) : (Op.equalIn (d + 1 + 1) 24 (.agg (bu l).toArray) (.agg (bu m).toArray)).run Tryd.prog w = .ok (decide (l = m)) w := by
  rw [bu_b8, bu_b8, in_b8 d 16 24 Tryd.underlying24 (iu l) (iu m) (by rw [iu_len, hl]) (by rw [iu_len, hm]) w, iu_eq]
theorem equ6 (l m : List UInt8) (hl : l.length = 16) (hm : m.length = 16) (w : World) : (binOp .eql 24 (.agg (bu l).toArray) (.agg (bu m).toArray)).run Tryd.prog w = .ok (.bool (decide (l = m))) w := by
  rw [run_eql_struct, inU6 9998 l m hl hm w]
  rfl
theorem nequ6 (l m : List UInt8) (hl : l.length = 16) (hm : m.length = 16) (w : World) : (binOp .neq 24 (.agg (bu l).toArray) (.agg (bu m).toArray)).run Tryd.prog w = .ok (.bool (!decide (l = m))) w := by
  rw [run_neq_struct, inU6 9998 l m hl hm w]
  rfl
theorem Tryd.heldNet6 : Tryd.prog.stoodInHeld 36 = false := by kernel_rfl
theorem Tryd.fieldsNet6 : Tryd.prog.underlying 36 = some (.struct (Tryd.prog.fieldsOf 36)) := by kernel_rfl
theorem Tryd.agg6 (w : World) : (Go.isAgg 24).run Tryd.prog w = .ok true w := by kernel_rfl
theorem Tryd.aggInt6 (w : World) : (Go.isAgg 3).run Tryd.prog w = .ok false w := by kernel_rfl
theorem Tryd.size6 (w : World) : (Go.sizeOf 24).run Tryd.prog w = .ok 16 w := by kernel_rfl
theorem part_ad6 (p : Nn) (hp : p.ad.length = 16) (w : World) : (part 24 p.vals.toArray 0).run Tryd.prog w = .ok (.agg (bu p.ad).toArray) w := by
  unfold part
  rw [Sem.run_bind, Tryd.agg6]
  simp only [Result.andThen_ok, if_true, Sem.run_bind, Tryd.size6, Sem.run_pure]
  congr 2
  apply Array.toList_inj.1
  rw [Array.toList_extract, List.extract_eq_take_drop, List.drop_zero]
  unfold Nn.vals
  show List.take (0 + 16 - 0) (bu p.ad ++ [.int .i64 p.ln]) = bu p.ad
  rw [List.take_append_of_le_length (by rw [bu_len, hp]; exact Nat.le_refl _)]
  exact List.take_of_length_le (by rw [bu_len, hp]; exact Nat.le_refl _)
theorem part_ln6 (p : Nn) (hp : p.ad.length = 16) (w : World) : (part 3 p.vals.toArray 16).run Tryd.prog w = .ok (.int .i64 p.ln) w := by
  unfold part
  rw [Sem.run_bind, Tryd.aggInt6]
  have e : p.vals.toArray[16]? = some (.int .i64 p.ln) := by
    rw [List.getElem?_toArray]
    have := nn_ln p
    rwa [hp] at this
  simp [e]
theorem Tryd.fieldsTwo6 : ∃ f0 f1, (Tryd.prog.fieldsOf 36).toList = [f0, f1] ∧ f0.name ≠ "_" ∧ f1.name ≠ "_" ∧ f0.type = 24 ∧ f0.offset = 0 ∧ f1.type = 3 ∧ f1.offset = 16 := by
  unfold Program.fieldsOf
  rw [Tryd.underlying36]
  exact ⟨_, _, rfl, by decide, by decide, rfl, rfl, rfl, rfl⟩
theorem inN6 (d : Nat) (p q : Nn) (hp : p.ad.length = 16) (hq : q.ad.length = 16) (w : World) : (Op.equalIn (d + 1 + 1 + 1) 36 (.agg p.vals.toArray) (.agg q.vals.toArray)).run Tryd.prog w = .ok (decide (p.ad = q.ad) && p.ln == q.ln) w := by
  obtain ⟨f0, f1, hf, h0, h1, t0, o0, t1, o1⟩ := Tryd.fieldsTwo6
  rw [run_equalIn_struct w (d + 1 + 1) 36 _ _ Tryd.fieldsNet6 Tryd.heldNet6, hf]
  refine fields_two w (d + 1 + 1) _ _ f0 f1 h0 h1 (.agg (bu p.ad).toArray) (.agg (bu q.ad).toArray) (.int .i64 p.ln) (.int .i64 q.ln) (decide (p.ad = q.ad)) (p.ln == q.ln) ?_ ?_ ?_ ?_ ?_ ?_
  · rw [t0, o0]; exact part_ad6 p hp w
  · rw [t0, o0]; exact part_ad6 q hq w
  · rw [t0]; exact inU6 d p.ad q.ad hp hq w
  · rw [t1, o1]; exact part_ln6 p hp w
  · rw [t1, o1]; exact part_ln6 q hq w
  · rw [t1]; exact run_equalIn_int (P := Tryd.prog) w (d + 1) 3 .i64 .i64 p.ln q.ln Tryd.underlying3
theorem eqN6 (p q : Nn) (hp : p.ad.length = 16) (hq : q.ad.length = 16) (w : World) : (binOp .eql 36 (.agg p.vals.toArray) (.agg q.vals.toArray)).run Tryd.prog w = .ok (.bool (decide (p.ad = q.ad) && p.ln == q.ln)) w := by
  rw [run_eql_struct, inN6 9997 p q hp hq w]
  rfl
theorem neqN6 (p q : Nn) (hp : p.ad.length = 16) (hq : q.ad.length = 16) (w : World) : (binOp .neq 36 (.agg p.vals.toArray) (.agg q.vals.toArray)).run Tryd.prog w = .ok (.bool (!(decide (p.ad = q.ad) && p.ln == q.ln))) w := by
  rw [run_neq_struct, inN6 9997 p q hp hq w]
  rfl
end Go.Proofs.YtkdplnbabelkoaaDoor
