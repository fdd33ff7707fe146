/-
  Proved here: plain facts on what becomes of messages.
  Conditions: as each fact says.
-/
import Derived.Test.YtnehabpdpkjaeaaDoorIc
namespace Go.Proofs.YtnehabpdpkjaeaaDoor
open Go.RowKit

theorem six_kd {m : Mg} {a b len : Int} (h : (six m a b len).2 = true) : m.kd = 0 ∨ m.kd = 3 ∨ m.kd = 8 ∨ m.kd = 11 ∨ m.kd = 12 := by
  by_cases h1 : m.kd = 3 ∧ m.cd = 4
  · omega
  by_cases h2 : m.kd = 12 ∧ (m.cd = 0 ∨ m.cd = 2)
  · omega
  unfold six at h
  cases hb : mtus a b
  · rw [hb, if_pos rfl] at h; cases h
  rw [hb, if_neg (by simp), if_neg h1, if_neg h2] at h
  cases hf : findL (ln6 m.rs) m.kd m.cd with
  | none => rw [hf] at h; cases h
  | some x =>
    obtain ⟨hm, hk, _⟩ := findL_mem hf
    unfold ln6 at hm
    simp only [List.mem_cons, List.not_mem_nil, or_false] at hm
    rcases hm with rfl | rfl | rfl | rfl | rfl | rfl | rfl | rfl | rfl | rfl | rfl | rfl | rfl | rfl | rfl | rfl | rfl | rfl <;> simp only at hk <;> omega
theorem four_kd {m : Mg} {a b : Int} (h : (four m a b).2 = true) : m.kd = 1 ∨ m.kd = 2 ∨ m.kd = 3 ∨ m.kd = 4 ∨ m.kd = 128 ∨ m.kd = 129 := by
  by_cases h1 : m.kd = 2 ∧ m.cd = 0
  · omega
  by_cases h2 : m.kd = 4 ∧ m.cd = 0
  · omega
  unfold four at h
  cases hb : mtus a b
  · rw [hb, if_pos rfl] at h; cases h
  rw [hb, if_neg (by simp), if_neg h1, if_neg h2] at h
  cases hf : findL (ln4 m.rs) m.kd m.cd with
  | none => rw [hf] at h; cases h
  | some x =>
    obtain ⟨hm, hk, _⟩ := findL_mem hf
    unfold ln4 at hm
    simp only [List.mem_cons, List.not_mem_nil, or_false] at hm
    rcases hm with rfl | rfl | rfl | rfl | rfl | rfl | rfl | rfl | rfl | rfl <;> simp only at hk <;> omega
theorem told6_is {r a b : Int} (h0 : 1 ≤ r) (h1 : r ≤ 65535) : told6 r a b 0 = max 1280 (min (min (r + 20) b) (a + 20)) := by
  unfold told6
  rw [if_neg (by omega), show r % 65536 = r by omega]
theorem mtus_up {x y a b c : Int} (h0 : 1 ≤ x) (h1 : x ≤ y) (h2 : y ≤ 65535) (h3 : b ≤ c) (h4 : 1280 ≤ b) (h5 : 68 ≤ a) : told6 x a b 0 ≤ told6 y a b 0 ∧ told6 x a b 0 ≤ told6 x a c 0 ∧ told4 x a b ≤ told4 y a b ∧ told4 (told6 x a b 0) a b ≤ max x 1260 := by
  rw [told6_is h0 (by omega), told6_is (by omega) h2, told6_is h0 (by omega)]
  unfold told4
  omega
theorem six_told {r a b : Int} (h : mtus a b = true) : six ⟨3, 4, r, ⟨#[]⟩⟩ a b 0 = (⟨2, 0, told6 r a b 0, ⟨#[]⟩⟩, true) := by unfold six; rw [h]; rfl
theorem four_told {r a b : Int} (h : mtus a b = true) : four ⟨2, 0, r, ⟨#[]⟩⟩ a b = (⟨3, 4, told4 r a b, ⟨#[]⟩⟩, true) := by unfold four; rw [h]; rfl
/-- Two messages of one kind and code: what goes over differs in the rest and the data alone. -/
theorem six_data {kd cd r q : Int} {d e : ByteArray} {a b len : Int} (h12 : kd ≠ 12) : (six ⟨kd, cd, r, d⟩ a b len).2 = (six ⟨kd, cd, q, e⟩ a b len).2 ∧ (six ⟨kd, cd, r, d⟩ a b len).1.kd = (six ⟨kd, cd, q, e⟩ a b len).1.kd ∧ (six ⟨kd, cd, r, d⟩ a b len).1.cd = (six ⟨kd, cd, q, e⟩ a b len).1.cd ∧ ((six ⟨kd, cd, q, e⟩ a b len).2 = true → (six ⟨kd, cd, q, e⟩ a b len).1.da = e) ∧ (kd ≠ 8 → kd ≠ 0 → ¬ (kd = 3 ∧ cd = 4) → (six ⟨kd, cd, r, d⟩ a b len).1.rs = (six ⟨kd, cd, q, e⟩ a b len).1.rs) := by
  cases hb : mtus a b
  · have e1 : ∀ m : Mg, six m a b len = (mg0, false) := fun m => by unfold six; rw [hb, if_pos rfl]
    rw [e1, e1]
    exact ⟨rfl, rfl, rfl, (fun h => by cases h), fun _ _ _ => rfl⟩
  by_cases h34 : kd = 3 ∧ cd = 4
  · have e1 : ∀ (r : Int) (d : ByteArray), six ⟨kd, cd, r, d⟩ a b len = (⟨2, 0, told6 r a b len, d⟩, true) := fun r d => by unfold six; rw [hb, if_neg (by simp), if_pos h34]
    rw [e1, e1]
    exact ⟨rfl, rfl, rfl, fun _ => rfl, fun _ _ h => absurd h34 h⟩
  have e1 : ∀ (r : Int) (d : ByteArray), six ⟨kd, cd, r, d⟩ a b len = viaL (findL (ln6 r) kd cd) d := fun r d => by unfold six; rw [hb, if_neg (by simp), if_neg h34, if_neg (fun h => h12 h.1)]
  rw [e1, e1]
  by_cases h8 : kd = 8 ∧ cd = 0
  · obtain ⟨rfl, rfl⟩ := h8
    exact ⟨rfl, rfl, rfl, fun _ => rfl, fun h => absurd rfl h⟩
  by_cases h0 : kd = 0 ∧ cd = 0
  · obtain ⟨rfl, rfl⟩ := h0
    exact ⟨rfl, rfl, rfl, fun _ => rfl, fun _ h => absurd rfl h⟩
  have e2 : ∀ r, findL (ln6 r) kd cd = findL ((ln6 0).drop 2) kd cd := fun r => by
    have k8 : ((8 : Int) == kd && (0 : Int) == cd) = false := by rw [Bool.and_eq_false_iff, beq_eq_false_iff_ne, beq_eq_false_iff_ne]; omega
    have k0 : ((0 : Int) == kd && (0 : Int) == cd) = false := by rw [Bool.and_eq_false_iff, beq_eq_false_iff_ne, beq_eq_false_iff_ne]; omega
    unfold findL ln6
    rw [List.find?_cons_of_neg (by dsimp only; rw [k8]; simp), List.find?_cons_of_neg (by dsimp only; rw [k0]; simp)]
    rfl
  rw [e2 r, e2 q]
  cases findL ((ln6 0).drop 2) kd cd with
  | none => exact ⟨rfl, rfl, rfl, (fun h => by cases h), fun _ _ _ => rfl⟩
  | some x => exact ⟨rfl, rfl, rfl, fun _ => rfl, fun _ _ _ => rfl⟩
theorem four_data {kd cd r q : Int} {d e : ByteArray} {a b : Int} (h4 : ¬ (kd = 4 ∧ cd = 0)) : (four ⟨kd, cd, r, d⟩ a b).2 = (four ⟨kd, cd, q, e⟩ a b).2 ∧ (four ⟨kd, cd, r, d⟩ a b).1.kd = (four ⟨kd, cd, q, e⟩ a b).1.kd ∧ (four ⟨kd, cd, r, d⟩ a b).1.cd = (four ⟨kd, cd, q, e⟩ a b).1.cd ∧ ((four ⟨kd, cd, q, e⟩ a b).2 = true → (four ⟨kd, cd, q, e⟩ a b).1.da = e) := by
  cases hb : mtus a b
  · have e1 : ∀ m : Mg, four m a b = (mg0, false) := fun m => by unfold four; rw [hb, if_pos rfl]
    rw [e1, e1]
    exact ⟨rfl, rfl, rfl, fun h => by cases h⟩
  by_cases h2 : kd = 2 ∧ cd = 0
  · have e1 : ∀ (r : Int) (d : ByteArray), four ⟨kd, cd, r, d⟩ a b = (⟨3, 4, told4 r a b, d⟩, true) := fun r d => by unfold four; rw [hb, if_neg (by simp), if_pos h2]
    rw [e1, e1]
    exact ⟨rfl, rfl, rfl, fun _ => rfl⟩
  have e1 : ∀ (r : Int) (d : ByteArray), four ⟨kd, cd, r, d⟩ a b = viaL (findL (ln4 r) kd cd) d := fun r d => by unfold four; rw [hb, if_neg (by simp), if_neg h2, if_neg h4]
  rw [e1, e1]
  by_cases h8 : kd = 128 ∧ cd = 0
  · obtain ⟨rfl, rfl⟩ := h8
    exact ⟨rfl, rfl, rfl, fun _ => rfl⟩
  by_cases h0 : kd = 129 ∧ cd = 0
  · obtain ⟨rfl, rfl⟩ := h0
    exact ⟨rfl, rfl, rfl, fun _ => rfl⟩
  have e2 : ∀ r, findL (ln4 r) kd cd = findL ((ln4 0).drop 2) kd cd := fun r => by
    have k8 : ((128 : Int) == kd && (0 : Int) == cd) = false := by rw [Bool.and_eq_false_iff, beq_eq_false_iff_ne, beq_eq_false_iff_ne]; omega
    have k0 : ((129 : Int) == kd && (0 : Int) == cd) = false := by rw [Bool.and_eq_false_iff, beq_eq_false_iff_ne, beq_eq_false_iff_ne]; omega
    unfold findL ln4
    rw [List.find?_cons_of_neg (by dsimp only; rw [k8]; simp), List.find?_cons_of_neg (by dsimp only; rw [k0]; simp)]
    rfl
  rw [e2 r, e2 q]
  cases findL ((ln4 0).drop 2) kd cd with
  | none => exact ⟨rfl, rfl, rfl, fun h => by cases h⟩
  | some x => exact ⟨rfl, rfl, rfl, fun _ => rfl⟩
end Go.Proofs.YtnehabpdpkjaeaaDoor
