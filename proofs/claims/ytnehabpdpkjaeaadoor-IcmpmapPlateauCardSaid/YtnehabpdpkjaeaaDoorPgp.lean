/-
  Proved here: what a message is over the other family, by its parts, plainly.
  Conditions: as each fact says.
-/
import Derived.Test.YtnehabpdpkjaeaaDoorPf
namespace Go.Proofs.YtnehabpdpkjaeaaDoor
open Go.RowKit

theorem find_noL {l : List Ln} {kd cd : Int} (h : ∀ x ∈ l, ¬ (x.1 = kd ∧ x.2.1 = cd)) : findL l kd cd = none := by
  unfold findL
  rw [List.find?_eq_none]
  intro x hx hc
  simp only [Bool.and_eq_true, beq_iff_eq] at hc
  exact h x hx hc
/-- A message by its parts. -/
def via6 (m : Mg) (a b len : Int) : Mg × Bool := if (said6 m).2 = true ∧ mtus a b = true then (⟨(said6 m).1.kd, (said6 m).1.cd, if (said6 m).1.kd = 2 then told6 m.rs a b len else (said6 m).1.rs, m.da⟩, true) else (mg0, false)
def via4 (m : Mg) (a b : Int) : Mg × Bool := if (said4 m).2 = true ∧ mtus a b = true then (⟨(said4 m).1.kd, (said4 m).1.cd, if m.kd = 2 then told4 m.rs a b else (said4 m).1.rs, m.da⟩, true) else (mg0, false)
theorem six_none {m : Mg} {a b len : Int} (hb : mtus a b = true) (hs : (said6 m).2 = false) (h1 : ¬ (m.kd = 3 ∧ m.cd = 4)) (h2 : ¬ (m.kd = 12 ∧ (m.cd = 0 ∨ m.cd = 2))) (h : ∀ x ∈ ln6 m.rs, ¬ (x.1 = m.kd ∧ x.2.1 = m.cd)) : six m a b len = via6 m a b len := by
  unfold six via6
  rw [hb, hs, if_neg (by simp), if_neg h1, if_neg h2, find_noL h, if_neg (by simp)]
  rfl
theorem four_none {m : Mg} {a b : Int} (hb : mtus a b = true) (hs : (said4 m).2 = false) (h1 : ¬ (m.kd = 2 ∧ m.cd = 0)) (h2 : ¬ (m.kd = 4 ∧ m.cd = 0)) (h : ∀ x ∈ ln4 m.rs, ¬ (x.1 = m.kd ∧ x.2.1 = m.cd)) : four m a b = via4 m a b := by
  unfold four via4
  rw [hb, hs, if_neg (by simp), if_neg h1, if_neg h2, find_noL h, if_neg (by simp)]
  rfl
theorem six_via (m : Mg) (a b len : Int) : six m a b len = via6 m a b len := by
  cases hb : mtus a b
  · unfold six via6
    rw [hb]
    simp
  obtain ⟨kd, cd, rs, da⟩ := m
  by_cases k8 : kd = 8
  · subst k8
    by_cases c0 : cd = 0
    · subst c0
      unfold six via6
      rw [hb]
      rfl
    exact six_none hb (by simp [said6, c0]) (by dsimp only; omega) (by dsimp only; omega) (by
      intro x hx
      simp only [ln6, List.mem_cons, List.not_mem_nil, or_false] at hx
      rcases hx with rfl | rfl | rfl | rfl | rfl | rfl | rfl | rfl | rfl | rfl | rfl | rfl | rfl | rfl | rfl | rfl | rfl | rfl <;> (intro hc; simp only at hc; omega))
  by_cases k0 : kd = 0
  · subst k0
    by_cases c0 : cd = 0
    · subst c0
      unfold six via6
      rw [hb]
      rfl
    exact six_none hb (by simp [said6, c0]) (by dsimp only; omega) (by dsimp only; omega) (by
      intro x hx
      simp only [ln6, List.mem_cons, List.not_mem_nil, or_false] at hx
      rcases hx with rfl | rfl | rfl | rfl | rfl | rfl | rfl | rfl | rfl | rfl | rfl | rfl | rfl | rfl | rfl | rfl | rfl | rfl <;> (intro hc; simp only at hc; omega))
  by_cases k3 : kd = 3
  · subst k3
    by_cases c0 : cd = 0
    · subst c0
      unfold six via6
      rw [hb]
      rfl
    by_cases c1 : cd = 1
    · subst c1
      unfold six via6
      rw [hb]
      rfl
    by_cases c2 : cd = 2
    · subst c2
      unfold six via6
      rw [hb]
      rfl
    by_cases c3 : cd = 3
    · subst c3
      unfold six via6
      rw [hb]
      rfl
    by_cases c4 : cd = 4
    · subst c4
      unfold six via6
      rw [hb]
      rfl
    by_cases c5 : cd = 5
    · subst c5
      unfold six via6
      rw [hb]
      rfl
    by_cases c6 : cd = 6
    · subst c6
      unfold six via6
      rw [hb]
      rfl
    by_cases c7 : cd = 7
    · subst c7
      unfold six via6
      rw [hb]
      rfl
    by_cases c8 : cd = 8
    · subst c8
      unfold six via6
      rw [hb]
      rfl
    by_cases c9 : cd = 9
    · subst c9
      unfold six via6
      rw [hb]
      rfl
    by_cases c10 : cd = 10
    · subst c10
      unfold six via6
      rw [hb]
      rfl
    by_cases c11 : cd = 11
    · subst c11
      unfold six via6
      rw [hb]
      rfl
    by_cases c12 : cd = 12
    · subst c12
      unfold six via6
      rw [hb]
      rfl
    by_cases c13 : cd = 13
    · subst c13
      unfold six via6
      rw [hb]
      rfl
    by_cases c15 : cd = 15
    · subst c15
      unfold six via6
      rw [hb]
      rfl
    exact six_none hb (by simp [said6, unr6, c0, c1, c2, c3, c4, c5, c6, c7, c8, c9, c10, c11, c12, c13, c15]) (by dsimp only; omega) (by dsimp only; omega) (by
      intro x hx
      simp only [ln6, List.mem_cons, List.not_mem_nil, or_false] at hx
      rcases hx with rfl | rfl | rfl | rfl | rfl | rfl | rfl | rfl | rfl | rfl | rfl | rfl | rfl | rfl | rfl | rfl | rfl | rfl <;> (intro hc; simp only at hc; omega))
  by_cases k11 : kd = 11
  · subst k11
    by_cases c0 : cd = 0
    · subst c0
      unfold six via6
      rw [hb]
      rfl
    by_cases c1 : cd = 1
    · subst c1
      unfold six via6
      rw [hb]
      rfl
    exact six_none hb (by simp [said6, c0, c1]) (by dsimp only; omega) (by dsimp only; omega) (by
      intro x hx
      simp only [ln6, List.mem_cons, List.not_mem_nil, or_false] at hx
      rcases hx with rfl | rfl | rfl | rfl | rfl | rfl | rfl | rfl | rfl | rfl | rfl | rfl | rfl | rfl | rfl | rfl | rfl | rfl <;> (intro hc; simp only at hc; omega))
  by_cases k12 : kd = 12
  · subst k12
    by_cases c0 : cd = 0
    · subst c0
      by_cases hp : ptr6 (rs / 16777216) < 0
      · have hp2 : ¬ 0 ≤ ptr6 (rs / 16777216) := by omega
        unfold six via6 said6
        rw [hb]
        simp [hp, hp2, pp_snd]
      · have hp2 : 0 ≤ ptr6 (rs / 16777216) := by omega
        unfold six via6 said6
        rw [hb]
        simp [hp, hp2, pp_snd, pp_fst]
    by_cases c2 : cd = 2
    · subst c2
      by_cases hp : ptr6 (rs / 16777216) < 0
      · have hp2 : ¬ 0 ≤ ptr6 (rs / 16777216) := by omega
        unfold six via6 said6
        rw [hb]
        simp [hp, hp2, pp_snd]
      · have hp2 : 0 ≤ ptr6 (rs / 16777216) := by omega
        unfold six via6 said6
        rw [hb]
        simp [hp, hp2, pp_snd, pp_fst]
    exact six_none hb (by simp [said6, c0, c2]) (by dsimp only; omega) (by dsimp only; omega) (by
      intro x hx
      simp only [ln6, List.mem_cons, List.not_mem_nil, or_false] at hx
      rcases hx with rfl | rfl | rfl | rfl | rfl | rfl | rfl | rfl | rfl | rfl | rfl | rfl | rfl | rfl | rfl | rfl | rfl | rfl <;> (intro hc; simp only at hc; omega))
  exact six_none hb (by simp [said6, k8, k0, k3, k11, k12]) (by dsimp only; omega) (by dsimp only; omega) (by
    intro x hx
    simp only [ln6, List.mem_cons, List.not_mem_nil, or_false] at hx
    rcases hx with rfl | rfl | rfl | rfl | rfl | rfl | rfl | rfl | rfl | rfl | rfl | rfl | rfl | rfl | rfl | rfl | rfl | rfl <;> (intro hc; simp only at hc; omega))
theorem four_via (m : Mg) (a b : Int) : four m a b = via4 m a b := by
  cases hb : mtus a b
  · unfold four via4
    rw [hb]
    simp
  obtain ⟨kd, cd, rs, da⟩ := m
  by_cases k128 : kd = 128
  · subst k128
    by_cases c0 : cd = 0
    · subst c0
      unfold four via4
      rw [hb]
      rfl
    exact four_none hb (by simp [said4, c0]) (by dsimp only; omega) (by dsimp only; omega) (by
      intro x hx
      simp only [ln4, List.mem_cons, List.not_mem_nil, or_false] at hx
      rcases hx with rfl | rfl | rfl | rfl | rfl | rfl | rfl | rfl | rfl | rfl <;> (intro hc; simp only at hc; omega))
  by_cases k129 : kd = 129
  · subst k129
    by_cases c0 : cd = 0
    · subst c0
      unfold four via4
      rw [hb]
      rfl
    exact four_none hb (by simp [said4, c0]) (by dsimp only; omega) (by dsimp only; omega) (by
      intro x hx
      simp only [ln4, List.mem_cons, List.not_mem_nil, or_false] at hx
      rcases hx with rfl | rfl | rfl | rfl | rfl | rfl | rfl | rfl | rfl | rfl <;> (intro hc; simp only at hc; omega))
  by_cases k1 : kd = 1
  · subst k1
    by_cases c0 : cd = 0
    · subst c0
      unfold four via4
      rw [hb]
      rfl
    by_cases c1 : cd = 1
    · subst c1
      unfold four via4
      rw [hb]
      rfl
    by_cases c2 : cd = 2
    · subst c2
      unfold four via4
      rw [hb]
      rfl
    by_cases c3 : cd = 3
    · subst c3
      unfold four via4
      rw [hb]
      rfl
    by_cases c4 : cd = 4
    · subst c4
      unfold four via4
      rw [hb]
      rfl
    exact four_none hb (by simp [said4, unr4, c0, c1, c2, c3, c4]) (by dsimp only; omega) (by dsimp only; omega) (by
      intro x hx
      simp only [ln4, List.mem_cons, List.not_mem_nil, or_false] at hx
      rcases hx with rfl | rfl | rfl | rfl | rfl | rfl | rfl | rfl | rfl | rfl <;> (intro hc; simp only at hc; omega))
  by_cases k2 : kd = 2
  · subst k2
    by_cases c0 : cd = 0
    · subst c0
      unfold four via4
      rw [hb]
      rfl
    exact four_none hb (by simp [said4, c0]) (by dsimp only; omega) (by dsimp only; omega) (by
      intro x hx
      simp only [ln4, List.mem_cons, List.not_mem_nil, or_false] at hx
      rcases hx with rfl | rfl | rfl | rfl | rfl | rfl | rfl | rfl | rfl | rfl <;> (intro hc; simp only at hc; omega))
  by_cases k3 : kd = 3
  · subst k3
    by_cases c0 : cd = 0
    · subst c0
      unfold four via4
      rw [hb]
      rfl
    by_cases c1 : cd = 1
    · subst c1
      unfold four via4
      rw [hb]
      rfl
    exact four_none hb (by simp [said4, c0, c1]) (by dsimp only; omega) (by dsimp only; omega) (by
      intro x hx
      simp only [ln4, List.mem_cons, List.not_mem_nil, or_false] at hx
      rcases hx with rfl | rfl | rfl | rfl | rfl | rfl | rfl | rfl | rfl | rfl <;> (intro hc; simp only at hc; omega))
  by_cases k4 : kd = 4
  · subst k4
    by_cases c0 : cd = 0
    · subst c0
      by_cases hp : ptr4 rs < 0
      · have hp2 : ¬ 0 ≤ ptr4 rs := by omega
        unfold four via4 said4 par4
        rw [hb]
        simp [hp, hp2, pp_snd]
      · have hp2 : 0 ≤ ptr4 rs := by omega
        unfold four via4 said4 par4
        rw [hb]
        simp [hp, hp2, pp_snd, pp_fst]
    by_cases c1 : cd = 1
    · subst c1
      unfold four via4
      rw [hb]
      rfl
    exact four_none hb (by simp [said4, par4, c0, c1]) (by dsimp only; omega) (by dsimp only; omega) (by
      intro x hx
      simp only [ln4, List.mem_cons, List.not_mem_nil, or_false] at hx
      rcases hx with rfl | rfl | rfl | rfl | rfl | rfl | rfl | rfl | rfl | rfl <;> (intro hc; simp only at hc; omega))
  exact four_none hb (by simp [said4, k128, k129, k1, k2, k3, k4]) (by dsimp only; omega) (by dsimp only; omega) (by
    intro x hx
    simp only [ln4, List.mem_cons, List.not_mem_nil, or_false] at hx
    rcases hx with rfl | rfl | rfl | rfl | rfl | rfl | rfl | rfl | rfl | rfl <;> (intro hc; simp only at hc; omega))
end Go.Proofs.YtnehabpdpkjaeaaDoor
