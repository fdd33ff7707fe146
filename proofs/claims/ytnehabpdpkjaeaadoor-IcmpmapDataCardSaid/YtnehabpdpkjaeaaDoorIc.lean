/-
  Proved here: what becomes of messages of ICMP, plainly.
  Conditions: as each fact says.
-/
import Derived.Test.YtnehabpdpkjaeaaDoorRn
namespace Go.Proofs.YtnehabpdpkjaeaaDoor
open Go.RowKit

/-- A message. -/
structure Mg where
  kd : Int
  cd : Int
  rs : Int
  da : ByteArray
/-- Its cells. -/
def Mg.vals (m : Mg) : List Value := [.int .i64 m.kd, .int .i64 m.cd, .int .u32 m.rs, .string m.da]
def mg0 : Mg := ⟨0, 0, 0, ⟨#[]⟩⟩
def plat (n : Int) : Int := if 65535 < n then 65535 else if 32000 < n then 32000 else if 17914 < n then 17914 else if 8166 < n then 8166 else if 4352 < n then 4352 else if 2002 < n then 2002 else if 1492 < n then 1492 else if 1006 < n then 1006 else if 508 < n then 508 else if 296 < n then 296 else 68
theorem plat_in (n : Int) : 68 ≤ plat n ∧ plat n ≤ 65535 ∧ (plat n < n ∨ plat n = 68) := by
  unfold plat
  omega
theorem plat_up {a b : Int} (h : a ≤ b) : plat a ≤ plat b := by
  unfold plat
  omega
theorem plat_next (n : Int) : plat (plat n + 1) = plat n := by
  unfold plat
  repeat' split
  all_goals omega
def told6 (rs a b len : Int) : Int := max 1280 (min (min ((if rs % 65536 = 0 then plat len else rs % 65536) + 20) b) (a + 20))
def told4 (rs a b : Int) : Int := min 65535 (max 68 (min (min (rs - 20) a) (b - 20)))
/-- A line of a table: a kind and a code, and the kind, the code, the rest that they become. -/
abbrev Ln := Int × Int × Int × Int × Int
def ln6 (r : Int) : List Ln := [(8, 0, 128, 0, r), (0, 0, 129, 0, r), (3, 3, 1, 4, 0), (3, 2, 4, 1, 6), (11, 0, 3, 0, 0), (11, 1, 3, 1, 0), (3, 0, 1, 0, 0), (3, 1, 1, 0, 0), (3, 5, 1, 0, 0), (3, 6, 1, 0, 0), (3, 7, 1, 0, 0), (3, 8, 1, 0, 0), (3, 11, 1, 0, 0), (3, 12, 1, 0, 0), (3, 9, 1, 1, 0), (3, 10, 1, 1, 0), (3, 13, 1, 1, 0), (3, 15, 1, 1, 0)]
def ln4 (r : Int) : List Ln := [(128, 0, 8, 0, r), (129, 0, 0, 0, r), (1, 0, 3, 1, 0), (1, 2, 3, 1, 0), (1, 3, 3, 1, 0), (1, 1, 3, 10, 0), (1, 4, 3, 3, 0), (3, 0, 11, 0, 0), (3, 1, 11, 1, 0), (4, 1, 3, 2, 0)]
def findL (l : List Ln) (kd cd : Int) : Option Ln := l.find? (fun x => x.1 == kd && x.2.1 == cd)
def viaL (o : Option Ln) (da : ByteArray) : Mg × Bool := match o with
  | some x => (⟨x.2.2.1, x.2.2.2.1, x.2.2.2.2, da⟩, true)
  | none => (mg0, false)
def ptr6 (p : Int) : Int := if p = 0 then 0 else if p = 1 then 1 else if p = 2 ∨ p = 3 then 4 else if p = 8 then 7 else if p = 9 then 6 else if 12 ≤ p ∧ p < 16 then 8 else if 16 ≤ p ∧ p < 20 then 24 else -1
def ptr4 (p : Int) : Int := if p ≤ 1 then p else if p = 4 ∨ p = 5 then 2 else if p = 6 then 9 else if p = 7 then 8 else if 8 ≤ p ∧ p < 24 then 12 else if 24 ≤ p ∧ p < 40 then 16 else -1
def mtus (a b : Int) : Bool := decide (68 ≤ a) && (decide (a ≤ 65535) && (decide (1280 ≤ b) && decide (b ≤ 65575)))
def six (m : Mg) (a b len : Int) : Mg × Bool :=
  if mtus a b = false then (mg0, false)
  else if m.kd = 3 ∧ m.cd = 4 then (⟨2, 0, told6 m.rs a b len, m.da⟩, true)
  else if m.kd = 12 ∧ (m.cd = 0 ∨ m.cd = 2) then (if ptr6 (m.rs / 16777216) < 0 then (mg0, false) else (⟨4, 0, ptr6 (m.rs / 16777216), m.da⟩, true))
  else viaL (findL (ln6 m.rs) m.kd m.cd) m.da
def four (m : Mg) (a b : Int) : Mg × Bool :=
  if mtus a b = false then (mg0, false)
  else if m.kd = 2 ∧ m.cd = 0 then (⟨3, 4, told4 m.rs a b, m.da⟩, true)
  else if m.kd = 4 ∧ m.cd = 0 then (if ptr4 m.rs < 0 then (mg0, false) else (⟨12, 0, ptr4 m.rs * 16777216, m.da⟩, true))
  else viaL (findL (ln4 m.rs) m.kd m.cd) m.da
theorem mtus_iff {a b : Int} : mtus a b = true ↔ 68 ≤ a ∧ a ≤ 65535 ∧ 1280 ≤ b ∧ b ≤ 65575 := by
  unfold mtus
  simp only [Bool.and_eq_true, decide_eq_true_eq]
theorem told6_in {rs a b len : Int} (hb : 1280 ≤ b) : 1280 ≤ told6 rs a b len ∧ told6 rs a b len ≤ b := by
  unfold told6
  omega
theorem told4_in {rs a b : Int} (ha : 68 ≤ a) (h2 : a ≤ 65535) : 68 ≤ told4 rs a b ∧ told4 rs a b ≤ a := by
  unfold told4
  omega
theorem findL_mem {l : List Ln} {kd cd : Int} {x : Ln} (h : findL l kd cd = some x) : x ∈ l ∧ x.1 = kd ∧ x.2.1 = cd := by
  unfold findL at h
  have h1 := List.mem_of_find?_eq_some h
  have h2 := List.find?_some h
  simp only [Bool.and_eq_true, beq_iff_eq] at h2
  exact ⟨h1, h2⟩
/-- How a message goes over to IPv6. -/
theorem six_cases (m : Mg) (a b len : Int) :
    (six m a b len = (mg0, false)) ∨
    (mtus a b = true ∧ m.kd = 8 ∧ m.cd = 0 ∧ six m a b len = (⟨128, 0, m.rs, m.da⟩, true)) ∨
    (mtus a b = true ∧ m.kd = 0 ∧ m.cd = 0 ∧ six m a b len = (⟨129, 0, m.rs, m.da⟩, true)) ∨
    (mtus a b = true ∧ m.kd = 3 ∧ m.cd = 4 ∧ six m a b len = (⟨2, 0, told6 m.rs a b len, m.da⟩, true)) ∨
    (∃ k c r, mtus a b = true ∧ m.kd ≠ 8 ∧ m.kd ≠ 0 ∧ ¬ (m.kd = 3 ∧ m.cd = 4) ∧ (k = 1 ∨ k = 3 ∨ k = 4) ∧ 0 ≤ r ∧ r ≤ 24 ∧ six m a b len = (⟨k, c, r, m.da⟩, true)) := by
  cases hb : mtus a b
  · left; unfold six; rw [hb, if_pos rfl]
  by_cases h1 : m.kd = 3 ∧ m.cd = 4
  · right; right; right; left; exact ⟨rfl, h1.1, h1.2, by unfold six; rw [hb, if_neg (by simp), if_pos h1]⟩
  by_cases h2 : m.kd = 12 ∧ (m.cd = 0 ∨ m.cd = 2)
  · by_cases h3 : ptr6 (m.rs / 16777216) < 0
    · left; unfold six; rw [hb, if_neg (by simp), if_neg h1, if_pos h2, if_pos h3]
    · right; right; right; right
      refine ⟨4, 0, ptr6 (m.rs / 16777216), rfl, by omega, by omega, h1, by omega, by omega, by unfold ptr6; omega, by unfold six; rw [hb, if_neg (by simp), if_neg h1, if_pos h2, if_neg h3]⟩
  have e : six m a b len = viaL (findL (ln6 m.rs) m.kd m.cd) m.da := by unfold six; rw [hb, if_neg (by simp), if_neg h1, if_neg h2]
  rw [e]
  cases hf : findL (ln6 m.rs) m.kd m.cd with
  | none => left; rfl
  | some x =>
    obtain ⟨hm, hk, hc⟩ := findL_mem hf
    unfold ln6 at hm
    simp only [List.mem_cons, List.not_mem_nil, or_false] at hm
    rcases hm with rfl | rfl | hm
    · right; left; exact ⟨rfl, hk.symm, hc.symm, rfl⟩
    · right; right; left; exact ⟨rfl, hk.symm, hc.symm, rfl⟩
    · right; right; right; right
      refine ⟨x.2.2.1, x.2.2.2.1, x.2.2.2.2, rfl, ?_, ?_, h1, ?_, ?_, ?_, rfl⟩
      all_goals
        rcases hm with rfl | rfl | rfl | rfl | rfl | rfl | rfl | rfl | rfl | rfl | rfl | rfl | rfl | rfl | rfl | rfl <;> (try simp only at hk hc ⊢) <;> first | omega | decide | (left; rfl) | skip
theorem four_cases (m : Mg) (a b : Int) (hr : 0 ≤ m.rs) :
    (four m a b = (mg0, false)) ∨
    (mtus a b = true ∧ m.kd = 128 ∧ m.cd = 0 ∧ four m a b = (⟨8, 0, m.rs, m.da⟩, true)) ∨
    (mtus a b = true ∧ m.kd = 129 ∧ m.cd = 0 ∧ four m a b = (⟨0, 0, m.rs, m.da⟩, true)) ∨
    (mtus a b = true ∧ m.kd = 2 ∧ m.cd = 0 ∧ four m a b = (⟨3, 4, told4 m.rs a b, m.da⟩, true)) ∨
    (∃ c, mtus a b = true ∧ m.kd < 128 ∧ ¬ (m.kd = 2 ∧ m.cd = 0) ∧ ¬ (m.kd = 4 ∧ m.cd = 0) ∧ c ≠ 4 ∧ four m a b = (⟨3, c, 0, m.da⟩, true)) ∨
    (∃ c, mtus a b = true ∧ m.kd < 128 ∧ ¬ (m.kd = 2 ∧ m.cd = 0) ∧ ¬ (m.kd = 4 ∧ m.cd = 0) ∧ four m a b = (⟨11, c, 0, m.da⟩, true)) ∨
    (mtus a b = true ∧ m.kd = 4 ∧ m.cd = 0 ∧ 0 ≤ ptr4 m.rs ∧ ptr4 m.rs ≤ 16 ∧ four m a b = (⟨12, 0, ptr4 m.rs * 16777216, m.da⟩, true)) := by
  cases hb : mtus a b
  · left; unfold four; rw [hb, if_pos rfl]
  by_cases h1 : m.kd = 2 ∧ m.cd = 0
  · right; right; right; left; exact ⟨rfl, h1.1, h1.2, by unfold four; rw [hb, if_neg (by simp), if_pos h1]⟩
  by_cases h2 : m.kd = 4 ∧ m.cd = 0
  · by_cases h3 : ptr4 m.rs < 0
    · left; unfold four; rw [hb, if_neg (by simp), if_neg h1, if_pos h2, if_pos h3]
    · right; right; right; right; right; right
      exact ⟨rfl, h2.1, h2.2, by omega, by unfold ptr4; omega, by unfold four; rw [hb, if_neg (by simp), if_neg h1, if_pos h2, if_neg h3]⟩
  have e : four m a b = viaL (findL (ln4 m.rs) m.kd m.cd) m.da := by unfold four; rw [hb, if_neg (by simp), if_neg h1, if_neg h2]
  rw [e]
  cases hf : findL (ln4 m.rs) m.kd m.cd with
  | none => left; rfl
  | some x =>
    obtain ⟨hm, hk, hc⟩ := findL_mem hf
    unfold ln4 at hm
    simp only [List.mem_cons, List.not_mem_nil, or_false] at hm
    rcases hm with rfl | rfl | rfl | rfl | rfl | rfl | rfl | rfl | rfl | rfl
    · right; left; exact ⟨rfl, hk.symm, hc.symm, rfl⟩
    · right; right; left; exact ⟨rfl, hk.symm, hc.symm, rfl⟩
    all_goals simp only at hk hc
    · right; right; right; right; left; exact ⟨1, rfl, by omega, h1, h2, by decide, rfl⟩
    · right; right; right; right; left; exact ⟨1, rfl, by omega, h1, h2, by decide, rfl⟩
    · right; right; right; right; left; exact ⟨1, rfl, by omega, h1, h2, by decide, rfl⟩
    · right; right; right; right; left; exact ⟨10, rfl, by omega, h1, h2, by decide, rfl⟩
    · right; right; right; right; left; exact ⟨3, rfl, by omega, h1, h2, by decide, rfl⟩
    · right; right; right; right; right; left; exact ⟨0, rfl, by omega, h1, h2, rfl⟩
    · right; right; right; right; right; left; exact ⟨1, rfl, by omega, h1, h2, rfl⟩
    · right; right; right; right; left; exact ⟨2, rfl, by omega, h1, h2, by decide, rfl⟩
theorem echo6 (a b : Int) (r : Int) (d : ByteArray) (h : mtus a b = true) : four ⟨128, 0, r, d⟩ a b = (⟨8, 0, r, d⟩, true) ∧ four ⟨129, 0, r, d⟩ a b = (⟨0, 0, r, d⟩, true) := by
  constructor <;> (unfold four; rw [h]; rfl)
theorem echo4 (a b len : Int) (r : Int) (d : ByteArray) (h : mtus a b = true) : six ⟨8, 0, r, d⟩ a b len = (⟨128, 0, r, d⟩, true) ∧ six ⟨0, 0, r, d⟩ a b len = (⟨129, 0, r, d⟩, true) := by
  constructor <;> (unfold six; rw [h]; rfl)
end Go.Proofs.YtnehabpdpkjaeaaDoor
