/-
  Proved here: the law IcmpmapBack answers true.
  Conditions: none.
-/
import Derived.Test.YtnehabpdpkjaeaaDoorLBackb
import Derived.Test.YtnehabpdpkjaeaaDoorLBackc
import Derived.Test.YtnehabpdpkjaeaaDoorLBackd
namespace Go.Proofs.YtnehabpdpkjaeaaDoor
open Go.RowKit

theorem icmpmapBack_all (m : Mg) (a b len : Int) (w : World) (hm : Hm w) (hr : 0 ≤ m.rs ∧ m.rs < 4294967296) : Calls Tryd.prog 7 #[.agg m.vals.toArray, .int .i64 a, .int .i64 b, .int .i64 len] w (fun e w' => e = .returned (.bool true) ∧ Below w.heap.size w w') := by
  by_cases hd : (70000 : Int) < (m.da.size : Int)
  · exact back14_long m a b len w hm hd
  rcases six_cases m a b len with e6 | ⟨hb, k8, c8, e6⟩ | ⟨hb, k8, c8, e6⟩ | ⟨hb, k8, c8, e6⟩ | ⟨k, c, q, hb, g8, g0, _, kk, q0, q1, e6⟩
  · rcases four_cases m a b hr.1 with e4 | ⟨hb', k4, c4, e4⟩ | ⟨hb', k4, c4, e4⟩ | ⟨hb', k4, c4, e4⟩ | ⟨c', hb', gk', _, _, cc, e4⟩ | ⟨c', hb', gk', _, _, e4⟩ | ⟨hb', k4, c4, z0', z1', e4⟩
    · exact back14_n_n m a b len w hm hr hd   e6 e4
    · exact back14_n_E128 m a b len w hm hr hd hb'  k4 c4 e6 e4
    · exact back14_n_E129 m a b len w hm hr hd hb'  k4 c4 e6 e4
    · obtain ⟨ha1, ha2, _, _⟩ := mtus_iff.1 hb'
      obtain ⟨u1, u2⟩ := told4_in (rs := m.rs) (b := b) ha1 ha2
      have u3 := Int.le_trans u2 ha2
      have gk : m.kd < 128 := by omega
      exact back14_n_T m a b len w hm hr hd  gk _ u1 u2 u3 e6 e4
    · exact back14_n_3 m a b len w hm hr hd  gk' c' cc e6 e4
    · exact back14_n_11 m a b len w hm hr hd  gk' c' e6 e4
    · have gk : m.kd < 128 := by omega
      have z0 : 0 ≤ ptr4 m.rs * 16777216 := by omega
      have z1 : ptr4 m.rs * 16777216 ≤ 268435456 := by omega
      exact back14_n_12 m a b len w hm hr hd  gk _ z0 z1 e6 e4
  · rcases four_cases m a b hr.1 with e4 | ⟨hb', k4, c4, e4⟩ | ⟨hb', k4, c4, e4⟩ | ⟨hb', k4, c4, e4⟩ | ⟨c', hb', gk', _, _, cc, e4⟩ | ⟨c', hb', gk', _, _, e4⟩ | ⟨hb', k4, c4, z0', z1', e4⟩
    · exact back14_E8_n m a b len w hm hr hd hb k8 c8  e6 e4
    · exfalso
      have h6 := six_kd (show (six m a b len).2 = true by rw [e6])
      have h4 := four_kd (show (four m a b).2 = true by rw [e4])
      omega
    · exfalso
      have h6 := six_kd (show (six m a b len).2 = true by rw [e6])
      have h4 := four_kd (show (four m a b).2 = true by rw [e4])
      omega
    · exfalso
      have h6 := six_kd (show (six m a b len).2 = true by rw [e6])
      have h4 := four_kd (show (four m a b).2 = true by rw [e4])
      omega
    · exfalso
      have h6 := six_kd (show (six m a b len).2 = true by rw [e6])
      have h4 := four_kd (show (four m a b).2 = true by rw [e4])
      omega
    · exfalso
      have h6 := six_kd (show (six m a b len).2 = true by rw [e6])
      have h4 := four_kd (show (four m a b).2 = true by rw [e4])
      omega
    · exfalso
      have h6 := six_kd (show (six m a b len).2 = true by rw [e6])
      have h4 := four_kd (show (four m a b).2 = true by rw [e4])
      omega
  · rcases four_cases m a b hr.1 with e4 | ⟨hb', k4, c4, e4⟩ | ⟨hb', k4, c4, e4⟩ | ⟨hb', k4, c4, e4⟩ | ⟨c', hb', gk', _, _, cc, e4⟩ | ⟨c', hb', gk', _, _, e4⟩ | ⟨hb', k4, c4, z0', z1', e4⟩
    · exact back14_E0_n m a b len w hm hr hd hb k8 c8  e6 e4
    · exfalso
      have h6 := six_kd (show (six m a b len).2 = true by rw [e6])
      have h4 := four_kd (show (four m a b).2 = true by rw [e4])
      omega
    · exfalso
      have h6 := six_kd (show (six m a b len).2 = true by rw [e6])
      have h4 := four_kd (show (four m a b).2 = true by rw [e4])
      omega
    · exfalso
      have h6 := six_kd (show (six m a b len).2 = true by rw [e6])
      have h4 := four_kd (show (four m a b).2 = true by rw [e4])
      omega
    · exfalso
      have h6 := six_kd (show (six m a b len).2 = true by rw [e6])
      have h4 := four_kd (show (four m a b).2 = true by rw [e4])
      omega
    · exfalso
      have h6 := six_kd (show (six m a b len).2 = true by rw [e6])
      have h4 := four_kd (show (four m a b).2 = true by rw [e4])
      omega
    · exfalso
      have h6 := six_kd (show (six m a b len).2 = true by rw [e6])
      have h4 := four_kd (show (four m a b).2 = true by rw [e4])
      omega
  · obtain ⟨_, _, hb1, hb2⟩ := mtus_iff.1 hb
    obtain ⟨t1, t2⟩ := told6_in (rs := m.rs) (a := a) (len := len) hb1
    have t3 := Int.le_trans t2 hb2
    rcases four_cases m a b hr.1 with e4 | ⟨hb', k4, c4, e4⟩ | ⟨hb', k4, c4, e4⟩ | ⟨hb', k4, c4, e4⟩ | ⟨c', hb', gk', _, _, cc, e4⟩ | ⟨c', hb', gk', _, _, e4⟩ | ⟨hb', k4, c4, z0', z1', e4⟩
    · exact back14_T_n m a b len w hm hr hd k8 _ t1 t2 t3  e6 e4
    · exfalso
      have h6 := six_kd (show (six m a b len).2 = true by rw [e6])
      have h4 := four_kd (show (four m a b).2 = true by rw [e4])
      omega
    · exfalso
      have h6 := six_kd (show (six m a b len).2 = true by rw [e6])
      have h4 := four_kd (show (four m a b).2 = true by rw [e4])
      omega
    · exfalso
      have h6 := six_kd (show (six m a b len).2 = true by rw [e6])
      have h4 := four_kd (show (four m a b).2 = true by rw [e4])
      omega
    · exact back14_T_3 m a b len w hm hr hd k8 _ t1 t2 t3 c' cc e6 e4
    · exact back14_T_11 m a b len w hm hr hd k8 _ t1 t2 t3 c' e6 e4
    · exfalso
      have h6 := six_kd (show (six m a b len).2 = true by rw [e6])
      have h4 := four_kd (show (four m a b).2 = true by rw [e4])
      omega
  · have gk : m.kd < 128 := by have := six_kd (show (six m a b len).2 = true by rw [e6]); omega
    rcases four_cases m a b hr.1 with e4 | ⟨hb', k4, c4, e4⟩ | ⟨hb', k4, c4, e4⟩ | ⟨hb', k4, c4, e4⟩ | ⟨c', hb', gk', _, _, cc, e4⟩ | ⟨c', hb', gk', _, _, e4⟩ | ⟨hb', k4, c4, z0', z1', e4⟩
    · exact back14_O_n m a b len w hm hr hd g8 g0 gk k c q kk q0 q1  e6 e4
    · exfalso
      have h6 := six_kd (show (six m a b len).2 = true by rw [e6])
      have h4 := four_kd (show (four m a b).2 = true by rw [e4])
      omega
    · exfalso
      have h6 := six_kd (show (six m a b len).2 = true by rw [e6])
      have h4 := four_kd (show (four m a b).2 = true by rw [e4])
      omega
    · exfalso
      have h6 := six_kd (show (six m a b len).2 = true by rw [e6])
      have h4 := four_kd (show (four m a b).2 = true by rw [e4])
      omega
    · exact back14_O_3 m a b len w hm hr hd g8 g0 gk k c q kk q0 q1 c' cc e6 e4
    · exact back14_O_11 m a b len w hm hr hd g8 g0 gk k c q kk q0 q1 c' e6 e4
    · exfalso
      have h6 := six_kd (show (six m a b len).2 = true by rw [e6])
      have h4 := four_kd (show (four m a b).2 = true by rw [e4])
      omega
end Go.Proofs.YtnehabpdpkjaeaaDoor
