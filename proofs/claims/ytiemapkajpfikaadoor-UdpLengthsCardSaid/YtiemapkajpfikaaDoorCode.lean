/-
  Proved here: num.find, num.Code and num.Only at every error that layer 1's laws meet; what the laws' own 'panics' answers.
  Conditions: errors.errorType holds its type handle.
-/
import Derived.Test.YtiemapkajpfikaaDoorFind
import Derived.WalkLawsBesides
namespace Go.Proofs.YtiemapkajpfikaaDoor
open Go.RowKit Go.Extern.Stop Go.Stop Go.Extern

theorem asGives_fault (p : Option Addr) : AsGives (.iface 38 (.pointer p)) true p :=
  asGives_of fun a t old w ha ht hf => (as2_fault a t p old w ha ht hf).mono fun _ _ ⟨he, w1, hb, hw⟩ => ⟨he, w1, hb, hw⟩
/-- num.find's deferred literal, where nothing panics. -/
theorem find1_idle (p q : Addr) (w : World) :
    CallsD Tryd.prog 19 #[.pointer (some p), .pointer (some q)] .returning w fun e u' w' => e = .returned (.tuple #[]) ∧ u' = .returning ∧ w' = w := by
  refine callsD_of_wpS Tryd.func19 rfl fun c₀ cs hu => ?_
  apply wpS_seq
  apply wpS_region
  simp [wpOpsS, go_sem, recoverD, hu, Tryd.ntmps19, Exit.thenS]
  refine wpS_cond (t := false) (by simp [Act.eval, Array.replicate]) ?_
  simp only [Bool.false_eq_true, if_false]
  refine wpS_of_wp (wp_skip ?_)
  cases c₀
  simp_all [bodyPostS, results, Tryd.results19]

theorem find_mid {w w' : World} {b : Bool} {p : Option Addr} (hp : b = false → p = none)
    (h : Gives b ⟨w.heap.size, 0, none⟩ p ((w.alloc (.cells #[.pointer none] 38)).alloc (.cells #[.bool false] 4)) w') :
    Below w.heap.size w w' ∧ w'.cell? ⟨w.heap.size, 0, none⟩ = some (.pointer p) ∧ w'.cell? ⟨w.heap.size + 1, 0, none⟩ = some (.bool false) ∧ w'.frozen? ⟨w.heap.size, 0, none⟩ = false ∧ w'.frozen? ⟨w.heap.size + 1, 0, none⟩ = false := by
  obtain ⟨w1, hb, rfl⟩ := h
  have c0 : w1.cell? ⟨w.heap.size, 0, none⟩ = some (.pointer none) := by rw [hb.cell (by simp; omega)]; simp
  have c1 : w1.cell? ⟨w.heap.size + 1, 0, none⟩ = some (.bool false) := by rw [hb.cell (by simp)]; simp
  have z0 : w1.frozen? ⟨w.heap.size, 0, none⟩ = false := by rw [hb.frozen (by simp; omega)]; simp
  have z1 : w1.frozen? ⟨w.heap.size + 1, 0, none⟩ = false := by rw [hb.frozen (by simp)]; simp
  have hB : Below w.heap.size w w1 := (((Below.refl _ _).alloc (Nat.le_refl _) _).alloc (by simp) _).trans (hb.mono (by simp; omega))
  cases b with
  | false => obtain rfl := hp rfl; exact ⟨hB, c0, c1, z0, z1⟩
  | true =>
    refine ⟨hB.setCell (Nat.le_refl _) _, ?_, ?_, ?_, ?_⟩
    · exact World.cell?_setCell_same _ _ _ c0
    · rw [if_pos rfl, World.cell?_setCell_other _ _ ⟨w.heap.size + 1, 0, none⟩ _ (by simp)]; exact c1
    · simp [z0]
    · simp [z1]

set_option maxHeartbeats 1000000 in
theorem find_of {x : Value} {b : Bool} {p : Option Addr} (h : AsGives x b p) (hp : b = false → p = none) (w : World) (hg : Held w) :
    Calls Tryd.prog 11 #[x] w fun e w' => e = .returned (.tuple #[.pointer p, .bool b]) ∧ Below w.heap.size w w' := by
  have hmf : ∀ (fn : Fn) (first cap : Array Value) (w : World), (Instr.makeFunc fn first cap).run Tryd.prog w = .ok (.func fn first cap) w := fun _ _ _ _ => rfl
  have H := Lib.hid h
  have HG := Lib.hid hg
  have HP := Lib.hid hp
  have HL := Lib.hid hg.lt
  clear h hg hp
  go_enter_defers Tryd.func11, Tryd.ntmps11
  go_wp2_with fail
  refine (H.out ⟨w.heap.size, 0, none⟩ (.pointer none) _ ?_ (by simp) (by simp)).mono ?_
  · exact HG.out.below (((Below.refl _ _).alloc (Nat.le_refl _) _).alloc (by simp) _) HL.out
  rintro e w' ⟨rfl, hw⟩
  obtain ⟨hB, c0, c1, z0, z1⟩ := find_mid HP.out hw
  clear hw
  have HB := Lib.hid hB
  clear hB
  go_wp2
  go_region
  go_wp2
  refine leaves_cons (f := 19) (args := #[.pointer (some ⟨w.heap.size, 0, none⟩), .pointer (some ⟨w.heap.size + 1, 0, none⟩)]) (by simp) (by simp [go_sem]) ?_
  refine (find1_idle _ _ _).mono ?_
  rintro e u' w'' ⟨rfl, rfl, rfl⟩
  simp [Leaves, settle, results, Tryd.results11, go_sem, c0, c1]
  exact (((HB.out.setCell (by simp) _).setCell (by simp) _).setCell (by simp) _).drew

/-- num.Code of nil. -/
theorem code_nil (w : World) : Calls Tryd.prog 6 #[.nilIface] w fun e w' => e = .returned (.int .i64 0) ∧ w' = w := by
  go_enter Tryd.func6, Tryd.ntmps6
  go_wp2_with fail
  go_ret
  exact ⟨rfl, rfl⟩

/-- num.Code of a fault that there is, or that a wrapper has: its code. -/
theorem code_fault {T : TypeId} {v : Value} {a : Addr} (c : Int) (h : AsGives (.iface T v) true (some a)) (w : World) (hg : Held w) (hc : w.cell? ⟨a.block, a.off, a.spot⟩ = some (.int .i64 c)) :
    Calls Tryd.prog 6 #[.iface T v] w fun e w' => e = .returned (.int .i64 c) ∧ Below w.heap.size w w' := by
  have hf := Lib.hid (find_of h (by simp) w hg)
  have hl := lt_of_cell hc
  clear h hg
  have HC := Lib.hid hc
  clear hc
  go_enter Tryd.func6, Tryd.ntmps6
  go_wp2_with fail
  refine hf.out.mono ?_
  rintro e w' ⟨rfl, hb⟩
  have hc : w'.cell? ⟨a.block, a.off, a.spot⟩ = some (.int .i64 c) := (hb.cell hl).trans HC.out
  have HB := Lib.hid hb
  clear hb
  go_wp2
  go_ret
  exact ⟨rfl, HB.out⟩

end Go.Proofs.YtiemapkajpfikaaDoor
