/-
  Proved here: num.find, num.Code and num.Only at every error that layer 1's laws meet; what the laws' own 'panics' answers.
  Conditions: errors.errorType holds its type handle.
-/
import Derived.Test.YtieadejlnfjgbaaDoorFind
import Derived.WalkLawsBesides
namespace Go.Proofs.YtieadejlnfjgbaaDoor
open Go.RowKit Go.Extern.Stop Go.Stop Go.Extern

theorem asGives_fault (p : Option Addr) : AsGives (.iface 34 (.pointer p)) true p :=
  asGives_of fun a t old w ha ht hf => (as2_fault a t p old w ha ht hf).mono fun _ _ ⟨he, w1, hb, hw⟩ => ⟨he, w1, hb, hw⟩
theorem asGives_str (v : Value) : AsGives (.iface 73 v) false none :=
  asGives_of fun a t _ w _ _ _ => (as2_str v a t w).mono fun _ w' ⟨he, hb⟩ => ⟨he, w', hb, rfl⟩
theorem asGives_wfault (p : Option Addr) : AsGives (.iface 58 (.agg #[.iface 34 (.pointer p)])) true p :=
  asGives_of fun a t old w ha ht hf => (as2_wfault a t p old w ha ht hf).mono fun _ _ ⟨he, w1, hb, hw⟩ => ⟨he, w1, hb, hw⟩
theorem asGives_wstr (v : Value) : AsGives (.iface 58 (.agg #[.iface 73 v])) false none :=
  asGives_of fun a t _ w _ _ _ => (as2_wstr v a t w).mono fun _ w' ⟨he, hb⟩ => ⟨he, w', hb, rfl⟩

/-- num.find's deferred literal, where nothing panics. -/
theorem find1_idle (p q : Addr) (w : World) :
    CallsD Tryd.prog 36 #[.pointer (some p), .pointer (some q)] .returning w fun e u' w' => e = .returned (.tuple #[]) ∧ u' = .returning ∧ w' = w := by
  refine callsD_of_wpS Tryd.func36 rfl fun c₀ cs hu => ?_
  apply wpS_seq
  apply wpS_region
  simp [wpOpsS, go_sem, recoverD, hu, Tryd.ntmps36, Exit.thenS]
  refine wpS_cond (t := false) (by simp [Act.eval, Array.replicate]) ?_
  simp only [Bool.false_eq_true, if_false]
  refine wpS_of_wp (wp_skip ?_)
  cases c₀
  simp_all [bodyPostS, results, Tryd.results36]

theorem find_mid {w w' : World} {b : Bool} {p : Option Addr} (hp : b = false → p = none)
    (h : Gives b ⟨w.heap.size, 0, none⟩ p ((w.alloc (.cells #[.pointer none] 34)).alloc (.cells #[.bool false] 4)) w') :
    Below w.heap.size w w' ∧ w'.cell? ⟨w.heap.size, 0, none⟩ = some (.pointer p) ∧ w'.cell? ⟨w.heap.size + 1, 0, none⟩ = some (.bool false) ∧ w'.frozen? ⟨w.heap.size, 0, none⟩ = false ∧ w'.frozen? ⟨w.heap.size + 1, 0, none⟩ = false := by
  obtain ⟨w1, hb, rfl⟩ := h
  have c0 : w1.cell? ⟨w.heap.size, 0, none⟩ = some (.pointer none) := by rw [hb.cell (by simp; omega)]; simp
  have c1 : w1.cell? ⟨w.heap.size + 1, 0, none⟩ = some (.bool false) := by rw [hb.cell (by simp)]; simp
  have z0 : w1.frozen? ⟨w.heap.size, 0, none⟩ = false := by rw [hb.frozen (by simp; omega)]; simp
  have z1 : w1.frozen? ⟨w.heap.size + 1, 0, none⟩ = false := by rw [hb.frozen (by simp)]; simp
  have hB : Below w.heap.size w w1 := (((Below.refl _ _).alloc (Nat.le_refl _) _).alloc (by simp) _).trans (hb.mono (by simp; omega))
  cases b with
  | false => obtain rfl := hp rfl; exact ⟨hB, c0, c1, z0, z1⟩
  | true =>
    refine ⟨hB.setCell (Nat.le_refl _) _, ?_, ?_, ?_, ?_⟩
    · exact World.cell?_setCell_same _ _ _ c0
    · rw [if_pos rfl, World.cell?_setCell_other _ _ ⟨w.heap.size + 1, 0, none⟩ _ (by simp)]; exact c1
    · simp [z0]
    · simp [z1]

set_option maxHeartbeats 1000000 in
theorem find_of {x : Value} {b : Bool} {p : Option Addr} (h : AsGives x b p) (hp : b = false → p = none) (w : World) (hg : Held w) :
    Calls Tryd.prog 33 #[x] w fun e w' => e = .returned (.tuple #[.pointer p, .bool b]) ∧ Below w.heap.size w w' := by
  have hmf : ∀ (fn : Fn) (first cap : Array Value) (w : World), (Instr.makeFunc fn first cap).run Tryd.prog w = .ok (.func fn first cap) w := fun _ _ _ _ => rfl
  have H := Lib.hid h
  have HG := Lib.hid hg
  have HP := Lib.hid hp
  have HL := Lib.hid hg.lt
  clear h hg hp
  go_enter_defers Tryd.func33, Tryd.ntmps33
  go_wp2_with fail
  refine (H.out ⟨w.heap.size, 0, none⟩ (.pointer none) _ ?_ (by simp) (by simp)).mono ?_
  · exact HG.out.below (((Below.refl _ _).alloc (Nat.le_refl _) _).alloc (by simp) _) HL.out
  rintro e w' ⟨rfl, hw⟩
  obtain ⟨hB, c0, c1, z0, z1⟩ := find_mid HP.out hw
  clear hw
  have HB := Lib.hid hB
  clear hB
  go_wp2
  go_region
  go_wp2
  refine leaves_cons (f := 36) (args := #[.pointer (some ⟨w.heap.size, 0, none⟩), .pointer (some ⟨w.heap.size + 1, 0, none⟩)]) (by simp) (by simp [go_sem]) ?_
  refine (find1_idle _ _ _).mono ?_
  rintro e u' w'' ⟨rfl, rfl, rfl⟩
  simp [Leaves, settle, results, Tryd.results33, go_sem, c0, c1]
  exact (((HB.out.setCell (by simp) _).setCell (by simp) _).setCell (by simp) _).drew

/-- num.Code of nil. -/
theorem code_nil (w : World) : Calls Tryd.prog 26 #[.nilIface] w fun e w' => e = .returned (.int .i64 0) ∧ w' = w := by
  go_enter Tryd.func26, Tryd.ntmps26
  go_wp2_with fail
  go_ret
  exact ⟨rfl, rfl⟩

/-- num.Code of a fault that there is, or that a wrapper has: its code. -/
theorem code_fault {T : TypeId} {v : Value} {a : Addr} (c : Int) (h : AsGives (.iface T v) true (some a)) (w : World) (hg : Held w) (hc : w.cell? ⟨a.block, a.off, a.spot⟩ = some (.int .i64 c)) :
    Calls Tryd.prog 26 #[.iface T v] w fun e w' => e = .returned (.int .i64 c) ∧ Below w.heap.size w w' := by
  have hf := Lib.hid (find_of h (by simp) w hg)
  have hl := lt_of_cell hc
  clear h hg
  have HC := Lib.hid hc
  clear hc
  go_enter Tryd.func26, Tryd.ntmps26
  go_wp2_with fail
  refine hf.out.mono ?_
  rintro e w' ⟨rfl, hb⟩
  have hc : w'.cell? ⟨a.block, a.off, a.spot⟩ = some (.int .i64 c) := (hb.cell hl).trans HC.out
  have HB := Lib.hid hb
  clear hb
  go_wp2
  go_ret
  exact ⟨rfl, HB.out⟩

/-- num.Code of a nil fault: OK. -/
theorem code_nilfault {T : TypeId} {v : Value} (h : AsGives (.iface T v) true none) (w : World) (hg : Held w) :
    Calls Tryd.prog 26 #[.iface T v] w fun e w' => e = .returned (.int .i64 0) ∧ Below w.heap.size w w' := by
  have hf := Lib.hid (find_of h (by simp) w hg)
  clear h hg
  go_enter Tryd.func26, Tryd.ntmps26
  go_wp2_with fail
  refine hf.out.mono ?_
  rintro e w' ⟨rfl, hb⟩
  have HB := Lib.hid hb
  clear hb
  go_wp2
  go_ret
  exact ⟨rfl, HB.out⟩

/-- num.Code of any other error: ErrKind. -/
theorem code_other {T : TypeId} {v : Value} (h : AsGives (.iface T v) false none) (w : World) (hg : Held w) :
    Calls Tryd.prog 26 #[.iface T v] w fun e w' => e = .returned (.int .i64 10) ∧ Below w.heap.size w w' := by
  have hf := Lib.hid (find_of h (by simp) w hg)
  clear h hg
  go_enter Tryd.func26, Tryd.ntmps26
  go_wp2_with fail
  refine hf.out.mono ?_
  rintro e w' ⟨rfl, hb⟩
  have HB := Lib.hid hb
  clear hb
  go_wp2
  go_ret
  exact ⟨rfl, HB.out⟩

/-- num.Only of a fault. -/
theorem only_fault {x : Value} {p : Option Addr} (h : AsGives x true p) (w : World) (hg : Held w) :
    Calls Tryd.prog 28 #[x] w fun e w' => e = .returned (.pointer p) ∧ Below w.heap.size w w' := by
  have hf := Lib.hid (find_of h (by simp) w hg)
  clear h hg
  go_enter Tryd.func28, Tryd.ntmps28
  go_wp2_with fail
  refine hf.out.mono ?_
  rintro e w' ⟨rfl, hb⟩
  have HB := Lib.hid hb
  clear hb
  go_wp2
  go_ret
  exact ⟨rfl, HB.out⟩

def onlyText : ByteArray := { data := #[110, 117, 109, 58, 32, 79, 110, 108, 121, 32, 111, 102, 32, 119, 104, 97, 116, 32, 105, 115, 32, 110, 111, 32, 102, 97, 117, 108, 116] }
/-- num.Only of what is no fault: it panics. -/
theorem only_other {x : Value} (h : AsGives x false none) (w : World) (hg : Held w) :
    Calls Tryd.prog 28 #[x] w fun e w' => e = .panicked [{ v := .iface 9 (.string onlyText), recovered := false }] ∧ Below w.heap.size w w' := by
  have hf := Lib.hid (find_of h (by simp) w hg)
  clear h hg
  go_enter Tryd.func28, Tryd.ntmps28
  go_wp2_with fail
  refine hf.out.mono ?_
  rintro e w' ⟨rfl, hb⟩
  have HB := Lib.hid hb
  clear hb
  go_wp2
  exact ⟨rfl, rfl, HB.out⟩

/-- The laws' own 'panics': its deferred literal, where nothing panics. -/
theorem panics1_idle (p : Addr) (w : World) :
    CallsD Tryd.prog 34 #[.pointer (some p)] .returning w fun e u' w' => e = .returned (.tuple #[]) ∧ u' = .returning ∧ w' = w := by
  refine callsD_of_wpS Tryd.func34 rfl fun c₀ cs hu => ?_
  apply wpS_seq
  apply wpS_region
  simp [wpOpsS, go_sem, recoverD, hu, Tryd.ntmps34, Exit.thenS]
  refine wpS_cond (t := false) (by simp [Act.eval, Array.replicate]) ?_
  simp only [Bool.false_eq_true, if_false]
  refine wpS_of_wp (wp_skip ?_)
  cases c₀
  simp_all [bodyPostS, results, Tryd.results34]

/-- .. and where something does. -/
theorem panics1_caught (p : Addr) (x : Bool) (u : TypeId) (pv : Value) (older : List PanicEntry) (w : World) (hc : w.cell? p = some (.bool x)) (hz : w.frozen? p = false) :
    CallsD Tryd.prog 34 #[.pointer (some p)] (.panicking ({ v := .iface u pv, recovered := false } :: older)) w fun e u' w' =>
      e = .returned (.tuple #[]) ∧ u' = .panicking ({ v := .iface u pv, recovered := true } :: older) ∧ w' = w.setCell p (.bool true) := by
  refine callsD_of_wpS Tryd.func34 rfl fun c₀ cs hu => ?_
  apply wpS_seq
  apply wpS_region
  simp [wpOpsS, go_sem, recoverD, hu, Tryd.ntmps34, Exit.thenS]
  refine wpS_cond (t := true) (by simp [Act.eval, Array.replicate]) ?_
  simp only [if_true]
  apply wpS_region
  simp [wpOpsS, go_sem, hc, hz, bodyPostS, results, Tryd.results34]

theorem panics_no {x : Value} {p : Option Addr} (h : AsGives x true p) (w : World) (hg : Held w) :
    Calls Tryd.prog 29 #[x] w fun e w' => e = .returned (.bool false) ∧ Below w.heap.size w w' := by
  have hmf : ∀ (fn : Fn) (first cap : Array Value) (w : World), (Instr.makeFunc fn first cap).run Tryd.prog w = .ok (.func fn first cap) w := fun _ _ _ _ => rfl
  have ho := Lib.hid (only_fault h (w.alloc (.cells #[.bool false] 4)) (hg.below ((Below.refl _ _).alloc (Nat.le_refl _) _) hg.lt))
  clear h hg
  go_enter_defers Tryd.func29, Tryd.ntmps29
  go_wp2_with fail
  refine ho.out.mono ?_
  rintro e w' ⟨rfl, hb⟩
  have c0 : w'.cell? ⟨w.heap.size, 0, none⟩ = some (.bool false) := by rw [hb.cell (by simp)]; simp
  have z0 : w'.frozen? ⟨w.heap.size, 0, none⟩ = false := by rw [hb.frozen (by simp)]; simp
  have HB := Lib.hid (((Below.refl w.heap.size w).alloc (Nat.le_refl _) _).trans (hb.mono (by simp)))
  clear hb
  go_wp2
  refine leaves_cons (f := 34) (args := #[.pointer (some ⟨w.heap.size, 0, none⟩)]) (by simp) (by simp [go_sem]) ?_
  refine (panics1_idle _ _).mono ?_
  rintro e u' w'' ⟨rfl, rfl, rfl⟩
  simp [Leaves, settle, results, Tryd.results29, go_sem, c0]
  exact HB.out.setCell (by simp) _

theorem panics_yes {x : Value} (h : AsGives x false none) (w : World) (hg : Held w) :
    Calls Tryd.prog 29 #[x] w fun e w' => e = .returned (.bool true) ∧ Below w.heap.size w w' := by
  have hmf : ∀ (fn : Fn) (first cap : Array Value) (w : World), (Instr.makeFunc fn first cap).run Tryd.prog w = .ok (.func fn first cap) w := fun _ _ _ _ => rfl
  have ho := Lib.hid (only_other h (w.alloc (.cells #[.bool false] 4)) (hg.below ((Below.refl _ _).alloc (Nat.le_refl _) _) hg.lt))
  clear h hg
  go_enter_defers Tryd.func29, Tryd.ntmps29
  go_wp2_with fail
  refine ho.out.mono ?_
  rintro e w' ⟨rfl, hb⟩
  have c0 : w'.cell? ⟨w.heap.size, 0, none⟩ = some (.bool false) := by rw [hb.cell (by simp)]; simp
  have z0 : w'.frozen? ⟨w.heap.size, 0, none⟩ = false := by rw [hb.frozen (by simp)]; simp
  have HB := Lib.hid (((Below.refl w.heap.size w).alloc (Nat.le_refl _) _).trans (hb.mono (by simp)))
  clear hb
  go_wp2
  refine leaves_cons (f := 34) (args := #[.pointer (some ⟨w.heap.size, 0, none⟩)]) (by simp) (by simp [go_sem]) ?_
  refine (panics1_caught ⟨w.heap.size, 0, none⟩ false _ _ [] _ c0 z0).mono ?_
  rintro e u' w'' ⟨rfl, rfl, rfl⟩
  simp [Leaves, settle, results, Tryd.results29, go_sem, c0]
  exact HB.out.setCell (by simp) _
end Go.Proofs.YtieadejlnfjgbaaDoor
