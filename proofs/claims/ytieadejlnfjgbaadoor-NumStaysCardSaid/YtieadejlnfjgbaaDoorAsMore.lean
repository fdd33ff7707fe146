/-
  Proved here: what errors.as and errors.As answer at the target '**num.Fault' for an error of errors.New, and for a fault or such an error wrapped once; and errors.As at a fault.
  Conditions: as in the text before it.
-/
import Derived.Test.YtieadejlnfjgbaaDoorAs
namespace Go.Proofs.YtieadejlnfjgbaaDoor
open Go.RowKit Go.Extern.Stop Go.Stop Go.Extern

theorem Tryd.typeOfS (v : Value) (w : World) : (ReflectliteType.typeOf #[.iface 73 v]).run Tryd.prog w = .ok (.iface 98 (.agg #[.pointer (some ⟨4, 73, none⟩)])) w := by kernel_rfl
theorem Tryd.assignableS (w : World) : (ReflectliteType.relation "AssignableTo" ReflectliteType.assignableTo #[.agg #[.pointer (some ⟨4, 73, none⟩)], .iface 98 (.agg #[.pointer (some ⟨4, 34, none⟩)])]).run Tryd.prog w = .ok (.bool false) w := by kernel_rfl
theorem Tryd.noAsS (v : Value) (xT : TypeId) (w : World) : (Instr.typeAssert (.iface 73 v) xT 103 true).run Tryd.prog w = .ok (.tuple #[.nilIface, .bool false]) w := run_typeAssert_lacksB Tryd.underlying103 (by kernel_rfl) (by kernel_rfl) v xT w
theorem Tryd.noUnS (v : Value) (xT : TypeId) (w : World) : (Instr.typeAssert (.iface 73 v) xT 106 true).run Tryd.prog w = .ok (.tuple #[.nilIface, .bool false]) w := run_typeAssert_lacksB Tryd.underlying106 (by kernel_rfl) (by kernel_rfl) v xT w
theorem Tryd.noUnsS (v : Value) (xT : TypeId) (w : World) : (Instr.typeAssert (.iface 73 v) xT 108 true).run Tryd.prog w = .ok (.tuple #[.nilIface, .bool false]) w := run_typeAssert_lacksB Tryd.underlying108 (by kernel_rfl) (by kernel_rfl) v xT w

/-- errors.as at an error of errors.New: false. -/
theorem as2_str (v : Value) (a t : Addr) (w : World) :
    Calls Tryd.prog 42 #[.iface 73 v, .iface 77 (.pointer (some t)), .agg #[.pointer (some ⟨4, 77, none⟩), .pointer (some a), .int .u64 150], .iface 98 (.agg #[.pointer (some ⟨4, 34, none⟩)])] w
      fun e w' => e = .returned (.bool false) ∧ Below w.heap.size w w' := by
  have htyp := @run_callFunc_extern Tryd.prog 47 _ ReflectliteType.typeOf Tryd.func47 (by kernel_rfl) (by kernel_rfl) (by kernel_rfl) (by kernel_rfl)
  have hass := @run_callFunc_extern Tryd.prog 81 _ (ReflectliteType.relation "AssignableTo" ReflectliteType.assignableTo) Tryd.func81 (by kernel_rfl) (by kernel_rfl) (by kernel_rfl) (by kernel_rfl)
  have tO := Tryd.typeOfS
  have aF := Tryd.assignableS
  have n1 := Tryd.noAsS
  have n2 := Tryd.noUnS
  have n3 := Tryd.noUnsS
  go_enter Tryd.func42, Tryd.ntmps42
  go_wp2
  refine wp_loop_rounds 1 ?_
  rw [rounds_succ]
  go_wp2
  go_ret
  exact ⟨rfl, (Below.refl _ _).alloc (Nat.le_refl _) _⟩

theorem Tryd.typeOfW (v : Value) (w : World) : (ReflectliteType.typeOf #[.iface 58 v]).run Tryd.prog w = .ok (.iface 98 (.agg #[.pointer (some ⟨4, 58, none⟩)])) w := by kernel_rfl
theorem Tryd.assignableW (w : World) : (ReflectliteType.relation "AssignableTo" ReflectliteType.assignableTo #[.agg #[.pointer (some ⟨4, 58, none⟩)], .iface 98 (.agg #[.pointer (some ⟨4, 34, none⟩)])]).run Tryd.prog w = .ok (.bool false) w := by kernel_rfl
theorem Tryd.noAsW (v : Value) (xT : TypeId) (w : World) : (Instr.typeAssert (.iface 58 v) xT 103 true).run Tryd.prog w = .ok (.tuple #[.nilIface, .bool false]) w := run_typeAssert_lacksB Tryd.underlying103 (by kernel_rfl) (by kernel_rfl) v xT w
theorem Tryd.unW (v : Value) (xT : TypeId) (w : World) : (Instr.typeAssert (.iface 58 v) xT 106 true).run Tryd.prog w = .ok (.tuple #[.iface 58 v, .bool true]) w := run_typeAssert_hasB Tryd.underlying106 (by kernel_rfl) v xT w

/-- Unwrap of the law's own wrapper. -/
theorem unwrap_any (v : Value) (w : World) : Calls Tryd.prog 75 #[.agg #[v]] w fun e w' => e = .returned v ∧ w' = w.alloc (.cells #[v] 58) := by
  go_enter Tryd.func75, Tryd.ntmps75
  go_wp2
  go_ret
  exact ⟨rfl, rfl⟩

/-- errors.as at a wrapped fault: true, and the target is it. -/
theorem as2_wfault (a t : Addr) (p : Option Addr) (old : Value) (w : World) (ha : w.cell? a = some (.pointer (some t))) (ht : w.cell? t = some old) (hf : w.frozen? t = false) :
    Calls Tryd.prog 42 #[.iface 58 (.agg #[.iface 34 (.pointer p)]), .iface 77 (.pointer (some t)), .agg #[.pointer (some ⟨4, 77, none⟩), .pointer (some a), .int .u64 150], .iface 98 (.agg #[.pointer (some ⟨4, 34, none⟩)])] w
      fun e w' => e = .returned (.bool true) ∧ AsHit t p w w' := by
  have hval := @run_callFunc_extern Tryd.prog 39 _ (fun args => ReflectliteValue.unpack (args.getD 0 (.tuple #[]))) Tryd.func39 (by kernel_rfl) (by kernel_rfl) (by kernel_rfl) (by kernel_rfl)
  have htyp := @run_callFunc_extern Tryd.prog 47 _ ReflectliteType.typeOf Tryd.func47 (by kernel_rfl) (by kernel_rfl) (by kernel_rfl) (by kernel_rfl)
  have hass := @run_callFunc_extern Tryd.prog 81 _ (ReflectliteType.relation "AssignableTo" ReflectliteType.assignableTo) Tryd.func81 (by kernel_rfl) (by kernel_rfl) (by kernel_rfl) (by kernel_rfl)
  have helm := @run_callFunc_extern Tryd.prog 48 _ (ReflectliteValue.method (ReflectliteValue.valueError "reflectlite.Value.Elem" 0) ReflectliteValue.elem) Tryd.func48 (by kernel_rfl) (by kernel_rfl) (by kernel_rfl) (by kernel_rfl)
  have hset := @run_callFunc_extern Tryd.prog 49 _ ReflectliteValue.set Tryd.func49 (by kernel_rfl) (by kernel_rfl) (by kernel_rfl) (by kernel_rfl)
  have tW := Tryd.typeOfW
  have aW := Tryd.assignableW
  have n1 := Tryd.noAsW
  have n2 := Tryd.unW
  have tO := Tryd.typeOfF
  have aF := Tryd.assignableF
  have vF := Tryd.valueOfF
  have hla := lt_of_cell ha
  have hlt := lt_of_cell ht
  have el := Tryd.elemVFF a t ((w.alloc (.cells #[.pointer (some ⟨4, 77, none⟩), .pointer (some a), .int .u64 150] 82)).alloc (.cells #[.iface 34 (.pointer p)] 58)) (by rw [World.cell?_alloc_lt _ _ a (by simp; omega), World.cell?_alloc_lt _ _ a hla]; exact ha)
  have st := Tryd.setF t ⟨w.heap.size + 1 + 1, 0, none⟩ p old (((w.alloc (.cells #[.pointer (some ⟨4, 77, none⟩), .pointer (some a), .int .u64 150] 82)).alloc (.cells #[.iface 34 (.pointer p)] 58)).alloc (.cells #[.pointer p] 34))
    (by rw [World.cell?_alloc_at _ _ _ _ (by simp)]; rfl)
    (by rw [World.cell?_alloc_lt _ _ t (by simp; omega), World.cell?_alloc_lt _ _ t (by simp; omega), World.cell?_alloc_lt _ _ t hlt]; exact ht)
    (by rw [World.frozen?_alloc_old _ _ t (by simp; omega), World.frozen?_alloc_old _ _ t (by simp; omega), World.frozen?_alloc_old _ _ t (Nat.ne_of_lt hlt)]; exact hf)
  go_enter Tryd.func42, Tryd.ntmps42
  go_wp2
  refine wp_loop_rounds 2 ?_
  rw [rounds_succ]
  go_wp2
  rw [rounds_succ]
  go_wp2
  go_ret
  exact ⟨rfl, _, (((Below.refl _ _).alloc (Nat.le_refl _) _).alloc (by simp) _).alloc (by simp; omega) _, rfl⟩

/-- errors.as at a wrapped error of errors.New: false. -/
theorem as2_wstr (v : Value) (a t : Addr) (w : World) :
    Calls Tryd.prog 42 #[.iface 58 (.agg #[.iface 73 v]), .iface 77 (.pointer (some t)), .agg #[.pointer (some ⟨4, 77, none⟩), .pointer (some a), .int .u64 150], .iface 98 (.agg #[.pointer (some ⟨4, 34, none⟩)])] w
      fun e w' => e = .returned (.bool false) ∧ Below w.heap.size w w' := by
  have htyp := @run_callFunc_extern Tryd.prog 47 _ ReflectliteType.typeOf Tryd.func47 (by kernel_rfl) (by kernel_rfl) (by kernel_rfl) (by kernel_rfl)
  have hass := @run_callFunc_extern Tryd.prog 81 _ (ReflectliteType.relation "AssignableTo" ReflectliteType.assignableTo) Tryd.func81 (by kernel_rfl) (by kernel_rfl) (by kernel_rfl) (by kernel_rfl)
  have tW := Tryd.typeOfW
  have aW := Tryd.assignableW
  have m1 := Tryd.noAsW
  have m2 := Tryd.unW
  have tO := Tryd.typeOfS
  have aF := Tryd.assignableS
  have n1 := Tryd.noAsS
  have n2 := Tryd.noUnS
  have n3 := Tryd.noUnsS
  go_enter Tryd.func42, Tryd.ntmps42
  go_wp2
  refine wp_loop_rounds 2 ?_
  rw [rounds_succ]
  go_wp2
  rw [rounds_succ]
  go_wp2
  go_ret
  exact ⟨rfl, ((Below.refl _ _).alloc (Nat.le_refl _) _).alloc (by simp) _⟩
end Go.Proofs.YtieadejlnfjgbaaDoor
