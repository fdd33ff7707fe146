/-
  Proved here: the document's Same answers true of one packet without extensions twice.
  Conditions: none.
-/
import Derived.Test.YtkihhmnlefekoaaPk6
namespace Go.Proofs.Ytkihhmnlefekoaa
open Go.RowKit

theorem exs_cells {w : World} {ao : Option Addr} {n cap : Nat} {l : List (Int × ByteArray)} (h : Exs w (.slice ao n cap) l) : ∀ i (h : i < l.length), ∃ b o, ao = some ⟨b, o, none⟩ ∧ w.cell? ⟨b, o + i * 2, none⟩ = some (.int .i64 l[i].1) ∧ w.cell? ⟨b, o + i * 2 + 1, none⟩ = some (.string l[i].2) := by
  obtain ⟨ao', cap', e, hc⟩ := h
  injection e with e1 e2 e3
  subst e1
  exact hc
theorem list16u {l : List UInt8} (h : l.length = 16) : ∃ x0 x1 x2 x3 x4 x5 x6 x7 x8 x9 x10 x11 x12 x13 x14 x15 : UInt8, l = [x0, x1, x2, x3, x4, x5, x6, x7, x8, x9, x10, x11, x12, x13, x14, x15] := by
  match l, h with
  | [x0, x1, x2, x3, x4, x5, x6, x7, x8, x9, x10, x11, x12, x13, x14, x15], _ => exact ⟨x0, x1, x2, x3, x4, x5, x6, x7, x8, x9, x10, x11, x12, x13, x14, x15, rfl⟩
theorem Try.aggU8 (w : World) : (Go.isAgg 5).run Try.prog w = .ok false w := by kernel_rfl
theorem part_byte (l : List UInt8) (j : Nat) (h : j < l.length) (w : World) : (part 5 (bytV l).toArray j).run Try.prog w = .ok (.int .u8 (l[j].toNat : Int)) w := by
  unfold part
  rw [Sem.run_bind, Try.aggU8]
  have e : (bytV l).toArray[j]? = some (.int .u8 (l[j].toNat : Int)) := by
    rw [List.getElem?_toArray]
    unfold bytV
    rw [List.getElem?_map, List.getElem?_eq_getElem h]
    rfl
  simp [e]
theorem eqV6 (l : List UInt8) (h : l.length = 16) (w : World) : (binOp .eql 32 (.agg (bytV l).toArray) (.agg (bytV l).toArray)).run Try.prog w = .ok (.bool true) w := by
  obtain ⟨i0, hi, _, _, _⟩ := info_parts (show (Try.prog.info? 5).map (fun i => (i.zero, i.size, i.bytes)) = some (some (.int .u8 0), 1, 1) by kernel_rfl)
  rw [run_eql_struct, run_equalIn_array w 9999 _ _ Try.underlying32 hi]
  have hc : Try.prog.cellsOf 5 = 1 := by kernel_rfl
  rw [hc]
  have key : ∀ (is : List Nat), (∀ j ∈ is, j < l.length) → (Op.eqItems 9999 5 1 (bytV l).toArray (bytV l).toArray is).run Try.prog w = .ok true w := by
    intro is
    induction is with
    | nil => intro _; simp [Op.eqItems]
    | cons j r ih =>
      intro hj
      have hp := part_byte l j (hj j (by simp)) w
      have hn := run_equalIn_int (P := Try.prog) w 9998 5 .u8 .u8 (l[j]'(hj j (by simp))).toNat (l[j]'(hj j (by simp))).toNat Try.underlying5
      have hr := ih (fun x hx => hj x (by simp [hx]))
      simp [Op.eqItems, hp, hn, hr]
  rw [key (List.range 16) (fun j hj => by rw [h]; exact List.mem_range.1 hj)]
  rfl
set_option maxRecDepth 100000 in
set_option maxHeartbeats 2000000 in
theorem rsame_nil (p : Pk6) (w : World) (hx : p.exts = []) :
    Calls Try.prog 23 #[.agg (p.vals (.slice none 0 0)).toArray, .agg (p.vals (.slice none 0 0)).toArray] w fun e w' => e = .returned (.bool true) ∧ Below w.heap.size w w' := by
  obtain ⟨cls, flow, hop, fr, dst, exts, frag, id, pl, more, proto, data, hfr, hdst⟩ := p
  clear hx
  have HEF : Hid (∀ W, (binOp .eql 32 (.agg (bytV fr).toArray) (.agg (bytV fr).toArray)).run Try.prog W = .ok (.bool true) W) := Lib.hid (fun W => eqV6 _ hfr W)
  have HET : Hid (∀ W, (binOp .eql 32 (.agg (bytV dst).toArray) (.agg (bytV dst).toArray)).run Try.prog W = .ok (.bool true) W) := Lib.hid (fun W => eqV6 _ hdst W)
  have HIF : Hid ((Try.prog.info? 32).map (·.size) = some (bytV fr).length) := Lib.hid (Try.infoV6 _ hfr)
  have HIT : Hid ((Try.prog.info? 32).map (·.size) = some (bytV dst).length) := Lib.hid (Try.infoV6 _ hdst)
  have HC : Hid (∀ (W : World) (b : Nat) (T : TypeId), Bk W b T ((⟨cls, flow, hop, fr, dst, exts, frag, id, pl, more, proto, data, hfr, hdst⟩ : Pk6).vals (.slice none 0 0)).toArray → W.rangeAt b 3 (bytV fr) ∧ W.rangeAt b 19 (bytV dst)) := Lib.hid (fun W b T h => ⟨(cs6 h).fr, (cs6 h).dst⟩)
  generalize hV : Pk6.vals _ (.slice none 0 0) = V at *
  have HC0 : Hid (V[0]? = some (.int .i64 cls)) := Lib.hid (by rw [← hV]; exact rfl)
  have HC1 : Hid (V[1]? = some (.int .i64 flow)) := Lib.hid (by rw [← hV]; exact rfl)
  have HC2 : Hid (V[2]? = some (.int .i64 hop)) := Lib.hid (by rw [← hV]; exact rfl)
  have HC35 : Hid (V[35]? = some (.slice none 0 0)) := Lib.hid (by rw [← hV]; exact vals_tail _ _ 0)
  have HC36 : Hid (V[36]? = some (.bool frag)) := Lib.hid (by rw [← hV]; exact vals_tail _ _ 1)
  have HC37 : Hid (V[37]? = some (.int .u32 id)) := Lib.hid (by rw [← hV]; exact vals_tail _ _ 2)
  have HC38 : Hid (V[38]? = some (.int .i64 pl)) := Lib.hid (by rw [← hV]; exact vals_tail _ _ 3)
  have HC39 : Hid (V[39]? = some (.bool more)) := Lib.hid (by rw [← hV]; exact vals_tail _ _ 4)
  have HC40 : Hid (V[40]? = some (.int .i64 proto)) := Lib.hid (by rw [← hV]; exact vals_tail _ _ 5)
  have HC41 : Hid (V[41]? = some (.string data)) := Lib.hid (by rw [← hV]; exact vals_tail _ _ 6)
  clear hV
  generalize bytV fr = AF at *
  generalize bytV dst = AT at *
  have HK0 : Hid (Kp w w.heap.size [(w.heap.size + 1, 35, V), (w.heap.size, 35, V)] ((w.alloc (.cells V.toArray 35)).alloc (.cells V.toArray 35))) := Lib.hid (by
    have h := ((Kp.start w).new 35 V).new 35 V
    rw [show (w.alloc (.cells V.toArray 35)).heap.size = w.heap.size + 1 by simp] at h
    exact h)
  have d35 := HK0.out.tl.hd.at HC35.out
  have e35 := HK0.out.hd.at HC35.out
  go_enter Try.func23, Try.ntmps23
  go_wp2_with fail
  clear d35 e35
  go_loopw [5] (fun i wr => i = .int .i64 0 ∧ Kp w w.heap.size [(w.heap.size + 1, 35, V), (w.heap.size, 35, V)] wr) (fun i _ => 0)
  case atStart => exact ⟨rfl, HK0.out⟩
  case round =>
    obtain ⟨rfl, hkp⟩ := hrel
    have HK := Lib.hid hkp
    clear hkp
    have d0 := HK.out.tl.hd.at HC0.out
    have e0 := HK.out.hd.at HC0.out
    have d1 := HK.out.tl.hd.at HC1.out
    have e1 := HK.out.hd.at HC1.out
    have d2 := HK.out.tl.hd.at HC2.out
    have e2 := HK.out.hd.at HC2.out
    have d35 := HK.out.tl.hd.at HC35.out
    have e35 := HK.out.hd.at HC35.out
    have d36 := HK.out.tl.hd.at HC36.out
    have e36 := HK.out.hd.at HC36.out
    have d37 := HK.out.tl.hd.at HC37.out
    have e37 := HK.out.hd.at HC37.out
    have d38 := HK.out.tl.hd.at HC38.out
    have e38 := HK.out.hd.at HC38.out
    have d39 := HK.out.tl.hd.at HC39.out
    have e39 := HK.out.hd.at HC39.out
    have d40 := HK.out.tl.hd.at HC40.out
    have e40 := HK.out.hd.at HC40.out
    have d41 := HK.out.tl.hd.at HC41.out
    have e41 := HK.out.hd.at HC41.out
    have hef := HEF.out
    have het := HET.out
    have hgu := Try.guardV6
    have r1 := (HC.out _ _ _ HK.out.tl.hd).1
    have r2 := (HC.out _ _ _ HK.out.hd).1
    have r3 := (HC.out _ _ _ HK.out.tl.hd).2
    have r4 := (HC.out _ _ _ HK.out.hd).2
    go_upto_region 8 with fail
    refine wp_region_list ?_
    refine wpList_exec_if (op := { dst := some 31, op := Op.fieldAddr 35 (Operand.tmp 2) 0, type := 0, pos := "ref.go:28", after := #[], guard := none }) (by kernel_rfl) ?_ ?_ ?_
    rotate_left
    · (go_simp; try with_reducible rfl)
    (try simp only [Act.put, List.setIfInBounds_toArray, List.set_cons_zero, List.set_cons_succ])
    refine wpList_exec_if (op := { dst := some 32, op := Op.load 3 (Operand.tmp 31), type := 3, pos := "ref.go:28", after := #[{ on := 0, ground := Ground.data }], guard := none }) (by kernel_rfl) ?_ ?_ ?_
    rotate_left
    · (go_simp; try with_reducible rfl)
    (try simp only [Act.put, List.setIfInBounds_toArray, List.set_cons_zero, List.set_cons_succ])
    refine wpList_exec_if (op := { dst := some 33, op := Op.fieldAddr 35 (Operand.tmp 3) 0, type := 0, pos := "ref.go:28", after := #[], guard := none }) (by kernel_rfl) ?_ ?_ ?_
    rotate_left
    · (go_simp; try with_reducible rfl)
    (try simp only [Act.put, List.setIfInBounds_toArray, List.set_cons_zero, List.set_cons_succ])
    refine wpList_exec_if (op := { dst := some 34, op := Op.load 3 (Operand.tmp 33), type := 3, pos := "ref.go:28", after := #[{ on := 2, ground := Ground.data }], guard := none }) (by kernel_rfl) ?_ ?_ ?_
    rotate_left
    · (go_simp; try with_reducible rfl)
    (try simp only [Act.put, List.setIfInBounds_toArray, List.set_cons_zero, List.set_cons_succ])
    refine wpList_exec_if (op := { dst := some 35, op := Op.binOp BinOp.eql 3 (Operand.tmp 32) (Operand.tmp 34) 3, type := 4, pos := "ref.go:28", after := #[{ on := 1, ground := Ground.data }, { on := 3, ground := Ground.data }], guard := none }) (by kernel_rfl) ?_ ?_ ?_
    rotate_left
    · (go_simp; try with_reducible rfl)
    (try simp only [Act.put, List.setIfInBounds_toArray, List.set_cons_zero, List.set_cons_succ])
    refine wpList_exec_if (op := { dst := some 36, op := Op.move (Operand.tmp 35), type := 4, pos := "ref.go:28", after := #[{ on := 4, ground := Ground.data }], guard := none }) (by kernel_rfl) ?_ ?_ ?_
    rotate_left
    · (go_simp; try with_reducible rfl)
    (try simp only [Act.put, List.setIfInBounds_toArray, List.set_cons_zero, List.set_cons_succ])
    refine wpList_exec_if (op := { dst := some 37, op := Op.fieldAddr 35 (Operand.tmp 2) 1, type := 0, pos := "ref.go:28", after := #[{ on := 5, ground := Ground.guard }], guard := some (5, true) }) (by kernel_rfl) ?_ ?_ ?_
    rotate_left
    · (go_simp; try with_reducible rfl)
    (try simp only [Act.put, List.setIfInBounds_toArray, List.set_cons_zero, List.set_cons_succ])
    refine wpList_exec_if (op := { dst := some 38, op := Op.load 3 (Operand.tmp 37), type := 3, pos := "ref.go:28", after := #[{ on := 6, ground := Ground.data }, { on := 5, ground := Ground.guard }], guard := some (5, true) }) (by kernel_rfl) ?_ ?_ ?_
    rotate_left
    · (go_simp; try with_reducible rfl)
    (try simp only [Act.put, List.setIfInBounds_toArray, List.set_cons_zero, List.set_cons_succ])
    refine wpList_exec_if (op := { dst := some 39, op := Op.fieldAddr 35 (Operand.tmp 3) 1, type := 0, pos := "ref.go:28", after := #[{ on := 5, ground := Ground.guard }], guard := some (5, true) }) (by kernel_rfl) ?_ ?_ ?_
    rotate_left
    · (go_simp; try with_reducible rfl)
    (try simp only [Act.put, List.setIfInBounds_toArray, List.set_cons_zero, List.set_cons_succ])
    refine wpList_exec_if (op := { dst := some 40, op := Op.load 3 (Operand.tmp 39), type := 3, pos := "ref.go:28", after := #[{ on := 8, ground := Ground.data }, { on := 5, ground := Ground.guard }], guard := some (5, true) }) (by kernel_rfl) ?_ ?_ ?_
    rotate_left
    · (go_simp; try with_reducible rfl)
    (try simp only [Act.put, List.setIfInBounds_toArray, List.set_cons_zero, List.set_cons_succ])
    refine wpList_exec_if (op := { dst := some 41, op := Op.binOp BinOp.eql 3 (Operand.tmp 38) (Operand.tmp 40) 3, type := 4, pos := "ref.go:28", after := #[{ on := 7, ground := Ground.data }, { on := 9, ground := Ground.data }, { on := 5, ground := Ground.guard }], guard := some (5, true) }) (by kernel_rfl) ?_ ?_ ?_
    rotate_left
    · (go_simp; try with_reducible rfl)
    (try simp only [Act.put, List.setIfInBounds_toArray, List.set_cons_zero, List.set_cons_succ])
    refine wpList_exec_if (op := { dst := some 42, op := Op.pick (Operand.tmp 36) (Operand.tmp 41) (Operand.const (Value.bool false)), type := 4, pos := "ref.go:28", after := #[{ on := 5, ground := Ground.data }, { on := 10, ground := Ground.data }], guard := none }) (by kernel_rfl) ?_ ?_ ?_
    rotate_left
    · (go_simp; try with_reducible rfl)
    (try simp only [Act.put, List.setIfInBounds_toArray, List.set_cons_zero, List.set_cons_succ])
    refine wpList_exec_if (op := { dst := some 43, op := Op.move (Operand.tmp 42), type := 4, pos := "ref.go:28", after := #[{ on := 11, ground := Ground.data }, { on := 5, ground := Ground.chain }], guard := none }) (by kernel_rfl) ?_ ?_ ?_
    rotate_left
    · (go_simp; try with_reducible rfl)
    (try simp only [Act.put, List.setIfInBounds_toArray, List.set_cons_zero, List.set_cons_succ])
    refine wpList_exec_if (op := { dst := some 44, op := Op.fieldAddr 35 (Operand.tmp 2) 2, type := 0, pos := "ref.go:28", after := #[{ on := 12, ground := Ground.guard }], guard := some (12, true) }) (by kernel_rfl) ?_ ?_ ?_
    rotate_left
    · (go_simp; try with_reducible rfl)
    (try simp only [Act.put, List.setIfInBounds_toArray, List.set_cons_zero, List.set_cons_succ])
    refine wpList_exec_if (op := { dst := some 45, op := Op.load 3 (Operand.tmp 44), type := 3, pos := "ref.go:28", after := #[{ on := 13, ground := Ground.data }, { on := 12, ground := Ground.guard }], guard := some (12, true) }) (by kernel_rfl) ?_ ?_ ?_
    rotate_left
    · (go_simp; try with_reducible rfl)
    (try simp only [Act.put, List.setIfInBounds_toArray, List.set_cons_zero, List.set_cons_succ])
    refine wpList_exec_if (op := { dst := some 46, op := Op.fieldAddr 35 (Operand.tmp 3) 2, type := 0, pos := "ref.go:28", after := #[{ on := 12, ground := Ground.guard }], guard := some (12, true) }) (by kernel_rfl) ?_ ?_ ?_
    rotate_left
    · (go_simp; try with_reducible rfl)
    (try simp only [Act.put, List.setIfInBounds_toArray, List.set_cons_zero, List.set_cons_succ])
    refine wpList_exec_if (op := { dst := some 47, op := Op.load 3 (Operand.tmp 46), type := 3, pos := "ref.go:28", after := #[{ on := 15, ground := Ground.data }, { on := 12, ground := Ground.guard }], guard := some (12, true) }) (by kernel_rfl) ?_ ?_ ?_
    rotate_left
    · (go_simp; try with_reducible rfl)
    (try simp only [Act.put, List.setIfInBounds_toArray, List.set_cons_zero, List.set_cons_succ])
    refine wpList_exec_if (op := { dst := some 48, op := Op.binOp BinOp.eql 3 (Operand.tmp 45) (Operand.tmp 47) 3, type := 4, pos := "ref.go:28", after := #[{ on := 14, ground := Ground.data }, { on := 16, ground := Ground.data }, { on := 12, ground := Ground.guard }], guard := some (12, true) }) (by kernel_rfl) ?_ ?_ ?_
    rotate_left
    · (go_simp; try with_reducible rfl)
    (try simp only [Act.put, List.setIfInBounds_toArray, List.set_cons_zero, List.set_cons_succ])
    refine wpList_exec_if (op := { dst := some 49, op := Op.pick (Operand.tmp 43) (Operand.tmp 48) (Operand.const (Value.bool false)), type := 4, pos := "ref.go:28", after := #[{ on := 12, ground := Ground.data }, { on := 17, ground := Ground.data }], guard := none }) (by kernel_rfl) ?_ ?_ ?_
    rotate_left
    · (go_simp; try with_reducible rfl)
    (try simp only [Act.put, List.setIfInBounds_toArray, List.set_cons_zero, List.set_cons_succ])
    refine wpList_exec_if (op := { dst := some 50, op := Op.move (Operand.tmp 49), type := 4, pos := "ref.go:28", after := #[{ on := 18, ground := Ground.data }, { on := 12, ground := Ground.chain }], guard := none }) (by kernel_rfl) ?_ ?_ ?_
    rotate_left
    · (go_simp; try with_reducible rfl)
    (try simp only [Act.put, List.setIfInBounds_toArray, List.set_cons_zero, List.set_cons_succ])
    refine wpList_exec_if (op := { dst := some 51, op := Op.fieldAddr 35 (Operand.tmp 2) 3, type := 0, pos := "ref.go:28", after := #[{ on := 19, ground := Ground.guard }], guard := some (19, true) }) (by kernel_rfl) ?_ ?_ ?_
    rotate_left
    · (go_simp; try with_reducible rfl)
    (try simp only [Act.put, List.setIfInBounds_toArray, List.set_cons_zero, List.set_cons_succ])
    refine wpList_load_if (op := { dst := some 52, op := Op.load 32 (Operand.tmp 51), type := 32, pos := "ref.go:28", after := #[{ on := 20, ground := Ground.data }, { on := 19, ground := Ground.guard }], guard := some (19, true) }) (by kernel_rfl) 32 _ rfl (w.heap.size) 3 rfl AF _ r1 Try.underlying32 rfl HIF.out ?_
    (try simp only [Act.put, List.setIfInBounds_toArray, List.set_cons_zero, List.set_cons_succ])
    refine wpList_exec_if (op := { dst := some 53, op := Op.fieldAddr 35 (Operand.tmp 3) 3, type := 0, pos := "ref.go:28", after := #[{ on := 19, ground := Ground.guard }], guard := some (19, true) }) (by kernel_rfl) ?_ ?_ ?_
    rotate_left
    · (go_simp; try with_reducible rfl)
    (try simp only [Act.put, List.setIfInBounds_toArray, List.set_cons_zero, List.set_cons_succ])
    refine wpList_load_if (op := { dst := some 54, op := Op.load 32 (Operand.tmp 53), type := 32, pos := "ref.go:28", after := #[{ on := 22, ground := Ground.data }, { on := 19, ground := Ground.guard }], guard := some (19, true) }) (by kernel_rfl) 32 _ rfl (w.heap.size + 1) 3 rfl AF _ r2 Try.underlying32 rfl HIF.out ?_
    (try simp only [Act.put, List.setIfInBounds_toArray, List.set_cons_zero, List.set_cons_succ])
    refine wpList_exec_if (op := { dst := some 55, op := Op.binOp BinOp.eql 32 (Operand.tmp 52) (Operand.tmp 54) 32, type := 4, pos := "ref.go:28", after := #[{ on := 21, ground := Ground.data }, { on := 23, ground := Ground.data }, { on := 19, ground := Ground.guard }], guard := some (19, true) }) (by kernel_rfl) ?_ ?_ ?_
    rotate_left
    · (go_simp; try with_reducible rfl)
    (try simp only [Act.put, List.setIfInBounds_toArray, List.set_cons_zero, List.set_cons_succ])
    refine wpList_exec_if (op := { dst := some 56, op := Op.pick (Operand.tmp 50) (Operand.tmp 55) (Operand.const (Value.bool false)), type := 4, pos := "ref.go:28", after := #[{ on := 19, ground := Ground.data }, { on := 24, ground := Ground.data }], guard := none }) (by kernel_rfl) ?_ ?_ ?_
    rotate_left
    · (go_simp; try with_reducible rfl)
    (try simp only [Act.put, List.setIfInBounds_toArray, List.set_cons_zero, List.set_cons_succ])
    refine wpList_exec_if (op := { dst := some 57, op := Op.move (Operand.tmp 56), type := 4, pos := "ref.go:28", after := #[{ on := 25, ground := Ground.data }, { on := 19, ground := Ground.chain }], guard := none }) (by kernel_rfl) ?_ ?_ ?_
    rotate_left
    · (go_simp; try with_reducible rfl)
    (try simp only [Act.put, List.setIfInBounds_toArray, List.set_cons_zero, List.set_cons_succ])
    refine wpList_exec_if (op := { dst := some 58, op := Op.fieldAddr 35 (Operand.tmp 2) 4, type := 0, pos := "ref.go:28", after := #[{ on := 26, ground := Ground.guard }], guard := some (26, true) }) (by kernel_rfl) ?_ ?_ ?_
    rotate_left
    · (go_simp; try with_reducible rfl)
    (try simp only [Act.put, List.setIfInBounds_toArray, List.set_cons_zero, List.set_cons_succ])
    refine wpList_load_if (op := { dst := some 59, op := Op.load 32 (Operand.tmp 58), type := 32, pos := "ref.go:28", after := #[{ on := 27, ground := Ground.data }, { on := 26, ground := Ground.guard }], guard := some (26, true) }) (by kernel_rfl) 32 _ rfl (w.heap.size) 19 rfl AT _ r3 Try.underlying32 rfl HIT.out ?_
    (try simp only [Act.put, List.setIfInBounds_toArray, List.set_cons_zero, List.set_cons_succ])
    refine wpList_exec_if (op := { dst := some 60, op := Op.fieldAddr 35 (Operand.tmp 3) 4, type := 0, pos := "ref.go:28", after := #[{ on := 26, ground := Ground.guard }], guard := some (26, true) }) (by kernel_rfl) ?_ ?_ ?_
    rotate_left
    · (go_simp; try with_reducible rfl)
    (try simp only [Act.put, List.setIfInBounds_toArray, List.set_cons_zero, List.set_cons_succ])
    refine wpList_load_if (op := { dst := some 61, op := Op.load 32 (Operand.tmp 60), type := 32, pos := "ref.go:28", after := #[{ on := 29, ground := Ground.data }, { on := 26, ground := Ground.guard }], guard := some (26, true) }) (by kernel_rfl) 32 _ rfl (w.heap.size + 1) 19 rfl AT _ r4 Try.underlying32 rfl HIT.out ?_
    (try simp only [Act.put, List.setIfInBounds_toArray, List.set_cons_zero, List.set_cons_succ])
    refine wpList_exec_if (op := { dst := some 62, op := Op.binOp BinOp.eql 32 (Operand.tmp 59) (Operand.tmp 61) 32, type := 4, pos := "ref.go:28", after := #[{ on := 28, ground := Ground.data }, { on := 30, ground := Ground.data }, { on := 26, ground := Ground.guard }], guard := some (26, true) }) (by kernel_rfl) ?_ ?_ ?_
    rotate_left
    · (go_simp; try with_reducible rfl)
    (try simp only [Act.put, List.setIfInBounds_toArray, List.set_cons_zero, List.set_cons_succ])
    refine wpList_exec_if (op := { dst := some 63, op := Op.pick (Operand.tmp 57) (Operand.tmp 62) (Operand.const (Value.bool false)), type := 4, pos := "ref.go:28", after := #[{ on := 26, ground := Ground.data }, { on := 31, ground := Ground.data }], guard := none }) (by kernel_rfl) ?_ ?_ ?_
    rotate_left
    · (go_simp; try with_reducible rfl)
    (try simp only [Act.put, List.setIfInBounds_toArray, List.set_cons_zero, List.set_cons_succ])
    refine wpList_exec_if (op := { dst := some 64, op := Op.move (Operand.tmp 63), type := 4, pos := "ref.go:28", after := #[{ on := 32, ground := Ground.data }, { on := 26, ground := Ground.chain }], guard := none }) (by kernel_rfl) ?_ ?_ ?_
    rotate_left
    · (go_simp; try with_reducible rfl)
    (try simp only [Act.put, List.setIfInBounds_toArray, List.set_cons_zero, List.set_cons_succ])
    refine wpList_exec_if (op := { dst := some 65, op := Op.fieldAddr 35 (Operand.tmp 2) 6, type := 0, pos := "ref.go:28", after := #[{ on := 33, ground := Ground.guard }], guard := some (33, true) }) (by kernel_rfl) ?_ ?_ ?_
    rotate_left
    · (go_simp; try with_reducible rfl)
    (try simp only [Act.put, List.setIfInBounds_toArray, List.set_cons_zero, List.set_cons_succ])
    refine wpList_exec_if (op := { dst := some 66, op := Op.load 4 (Operand.tmp 65), type := 4, pos := "ref.go:28", after := #[{ on := 34, ground := Ground.data }, { on := 33, ground := Ground.guard }], guard := some (33, true) }) (by kernel_rfl) ?_ ?_ ?_
    rotate_left
    · (go_simp; try with_reducible rfl)
    (try simp only [Act.put, List.setIfInBounds_toArray, List.set_cons_zero, List.set_cons_succ])
    refine wpList_exec_if (op := { dst := some 67, op := Op.fieldAddr 35 (Operand.tmp 3) 6, type := 0, pos := "ref.go:28", after := #[{ on := 33, ground := Ground.guard }], guard := some (33, true) }) (by kernel_rfl) ?_ ?_ ?_
    rotate_left
    · (go_simp; try with_reducible rfl)
    (try simp only [Act.put, List.setIfInBounds_toArray, List.set_cons_zero, List.set_cons_succ])
    refine wpList_exec_if (op := { dst := some 68, op := Op.load 4 (Operand.tmp 67), type := 4, pos := "ref.go:28", after := #[{ on := 36, ground := Ground.data }, { on := 33, ground := Ground.guard }], guard := some (33, true) }) (by kernel_rfl) ?_ ?_ ?_
    rotate_left
    · (go_simp; try with_reducible rfl)
    (try simp only [Act.put, List.setIfInBounds_toArray, List.set_cons_zero, List.set_cons_succ])
    refine wpList_exec_if (op := { dst := some 69, op := Op.binOp BinOp.eql 4 (Operand.tmp 66) (Operand.tmp 68) 4, type := 4, pos := "ref.go:28", after := #[{ on := 35, ground := Ground.data }, { on := 37, ground := Ground.data }, { on := 33, ground := Ground.guard }], guard := some (33, true) }) (by kernel_rfl) ?_ ?_ ?_
    rotate_left
    · (go_simp; try with_reducible rfl)
    (try simp only [Act.put, List.setIfInBounds_toArray, List.set_cons_zero, List.set_cons_succ])
    refine wpList_exec_if (op := { dst := some 70, op := Op.pick (Operand.tmp 64) (Operand.tmp 69) (Operand.const (Value.bool false)), type := 4, pos := "ref.go:28", after := #[{ on := 33, ground := Ground.data }, { on := 38, ground := Ground.data }], guard := none }) (by kernel_rfl) ?_ ?_ ?_
    rotate_left
    · (go_simp; try with_reducible rfl)
    (try simp only [Act.put, List.setIfInBounds_toArray, List.set_cons_zero, List.set_cons_succ])
    refine wpList_exec_if (op := { dst := some 71, op := Op.move (Operand.tmp 70), type := 4, pos := "ref.go:28", after := #[{ on := 39, ground := Ground.data }, { on := 33, ground := Ground.chain }], guard := none }) (by kernel_rfl) ?_ ?_ ?_
    rotate_left
    · (go_simp; try with_reducible rfl)
    (try simp only [Act.put, List.setIfInBounds_toArray, List.set_cons_zero, List.set_cons_succ])
    refine wpList_exec_if (op := { dst := some 72, op := Op.fieldAddr 35 (Operand.tmp 2) 7, type := 0, pos := "ref.go:28", after := #[{ on := 40, ground := Ground.guard }], guard := some (40, true) }) (by kernel_rfl) ?_ ?_ ?_
    rotate_left
    · (go_simp; try with_reducible rfl)
    (try simp only [Act.put, List.setIfInBounds_toArray, List.set_cons_zero, List.set_cons_succ])
    refine wpList_exec_if (op := { dst := some 73, op := Op.load 30 (Operand.tmp 72), type := 30, pos := "ref.go:28", after := #[{ on := 41, ground := Ground.data }, { on := 40, ground := Ground.guard }], guard := some (40, true) }) (by kernel_rfl) ?_ ?_ ?_
    rotate_left
    · (go_simp; try with_reducible rfl)
    (try simp only [Act.put, List.setIfInBounds_toArray, List.set_cons_zero, List.set_cons_succ])
    refine wpList_exec_if (op := { dst := some 74, op := Op.fieldAddr 35 (Operand.tmp 3) 7, type := 0, pos := "ref.go:28", after := #[{ on := 40, ground := Ground.guard }], guard := some (40, true) }) (by kernel_rfl) ?_ ?_ ?_
    rotate_left
    · (go_simp; try with_reducible rfl)
    (try simp only [Act.put, List.setIfInBounds_toArray, List.set_cons_zero, List.set_cons_succ])
    refine wpList_exec_if (op := { dst := some 75, op := Op.load 30 (Operand.tmp 74), type := 30, pos := "ref.go:28", after := #[{ on := 43, ground := Ground.data }, { on := 40, ground := Ground.guard }], guard := some (40, true) }) (by kernel_rfl) ?_ ?_ ?_
    rotate_left
    · (go_simp; try with_reducible rfl)
    (try simp only [Act.put, List.setIfInBounds_toArray, List.set_cons_zero, List.set_cons_succ])
    refine wpList_exec_if (op := { dst := some 76, op := Op.binOp BinOp.eql 30 (Operand.tmp 73) (Operand.tmp 75) 30, type := 4, pos := "ref.go:28", after := #[{ on := 42, ground := Ground.data }, { on := 44, ground := Ground.data }, { on := 40, ground := Ground.guard }], guard := some (40, true) }) (by kernel_rfl) ?_ ?_ ?_
    rotate_left
    · (go_simp; try with_reducible rfl)
    (try simp only [Act.put, List.setIfInBounds_toArray, List.set_cons_zero, List.set_cons_succ])
    refine wpList_exec_if (op := { dst := some 77, op := Op.pick (Operand.tmp 71) (Operand.tmp 76) (Operand.const (Value.bool false)), type := 4, pos := "ref.go:28", after := #[{ on := 40, ground := Ground.data }, { on := 45, ground := Ground.data }], guard := none }) (by kernel_rfl) ?_ ?_ ?_
    rotate_left
    · (go_simp; try with_reducible rfl)
    (try simp only [Act.put, List.setIfInBounds_toArray, List.set_cons_zero, List.set_cons_succ])
    refine wpList_exec_if (op := { dst := some 78, op := Op.move (Operand.tmp 77), type := 4, pos := "ref.go:28", after := #[{ on := 46, ground := Ground.data }, { on := 40, ground := Ground.chain }], guard := none }) (by kernel_rfl) ?_ ?_ ?_
    rotate_left
    · (go_simp; try with_reducible rfl)
    (try simp only [Act.put, List.setIfInBounds_toArray, List.set_cons_zero, List.set_cons_succ])
    refine wpList_exec_if (op := { dst := some 79, op := Op.fieldAddr 35 (Operand.tmp 2) 8, type := 0, pos := "ref.go:28", after := #[{ on := 47, ground := Ground.guard }], guard := some (47, true) }) (by kernel_rfl) ?_ ?_ ?_
    rotate_left
    · (go_simp; try with_reducible rfl)
    (try simp only [Act.put, List.setIfInBounds_toArray, List.set_cons_zero, List.set_cons_succ])
    refine wpList_exec_if (op := { dst := some 80, op := Op.load 3 (Operand.tmp 79), type := 3, pos := "ref.go:28", after := #[{ on := 48, ground := Ground.data }, { on := 47, ground := Ground.guard }], guard := some (47, true) }) (by kernel_rfl) ?_ ?_ ?_
    rotate_left
    · (go_simp; try with_reducible rfl)
    (try simp only [Act.put, List.setIfInBounds_toArray, List.set_cons_zero, List.set_cons_succ])
    refine wpList_exec_if (op := { dst := some 81, op := Op.fieldAddr 35 (Operand.tmp 3) 8, type := 0, pos := "ref.go:28", after := #[{ on := 47, ground := Ground.guard }], guard := some (47, true) }) (by kernel_rfl) ?_ ?_ ?_
    rotate_left
    · (go_simp; try with_reducible rfl)
    (try simp only [Act.put, List.setIfInBounds_toArray, List.set_cons_zero, List.set_cons_succ])
    refine wpList_exec_if (op := { dst := some 82, op := Op.load 3 (Operand.tmp 81), type := 3, pos := "ref.go:28", after := #[{ on := 50, ground := Ground.data }, { on := 47, ground := Ground.guard }], guard := some (47, true) }) (by kernel_rfl) ?_ ?_ ?_
    rotate_left
    · (go_simp; try with_reducible rfl)
    (try simp only [Act.put, List.setIfInBounds_toArray, List.set_cons_zero, List.set_cons_succ])
    refine wpList_exec_if (op := { dst := some 83, op := Op.binOp BinOp.eql 3 (Operand.tmp 80) (Operand.tmp 82) 3, type := 4, pos := "ref.go:28", after := #[{ on := 49, ground := Ground.data }, { on := 51, ground := Ground.data }, { on := 47, ground := Ground.guard }], guard := some (47, true) }) (by kernel_rfl) ?_ ?_ ?_
    rotate_left
    · (go_simp; try with_reducible rfl)
    (try simp only [Act.put, List.setIfInBounds_toArray, List.set_cons_zero, List.set_cons_succ])
    refine wpList_exec_if (op := { dst := some 84, op := Op.pick (Operand.tmp 78) (Operand.tmp 83) (Operand.const (Value.bool false)), type := 4, pos := "ref.go:28", after := #[{ on := 47, ground := Ground.data }, { on := 52, ground := Ground.data }], guard := none }) (by kernel_rfl) ?_ ?_ ?_
    rotate_left
    · (go_simp; try with_reducible rfl)
    (try simp only [Act.put, List.setIfInBounds_toArray, List.set_cons_zero, List.set_cons_succ])
    refine wpList_exec_if (op := { dst := some 85, op := Op.move (Operand.tmp 84), type := 4, pos := "ref.go:28", after := #[{ on := 53, ground := Ground.data }, { on := 47, ground := Ground.chain }], guard := none }) (by kernel_rfl) ?_ ?_ ?_
    rotate_left
    · (go_simp; try with_reducible rfl)
    (try simp only [Act.put, List.setIfInBounds_toArray, List.set_cons_zero, List.set_cons_succ])
    refine wpList_exec_if (op := { dst := some 86, op := Op.fieldAddr 35 (Operand.tmp 2) 9, type := 0, pos := "ref.go:28", after := #[{ on := 54, ground := Ground.guard }], guard := some (54, true) }) (by kernel_rfl) ?_ ?_ ?_
    rotate_left
    · (go_simp; try with_reducible rfl)
    (try simp only [Act.put, List.setIfInBounds_toArray, List.set_cons_zero, List.set_cons_succ])
    refine wpList_exec_if (op := { dst := some 87, op := Op.load 4 (Operand.tmp 86), type := 4, pos := "ref.go:28", after := #[{ on := 55, ground := Ground.data }, { on := 54, ground := Ground.guard }], guard := some (54, true) }) (by kernel_rfl) ?_ ?_ ?_
    rotate_left
    · (go_simp; try with_reducible rfl)
    (try simp only [Act.put, List.setIfInBounds_toArray, List.set_cons_zero, List.set_cons_succ])
    refine wpList_exec_if (op := { dst := some 88, op := Op.fieldAddr 35 (Operand.tmp 3) 9, type := 0, pos := "ref.go:28", after := #[{ on := 54, ground := Ground.guard }], guard := some (54, true) }) (by kernel_rfl) ?_ ?_ ?_
    rotate_left
    · (go_simp; try with_reducible rfl)
    (try simp only [Act.put, List.setIfInBounds_toArray, List.set_cons_zero, List.set_cons_succ])
    refine wpList_exec_if (op := { dst := some 89, op := Op.load 4 (Operand.tmp 88), type := 4, pos := "ref.go:28", after := #[{ on := 57, ground := Ground.data }, { on := 54, ground := Ground.guard }], guard := some (54, true) }) (by kernel_rfl) ?_ ?_ ?_
    rotate_left
    · (go_simp; try with_reducible rfl)
    (try simp only [Act.put, List.setIfInBounds_toArray, List.set_cons_zero, List.set_cons_succ])
    refine wpList_exec_if (op := { dst := some 90, op := Op.binOp BinOp.eql 4 (Operand.tmp 87) (Operand.tmp 89) 4, type := 4, pos := "ref.go:28", after := #[{ on := 56, ground := Ground.data }, { on := 58, ground := Ground.data }, { on := 54, ground := Ground.guard }], guard := some (54, true) }) (by kernel_rfl) ?_ ?_ ?_
    rotate_left
    · (go_simp; try with_reducible rfl)
    (try simp only [Act.put, List.setIfInBounds_toArray, List.set_cons_zero, List.set_cons_succ])
    refine wpList_exec_if (op := { dst := some 91, op := Op.pick (Operand.tmp 85) (Operand.tmp 90) (Operand.const (Value.bool false)), type := 4, pos := "ref.go:28", after := #[{ on := 54, ground := Ground.data }, { on := 59, ground := Ground.data }], guard := none }) (by kernel_rfl) ?_ ?_ ?_
    rotate_left
    · (go_simp; try with_reducible rfl)
    (try simp only [Act.put, List.setIfInBounds_toArray, List.set_cons_zero, List.set_cons_succ])
    refine wpList_exec_if (op := { dst := some 92, op := Op.move (Operand.tmp 91), type := 4, pos := "ref.go:28", after := #[{ on := 60, ground := Ground.data }, { on := 54, ground := Ground.chain }], guard := none }) (by kernel_rfl) ?_ ?_ ?_
    rotate_left
    · (go_simp; try with_reducible rfl)
    (try simp only [Act.put, List.setIfInBounds_toArray, List.set_cons_zero, List.set_cons_succ])
    refine wpList_exec_if (op := { dst := some 93, op := Op.fieldAddr 35 (Operand.tmp 2) 10, type := 0, pos := "ref.go:28", after := #[{ on := 61, ground := Ground.guard }], guard := some (61, true) }) (by kernel_rfl) ?_ ?_ ?_
    rotate_left
    · (go_simp; try with_reducible rfl)
    (try simp only [Act.put, List.setIfInBounds_toArray, List.set_cons_zero, List.set_cons_succ])
    refine wpList_exec_if (op := { dst := some 94, op := Op.load 3 (Operand.tmp 93), type := 3, pos := "ref.go:28", after := #[{ on := 62, ground := Ground.data }, { on := 61, ground := Ground.guard }], guard := some (61, true) }) (by kernel_rfl) ?_ ?_ ?_
    rotate_left
    · (go_simp; try with_reducible rfl)
    (try simp only [Act.put, List.setIfInBounds_toArray, List.set_cons_zero, List.set_cons_succ])
    refine wpList_exec_if (op := { dst := some 95, op := Op.fieldAddr 35 (Operand.tmp 3) 10, type := 0, pos := "ref.go:28", after := #[{ on := 61, ground := Ground.guard }], guard := some (61, true) }) (by kernel_rfl) ?_ ?_ ?_
    rotate_left
    · (go_simp; try with_reducible rfl)
    (try simp only [Act.put, List.setIfInBounds_toArray, List.set_cons_zero, List.set_cons_succ])
    refine wpList_exec_if (op := { dst := some 96, op := Op.load 3 (Operand.tmp 95), type := 3, pos := "ref.go:28", after := #[{ on := 64, ground := Ground.data }, { on := 61, ground := Ground.guard }], guard := some (61, true) }) (by kernel_rfl) ?_ ?_ ?_
    rotate_left
    · (go_simp; try with_reducible rfl)
    (try simp only [Act.put, List.setIfInBounds_toArray, List.set_cons_zero, List.set_cons_succ])
    refine wpList_exec_if (op := { dst := some 97, op := Op.binOp BinOp.eql 3 (Operand.tmp 94) (Operand.tmp 96) 3, type := 4, pos := "ref.go:28", after := #[{ on := 63, ground := Ground.data }, { on := 65, ground := Ground.data }, { on := 61, ground := Ground.guard }], guard := some (61, true) }) (by kernel_rfl) ?_ ?_ ?_
    rotate_left
    · (go_simp; try with_reducible rfl)
    (try simp only [Act.put, List.setIfInBounds_toArray, List.set_cons_zero, List.set_cons_succ])
    refine wpList_exec_if (op := { dst := some 98, op := Op.pick (Operand.tmp 92) (Operand.tmp 97) (Operand.const (Value.bool false)), type := 4, pos := "ref.go:28", after := #[{ on := 61, ground := Ground.data }, { on := 66, ground := Ground.data }], guard := none }) (by kernel_rfl) ?_ ?_ ?_
    rotate_left
    · (go_simp; try with_reducible rfl)
    (try simp only [Act.put, List.setIfInBounds_toArray, List.set_cons_zero, List.set_cons_succ])
    refine wpList_exec_if (op := { dst := some 99, op := Op.move (Operand.tmp 98), type := 4, pos := "ref.go:28", after := #[{ on := 67, ground := Ground.data }, { on := 61, ground := Ground.chain }], guard := none }) (by kernel_rfl) ?_ ?_ ?_
    rotate_left
    · (go_simp; try with_reducible rfl)
    (try simp only [Act.put, List.setIfInBounds_toArray, List.set_cons_zero, List.set_cons_succ])
    refine wpList_exec_if (op := { dst := some 100, op := Op.fieldAddr 35 (Operand.tmp 2) 11, type := 0, pos := "ref.go:28", after := #[{ on := 68, ground := Ground.guard }], guard := some (68, true) }) (by kernel_rfl) ?_ ?_ ?_
    rotate_left
    · (go_simp; try with_reducible rfl)
    (try simp only [Act.put, List.setIfInBounds_toArray, List.set_cons_zero, List.set_cons_succ])
    refine wpList_exec_if (op := { dst := some 101, op := Op.load 9 (Operand.tmp 100), type := 9, pos := "ref.go:28", after := #[{ on := 69, ground := Ground.data }, { on := 68, ground := Ground.guard }], guard := some (68, true) }) (by kernel_rfl) ?_ ?_ ?_
    rotate_left
    · (go_simp; try with_reducible rfl)
    (try simp only [Act.put, List.setIfInBounds_toArray, List.set_cons_zero, List.set_cons_succ])
    refine wpList_exec_if (op := { dst := some 102, op := Op.fieldAddr 35 (Operand.tmp 3) 11, type := 0, pos := "ref.go:28", after := #[{ on := 68, ground := Ground.guard }], guard := some (68, true) }) (by kernel_rfl) ?_ ?_ ?_
    rotate_left
    · (go_simp; try with_reducible rfl)
    (try simp only [Act.put, List.setIfInBounds_toArray, List.set_cons_zero, List.set_cons_succ])
    refine wpList_exec_if (op := { dst := some 103, op := Op.load 9 (Operand.tmp 102), type := 9, pos := "ref.go:28", after := #[{ on := 71, ground := Ground.data }, { on := 68, ground := Ground.guard }], guard := some (68, true) }) (by kernel_rfl) ?_ ?_ ?_
    rotate_left
    · (go_simp; try with_reducible rfl)
    (try simp only [Act.put, List.setIfInBounds_toArray, List.set_cons_zero, List.set_cons_succ])
    refine wpList_exec_if (op := { dst := some 104, op := Op.binOp BinOp.eql 9 (Operand.tmp 101) (Operand.tmp 103) 9, type := 4, pos := "ref.go:28", after := #[{ on := 70, ground := Ground.data }, { on := 72, ground := Ground.data }, { on := 68, ground := Ground.guard }], guard := some (68, true) }) (by kernel_rfl) ?_ ?_ ?_
    rotate_left
    · (go_simp; try with_reducible rfl)
    (try simp only [Act.put, List.setIfInBounds_toArray, List.set_cons_zero, List.set_cons_succ])
    refine wpList_exec_if (op := { dst := some 105, op := Op.pick (Operand.tmp 99) (Operand.tmp 104) (Operand.const (Value.bool false)), type := 4, pos := "ref.go:28", after := #[{ on := 68, ground := Ground.data }, { on := 73, ground := Ground.data }], guard := none }) (by kernel_rfl) ?_ ?_ ?_
    rotate_left
    · (go_simp; try with_reducible rfl)
    (try simp only [Act.put, List.setIfInBounds_toArray, List.set_cons_zero, List.set_cons_succ])
    refine wpList_exec_if (op := { dst := some 4, op := Op.assign (Operand.tmp 105), type := 4, pos := "ref.go:28", after := ([{ on := 74, ground := Ground.data }, { on := 68, ground := Ground.chain }, { on := 0, ground := Ground.phase }, { on := 1, ground := Ground.phase }, { on := 2, ground := Ground.phase }, { on := 3, ground := Ground.phase }, { on := 4, ground := Ground.phase }, { on := 5, ground := Ground.phase }, { on := 6, ground := Ground.phase }, { on := 7, ground := Ground.phase }, { on := 8, ground := Ground.phase }, { on := 9, ground := Ground.phase }, { on := 10, ground := Ground.phase }, { on := 11, ground := Ground.phase }, { on := 12, ground := Ground.phase }, { on := 13, ground := Ground.phase }, { on := 14, ground := Ground.phase }, { on := 15, ground := Ground.phase }, { on := 16, ground := Ground.phase }, { on := 17, ground := Ground.phase }, { on := 18, ground := Ground.phase }, { on := 19, ground := Ground.phase }, { on := 20, ground := Ground.phase }, { on := 21, ground := Ground.phase }, { on := 22, ground := Ground.phase }, { on := 23, ground := Ground.phase }, { on := 24, ground := Ground.phase }, { on := 25, ground := Ground.phase }, { on := 26, ground := Ground.phase }, { on := 27, ground := Ground.phase }, { on := 28, ground := Ground.phase }, { on := 29, ground := Ground.phase }, { on := 30, ground := Ground.phase }, { on := 31, ground := Ground.phase }, { on := 32, ground := Ground.phase }, { on := 33, ground := Ground.phase }, { on := 34, ground := Ground.phase }, { on := 35, ground := Ground.phase }].append [{ on := 36, ground := Ground.phase }, { on := 37, ground := Ground.phase }, { on := 38, ground := Ground.phase }, { on := 39, ground := Ground.phase }, { on := 40, ground := Ground.phase }, { on := 41, ground := Ground.phase }, { on := 42, ground := Ground.phase }, { on := 43, ground := Ground.phase }, { on := 44, ground := Ground.phase }, { on := 45, ground := Ground.phase }, { on := 46, ground := Ground.phase }, { on := 47, ground := Ground.phase }, { on := 48, ground := Ground.phase }, { on := 49, ground := Ground.phase }, { on := 50, ground := Ground.phase }, { on := 51, ground := Ground.phase }, { on := 52, ground := Ground.phase }, { on := 53, ground := Ground.phase }, { on := 54, ground := Ground.phase }, { on := 55, ground := Ground.phase }, { on := 56, ground := Ground.phase }, { on := 57, ground := Ground.phase }, { on := 58, ground := Ground.phase }, { on := 59, ground := Ground.phase }, { on := 60, ground := Ground.phase }, { on := 61, ground := Ground.phase }, { on := 62, ground := Ground.phase }, { on := 63, ground := Ground.phase }, { on := 64, ground := Ground.phase }, { on := 65, ground := Ground.phase }, { on := 66, ground := Ground.phase }, { on := 67, ground := Ground.phase }, { on := 68, ground := Ground.phase }, { on := 69, ground := Ground.phase }, { on := 70, ground := Ground.phase }, { on := 71, ground := Ground.phase }, { on := 72, ground := Ground.phase }, { on := 73, ground := Ground.phase }, { on := 74, ground := Ground.phase }]).toArray, guard := none }) (by kernel_rfl) ?_ ?_ ?_
    rotate_left
    · (go_simp; try with_reducible rfl)
    (try simp only [Act.put, List.setIfInBounds_toArray, List.set_cons_zero, List.set_cons_succ])
    refine wpList_nil ?_
    go_wp2_with fail

    go_ret
    refine ⟨?_, HK.out.2.1⟩
    simp
end Go.Proofs.Ytkihhmnlefekoaa
