/-
  Proved here: the document's Same answers true of two packets that read as the same one.
  Conditions: the slices' cells hold the extensions.
-/
import Derived.Test.YtphemimpkbjfoaaPk6
namespace Go.Proofs.Ytphemimpkbjfoaa
open Go.RowKit

theorem exs_cells {w : World} {ao : Option Addr} {n cap : Nat} {l : List (Int × ByteArray)} (h : Exs w (.slice ao n cap) l) : ∀ i (h : i < l.length), ∃ b o, ao = some ⟨b, o, none⟩ ∧ w.cell? ⟨b, o + i * 2, none⟩ = some (.int .i64 l[i].1) ∧ w.cell? ⟨b, o + i * 2 + 1, none⟩ = some (.string l[i].2) := by
  obtain ⟨ao', cap', e, hc⟩ := h
  injection e with e1 e2 e3
  subst e1
  exact hc
theorem list16u {l : List UInt8} (h : l.length = 16) : ∃ x0 x1 x2 x3 x4 x5 x6 x7 x8 x9 x10 x11 x12 x13 x14 x15 : UInt8, l = [x0, x1, x2, x3, x4, x5, x6, x7, x8, x9, x10, x11, x12, x13, x14, x15] := by
  match l, h with
  | [x0, x1, x2, x3, x4, x5, x6, x7, x8, x9, x10, x11, x12, x13, x14, x15], _ => exact ⟨x0, x1, x2, x3, x4, x5, x6, x7, x8, x9, x10, x11, x12, x13, x14, x15, rfl⟩
theorem Try.aggU8 (w : World) : (Go.isAgg 5).run Try.prog w = .ok false w := by kernel_rfl
theorem part_byte (l : List UInt8) (j : Nat) (h : j < l.length) (w : World) : (part 5 (bytV l).toArray j).run Try.prog w = .ok (.int .u8 (l[j].toNat : Int)) w := by
  unfold part
  rw [Sem.run_bind, Try.aggU8]
  have e : (bytV l).toArray[j]? = some (.int .u8 (l[j].toNat : Int)) := by
    rw [List.getElem?_toArray]
    unfold bytV
    rw [List.getElem?_map, List.getElem?_eq_getElem h]
    rfl
  simp [e]
theorem eqV6 (l : List UInt8) (h : l.length = 16) (w : World) : (binOp .eql 28 (.agg (bytV l).toArray) (.agg (bytV l).toArray)).run Try.prog w = .ok (.bool true) w := by
  obtain ⟨i0, hi, _, _, _⟩ := info_parts (show (Try.prog.info? 5).map (fun i => (i.zero, i.size, i.bytes)) = some (some (.int .u8 0), 1, 1) by kernel_rfl)
  rw [run_eql_struct, run_equalIn_array w 9999 _ _ Try.underlying28 hi]
  have hc : Try.prog.cellsOf 5 = 1 := by kernel_rfl
  rw [hc]
  have key : ∀ (is : List Nat), (∀ j ∈ is, j < l.length) → (Op.eqItems 9999 5 1 (bytV l).toArray (bytV l).toArray is).run Try.prog w = .ok true w := by
    intro is
    induction is with
    | nil => intro _; simp [Op.eqItems]
    | cons j r ih =>
      intro hj
      have hp := part_byte l j (hj j (by simp)) w
      have hn := run_equalIn_int (P := Try.prog) w 9998 5 .u8 .u8 (l[j]'(hj j (by simp))).toNat (l[j]'(hj j (by simp))).toNat Try.underlying5
      have hr := ih (fun x hx => hj x (by simp [hx]))
      simp [Op.eqItems, hp, hn, hr]
  rw [key (List.range 16) (fun j hj => by rw [h]; exact List.mem_range.1 hj)]
  rfl
set_option maxRecDepth 100000 in
set_option maxHeartbeats 2000000 in
theorem rsame_true (p : Pk6) (v v' : Value) (w : World) (hx : Exs w v p.exts) (hx' : Exs w v' p.exts) (hl : p.exts.length ≤ 1099511627776) :
    Calls Try.prog 23 #[.agg (p.vals v).toArray, .agg (p.vals v').toArray] w fun e w' => e = .returned (.bool true) ∧ Below w.heap.size w w' := by
  obtain ⟨ao, cap, rfl, _⟩ := id hx
  obtain ⟨ao', cap', rfl, _⟩ := id hx'
  have HX := Lib.hid hx
  have HX' := Lib.hid hx'
  clear hx hx'
  obtain ⟨V, hV⟩ : ∃ V, V = p.vals (.slice ao p.exts.length cap) := ⟨_, rfl⟩
  obtain ⟨V', hV'⟩ : ∃ V, V = p.vals (.slice ao' p.exts.length cap') := ⟨_, rfl⟩
  have HC : Hid (∀ (W : World) (b : Nat) (T : TypeId), Bk W b T V.toArray → Cs6 p (.slice ao p.exts.length cap) b W) := Lib.hid (fun W b T h => by rw [hV] at h; exact cs6 h)
  have HC' : Hid (∀ (W : World) (b : Nat) (T : TypeId), Bk W b T V'.toArray → Cs6 p (.slice ao' p.exts.length cap') b W) := Lib.hid (fun W b T h => by rw [hV'] at h; exact cs6 h)
  rw [← hV, ← hV']
  clear hV hV'
  obtain ⟨AF, hAF⟩ : ∃ A, A = bytV p.fr := ⟨_, rfl⟩
  obtain ⟨AT, hAT⟩ : ∃ A, A = bytV p.dst := ⟨_, rfl⟩
  have HIF : Hid ((Try.prog.info? 28).map (·.size) = some AF.length) := Lib.hid (by rw [hAF]; exact Try.infoV6 _ p.hfr)
  have HIT : Hid ((Try.prog.info? 28).map (·.size) = some AT.length) := Lib.hid (by rw [hAT]; exact Try.infoV6 _ p.hdst)
  have HEF : Hid (∀ W, (binOp .eql 28 (.agg AF.toArray) (.agg AF.toArray)).run Try.prog W = .ok (.bool true) W) := Lib.hid (fun W => by rw [hAF]; exact eqV6 _ p.hfr W)
  have HET : Hid (∀ W, (binOp .eql 28 (.agg AT.toArray) (.agg AT.toArray)).run Try.prog W = .ok (.bool true) W) := Lib.hid (fun W => by rw [hAT]; exact eqV6 _ p.hdst W)
  have HAF := Lib.hid (And.intro hAF hAT)
  clear hAF hAT
  have HK0 : Hid (Kp w w.heap.size [(w.heap.size + 1, 31, V'), (w.heap.size, 31, V)] ((w.alloc (.cells V.toArray 31)).alloc (.cells V'.toArray 31))) := Lib.hid (by
    have h := ((Kp.start w).new 31 V).new 31 V'
    rw [show (w.alloc (.cells V.toArray 31)).heap.size = w.heap.size + 1 by simp] at h
    exact h)
  have hD := HC.out _ _ _ HK0.out.tl.hd
  have hE := HC'.out _ _ _ HK0.out.hd
  have d35 := hD.c35
  have e35 := hE.c35
  clear hD hE
  go_enter Try.func23, Try.ntmps23
  go_wp2_with fail
  clear d35 e35
  go_loopw [5] (fun i wr => ∃ k : Nat, k ≤ p.exts.length ∧ i = .int .i64 k ∧ Kp w w.heap.size [(w.heap.size + 1, 31, V'), (w.heap.size, 31, V)] wr) (fun i _ => p.exts.length - (intOf i).toNat)
  case atStart => exact ⟨0, Nat.zero_le _, rfl, HK0.out⟩
  case round =>
    obtain ⟨k, hk, rfl, hkp⟩ := hrel
    have HK := Lib.hid hkp
    clear hkp
    have hD := HC.out _ _ _ HK.out.tl.hd
    have hE := HC'.out _ _ _ HK.out.hd
    by_cases hlt : k < p.exts.length
    · have hk2 : (k : Int) < (p.exts.length : Int) := by omega
      have hk0 : (0 : Int) ≤ (k : Int) := by omega
      have hX := HX.out.below HK.out.2.1 (Nat.le_refl _)
      have hX' := HX'.out.below HK.out.2.1 (Nat.le_refl _)
      obtain ⟨b, ob, rfl, g3, g4⟩ := exs_cells hX k hlt
      obtain ⟨c, oc, rfl, g5, g6⟩ := exs_cells hX' k hlt
      clear hX hX'
      have HNE := Lib.hid (neqExt p.exts[k].1 p.exts[k].2)
      generalize p.exts[k].1 = kd at *
      generalize p.exts[k].2 = bd at *
      have d35 := hD.c35
      have e35 := hE.c35
      clear hD hE
      go_wp2_with fail
      have hne := HNE.out
      have hgu := Try.guardExt
      obtain ⟨B, hBd⟩ : ∃ B, B = w.heap.size := ⟨_, rfl⟩
      have HBd := Lib.hid hBd
      clear hBd
      have hK : Kp w w.heap.size [(w.heap.size + 1, 31, V'), (w.heap.size, 31, V)] wr := HK.out
      refine wp_region_noPanic ?_
      refine wp_region_held_drew (S := fun w' => Kp w w.heap.size [(w.heap.size + 1, 31, V'), (w.heap.size, 31, V)] w' ∧ w'.cell? ⟨w.heap.size, 35, none⟩ = some (.slice (some ⟨b, ob, none⟩) p.exts.length cap) ∧ w'.cell? ⟨w.heap.size + 1, 35, none⟩ = some (.slice (some ⟨c, oc, none⟩) p.exts.length cap') ∧ w'.cell? ⟨b, ob + k * 2, none⟩ = some (.int .i64 kd) ∧ w'.cell? ⟨b, ob + k * 2 + 1, none⟩ = some (.string bd) ∧ w'.cell? ⟨c, oc + k * 2, none⟩ = some (.int .i64 kd) ∧ w'.cell? ⟨c, oc + k * 2 + 1, none⟩ = some (.string bd)) (by kernel_rfl) (⟨hK.drew, d35, e35, g3, g4, g5, g6⟩) (fun hHeld => ?_)
      refine wpAnyH_take (i := 0) (oi := { dst := some 20, op := Op.fieldAddr 31 (Operand.tmp 2) 5, type := 0, pos := "ref.go:24", after := #[], guard := none }) (v := ?_) rfl (by kernel_rfl) (by kernel_rfl) (by kernel_rfl) (fun _ _ _ h => h) (Or.inl ⟨by rfl, ?_⟩) (by assumption) ?_
      rotate_left
      · (intro ww hSw; (try dsimp only at hSw); go_simp; try with_reducible rfl)
      (try simp only [Act.put, List.setIfInBounds_toArray, List.set_cons_zero, List.set_cons_succ])
      refine wpAnyH_take (i := 1) (oi := { dst := some 21, op := Op.load 22 (Operand.tmp 20), type := 22, pos := "ref.go:24", after := #[{ on := 0, ground := Ground.data }], guard := none }) (v := ?_) rfl (by kernel_rfl) (by kernel_rfl) (by kernel_rfl) (fun _ _ _ h => h) (Or.inl ⟨by rfl, ?_⟩) (by assumption) ?_
      rotate_left
      · (intro ww hSw; (try dsimp only at hSw); go_simp; try with_reducible rfl)
      (try simp only [Act.put, List.setIfInBounds_toArray, List.set_cons_zero, List.set_cons_succ])
      refine wpAnyH_take (i := 2) (oi := { dst := some 22, op := Op.move (Operand.tmp 5), type := 3, pos := "ref.go:24", after := #[], guard := none }) (v := ?_) rfl (by kernel_rfl) (by kernel_rfl) (by kernel_rfl) (fun _ _ _ h => h) (Or.inl ⟨by rfl, ?_⟩) (by assumption) ?_
      rotate_left
      · (intro ww hSw; (try dsimp only at hSw); go_simp; try with_reducible rfl)
      (try simp only [Act.put, List.setIfInBounds_toArray, List.set_cons_zero, List.set_cons_succ])
      refine wpAnyH_take (i := 3) (oi := { dst := some 23, op := Op.indexAddr 22 (Operand.tmp 21) (Operand.tmp 22), type := 0, pos := "ref.go:24", after := #[{ on := 1, ground := Ground.data }, { on := 2, ground := Ground.data }], guard := none }) (v := ?_) rfl (by kernel_rfl) (by kernel_rfl) (by kernel_rfl) (fun _ _ _ h => h) (Or.inl ⟨by rfl, ?_⟩) (by assumption) ?_
      rotate_left
      · (intro ww hSw; (try dsimp only at hSw); go_simp; try with_reducible rfl)
      (try simp only [Act.put, List.setIfInBounds_toArray, List.set_cons_zero, List.set_cons_succ])
      refine wpAnyH_take (i := 4) (oi := { dst := some 24, op := Op.load 40 (Operand.tmp 23), type := 40, pos := "ref.go:24", after := #[{ on := 3, ground := Ground.data }], guard := none }) (v := ?_) rfl (by kernel_rfl) (by kernel_rfl) (by kernel_rfl) (fun _ _ _ h => h) (Or.inl ⟨by rfl, ?_⟩) (by assumption) ?_
      rotate_left
      · (intro ww hSw; (try dsimp only at hSw); go_simp; try with_reducible rfl)
      (try simp only [Act.put, List.setIfInBounds_toArray, List.set_cons_zero, List.set_cons_succ])
      refine wpAnyH_take (i := 5) (oi := { dst := some 25, op := Op.fieldAddr 31 (Operand.tmp 3) 5, type := 0, pos := "ref.go:24", after := #[], guard := none }) (v := ?_) rfl (by kernel_rfl) (by kernel_rfl) (by kernel_rfl) (fun _ _ _ h => h) (Or.inl ⟨by rfl, ?_⟩) (by assumption) ?_
      rotate_left
      · (intro ww hSw; (try dsimp only at hSw); go_simp; try with_reducible rfl)
      (try simp only [Act.put, List.setIfInBounds_toArray, List.set_cons_zero, List.set_cons_succ])
      refine wpAnyH_take (i := 6) (oi := { dst := some 26, op := Op.load 22 (Operand.tmp 25), type := 22, pos := "ref.go:24", after := #[{ on := 5, ground := Ground.data }], guard := none }) (v := ?_) rfl (by kernel_rfl) (by kernel_rfl) (by kernel_rfl) (fun _ _ _ h => h) (Or.inl ⟨by rfl, ?_⟩) (by assumption) ?_
      rotate_left
      · (intro ww hSw; (try dsimp only at hSw); go_simp; try with_reducible rfl)
      (try simp only [Act.put, List.setIfInBounds_toArray, List.set_cons_zero, List.set_cons_succ])
      refine wpAnyH_take (i := 7) (oi := { dst := some 27, op := Op.move (Operand.tmp 5), type := 3, pos := "ref.go:24", after := #[], guard := none }) (v := ?_) rfl (by kernel_rfl) (by kernel_rfl) (by kernel_rfl) (fun _ _ _ h => h) (Or.inl ⟨by rfl, ?_⟩) (by assumption) ?_
      rotate_left
      · (intro ww hSw; (try dsimp only at hSw); go_simp; try with_reducible rfl)
      (try simp only [Act.put, List.setIfInBounds_toArray, List.set_cons_zero, List.set_cons_succ])
      refine wpAnyH_take (i := 8) (oi := { dst := some 28, op := Op.indexAddr 22 (Operand.tmp 26) (Operand.tmp 27), type := 0, pos := "ref.go:24", after := #[{ on := 6, ground := Ground.data }, { on := 7, ground := Ground.data }], guard := none }) (v := ?_) rfl (by kernel_rfl) (by kernel_rfl) (by kernel_rfl) (fun _ _ _ h => h) (Or.inl ⟨by rfl, ?_⟩) (by assumption) ?_
      rotate_left
      · (intro ww hSw; (try dsimp only at hSw); go_simp; try with_reducible rfl)
      (try simp only [Act.put, List.setIfInBounds_toArray, List.set_cons_zero, List.set_cons_succ])
      refine wpAnyH_take (i := 9) (oi := { dst := some 29, op := Op.load 40 (Operand.tmp 28), type := 40, pos := "ref.go:24", after := #[{ on := 8, ground := Ground.data }], guard := none }) (v := ?_) rfl (by kernel_rfl) (by kernel_rfl) (by kernel_rfl) (fun _ _ _ h => h) (Or.inl ⟨by rfl, ?_⟩) (by assumption) ?_
      rotate_left
      · (intro ww hSw; (try dsimp only at hSw); go_simp; try with_reducible rfl)
      (try simp only [Act.put, List.setIfInBounds_toArray, List.set_cons_zero, List.set_cons_succ])
      refine wpAnyH_take (i := 10) (oi := { dst := some 30, op := Op.binOp BinOp.neq 40 (Operand.tmp 24) (Operand.tmp 29) 40, type := 4, pos := "ref.go:24", after := #[{ on := 4, ground := Ground.data }, { on := 9, ground := Ground.data }], guard := none }) (v := ?_) rfl (by kernel_rfl) (by kernel_rfl) (by kernel_rfl) (fun _ _ _ h => h) (Or.inl ⟨by rfl, ?_⟩) (by assumption) ?_
      rotate_left
      · (intro ww hSw; (try dsimp only at hSw); go_simp; try with_reducible rfl)
      (try simp only [Act.put, List.setIfInBounds_toArray, List.set_cons_zero, List.set_cons_succ])
      refine wpAnyH_done (by kernel_rfl) ?_ _
      refine NoPanic.normal ?_
      have HK2 := Lib.hid (And.left hHeld)
      clear hHeld hK hne hgu d35 e35 g3 g4 g5 g6
      go_wp2_with fail
      go_roundw
      case rel => exact ⟨k + 1, by omega, by go_num, HK2.out⟩
      case measure => simp [intOf]; omega
    · obtain rfl : k = p.exts.length := by omega
      have hT0 := hD.c0
      have hT1 := hD.c1
      have hT2 := hD.c2
      have hT35 := hD.c35
      have hT36 := hD.c36
      have hT37 := hD.c37
      have hT38 := hD.c38
      have hT39 := hD.c39
      have hT40 := hD.c40
      have hT41 := hD.c41
      have hS0 := hE.c0
      have hS1 := hE.c1
      have hS2 := hE.c2
      have hS35 := hE.c35
      have hS36 := hE.c36
      have hS37 := hE.c37
      have hS38 := hE.c38
      have hS39 := hE.c39
      have hS40 := hE.c40
      have hS41 := hE.c41
      have r1 := hD.fr
      have r2 := hE.fr
      have r3 := hD.dst
      have r4 := hE.dst
      rw [← HAF.out.1] at r1 r2
      rw [← HAF.out.2] at r3 r4
      have hef := HEF.out
      have het := HET.out
      have hgu := Try.guardV6
      clear hD hE hlt hk
      obtain ⟨x0, x1, x2, x3, x4, x5, x6, x7, x8, x9, x10, x11, x12, x13, x14, x15, hfr⟩ := list16u p.hfr
      obtain ⟨y0, y1, y2, y3, y4, y5, y6, y7, y8, y9, y10, y11, y12, y13, y14, y15, hdst⟩ := list16u p.hdst
      have hAF2 : AF = [.int .u8 (x0.toNat : Int), .int .u8 (x1.toNat : Int), .int .u8 (x2.toNat : Int), .int .u8 (x3.toNat : Int), .int .u8 (x4.toNat : Int), .int .u8 (x5.toNat : Int), .int .u8 (x6.toNat : Int), .int .u8 (x7.toNat : Int), .int .u8 (x8.toNat : Int), .int .u8 (x9.toNat : Int), .int .u8 (x10.toNat : Int), .int .u8 (x11.toNat : Int), .int .u8 (x12.toNat : Int), .int .u8 (x13.toNat : Int), .int .u8 (x14.toNat : Int), .int .u8 (x15.toNat : Int)] := by rw [HAF.out.1, hfr]; rfl
      have hAT2 : AT = [.int .u8 (y0.toNat : Int), .int .u8 (y1.toNat : Int), .int .u8 (y2.toNat : Int), .int .u8 (y3.toNat : Int), .int .u8 (y4.toNat : Int), .int .u8 (y5.toNat : Int), .int .u8 (y6.toNat : Int), .int .u8 (y7.toNat : Int), .int .u8 (y8.toNat : Int), .int .u8 (y9.toNat : Int), .int .u8 (y10.toNat : Int), .int .u8 (y11.toNat : Int), .int .u8 (y12.toNat : Int), .int .u8 (y13.toNat : Int), .int .u8 (y14.toNat : Int), .int .u8 (y15.toNat : Int)] := by rw [HAF.out.2, hdst]; rfl
      rw [hAF2] at hef r1 r2
      rw [hAT2] at het r3 r4
      clear hfr hdst hAF2 hAT2
      have a0 : wr.cell? ⟨w.heap.size, 3, none⟩ = some (.int .u8 (x0.toNat : Int)) := r1 0 _ rfl
      have a1 : wr.cell? ⟨w.heap.size, 4, none⟩ = some (.int .u8 (x1.toNat : Int)) := r1 1 _ rfl
      have a2 : wr.cell? ⟨w.heap.size, 5, none⟩ = some (.int .u8 (x2.toNat : Int)) := r1 2 _ rfl
      have a3 : wr.cell? ⟨w.heap.size, 6, none⟩ = some (.int .u8 (x3.toNat : Int)) := r1 3 _ rfl
      have a4 : wr.cell? ⟨w.heap.size, 7, none⟩ = some (.int .u8 (x4.toNat : Int)) := r1 4 _ rfl
      have a5 : wr.cell? ⟨w.heap.size, 8, none⟩ = some (.int .u8 (x5.toNat : Int)) := r1 5 _ rfl
      have a6 : wr.cell? ⟨w.heap.size, 9, none⟩ = some (.int .u8 (x6.toNat : Int)) := r1 6 _ rfl
      have a7 : wr.cell? ⟨w.heap.size, 10, none⟩ = some (.int .u8 (x7.toNat : Int)) := r1 7 _ rfl
      have a8 : wr.cell? ⟨w.heap.size, 11, none⟩ = some (.int .u8 (x8.toNat : Int)) := r1 8 _ rfl
      have a9 : wr.cell? ⟨w.heap.size, 12, none⟩ = some (.int .u8 (x9.toNat : Int)) := r1 9 _ rfl
      have a10 : wr.cell? ⟨w.heap.size, 13, none⟩ = some (.int .u8 (x10.toNat : Int)) := r1 10 _ rfl
      have a11 : wr.cell? ⟨w.heap.size, 14, none⟩ = some (.int .u8 (x11.toNat : Int)) := r1 11 _ rfl
      have a12 : wr.cell? ⟨w.heap.size, 15, none⟩ = some (.int .u8 (x12.toNat : Int)) := r1 12 _ rfl
      have a13 : wr.cell? ⟨w.heap.size, 16, none⟩ = some (.int .u8 (x13.toNat : Int)) := r1 13 _ rfl
      have a14 : wr.cell? ⟨w.heap.size, 17, none⟩ = some (.int .u8 (x14.toNat : Int)) := r1 14 _ rfl
      have a15 : wr.cell? ⟨w.heap.size, 18, none⟩ = some (.int .u8 (x15.toNat : Int)) := r1 15 _ rfl
      have b0 : wr.cell? ⟨w.heap.size + 1, 3, none⟩ = some (.int .u8 (x0.toNat : Int)) := r2 0 _ rfl
      have b1 : wr.cell? ⟨w.heap.size + 1, 4, none⟩ = some (.int .u8 (x1.toNat : Int)) := r2 1 _ rfl
      have b2 : wr.cell? ⟨w.heap.size + 1, 5, none⟩ = some (.int .u8 (x2.toNat : Int)) := r2 2 _ rfl
      have b3 : wr.cell? ⟨w.heap.size + 1, 6, none⟩ = some (.int .u8 (x3.toNat : Int)) := r2 3 _ rfl
      have b4 : wr.cell? ⟨w.heap.size + 1, 7, none⟩ = some (.int .u8 (x4.toNat : Int)) := r2 4 _ rfl
      have b5 : wr.cell? ⟨w.heap.size + 1, 8, none⟩ = some (.int .u8 (x5.toNat : Int)) := r2 5 _ rfl
      have b6 : wr.cell? ⟨w.heap.size + 1, 9, none⟩ = some (.int .u8 (x6.toNat : Int)) := r2 6 _ rfl
      have b7 : wr.cell? ⟨w.heap.size + 1, 10, none⟩ = some (.int .u8 (x7.toNat : Int)) := r2 7 _ rfl
      have b8 : wr.cell? ⟨w.heap.size + 1, 11, none⟩ = some (.int .u8 (x8.toNat : Int)) := r2 8 _ rfl
      have b9 : wr.cell? ⟨w.heap.size + 1, 12, none⟩ = some (.int .u8 (x9.toNat : Int)) := r2 9 _ rfl
      have b10 : wr.cell? ⟨w.heap.size + 1, 13, none⟩ = some (.int .u8 (x10.toNat : Int)) := r2 10 _ rfl
      have b11 : wr.cell? ⟨w.heap.size + 1, 14, none⟩ = some (.int .u8 (x11.toNat : Int)) := r2 11 _ rfl
      have b12 : wr.cell? ⟨w.heap.size + 1, 15, none⟩ = some (.int .u8 (x12.toNat : Int)) := r2 12 _ rfl
      have b13 : wr.cell? ⟨w.heap.size + 1, 16, none⟩ = some (.int .u8 (x13.toNat : Int)) := r2 13 _ rfl
      have b14 : wr.cell? ⟨w.heap.size + 1, 17, none⟩ = some (.int .u8 (x14.toNat : Int)) := r2 14 _ rfl
      have b15 : wr.cell? ⟨w.heap.size + 1, 18, none⟩ = some (.int .u8 (x15.toNat : Int)) := r2 15 _ rfl
      have c0 : wr.cell? ⟨w.heap.size, 19, none⟩ = some (.int .u8 (y0.toNat : Int)) := r3 0 _ rfl
      have c1 : wr.cell? ⟨w.heap.size, 20, none⟩ = some (.int .u8 (y1.toNat : Int)) := r3 1 _ rfl
      have c2 : wr.cell? ⟨w.heap.size, 21, none⟩ = some (.int .u8 (y2.toNat : Int)) := r3 2 _ rfl
      have c3 : wr.cell? ⟨w.heap.size, 22, none⟩ = some (.int .u8 (y3.toNat : Int)) := r3 3 _ rfl
      have c4 : wr.cell? ⟨w.heap.size, 23, none⟩ = some (.int .u8 (y4.toNat : Int)) := r3 4 _ rfl
      have c5 : wr.cell? ⟨w.heap.size, 24, none⟩ = some (.int .u8 (y5.toNat : Int)) := r3 5 _ rfl
      have c6 : wr.cell? ⟨w.heap.size, 25, none⟩ = some (.int .u8 (y6.toNat : Int)) := r3 6 _ rfl
      have c7 : wr.cell? ⟨w.heap.size, 26, none⟩ = some (.int .u8 (y7.toNat : Int)) := r3 7 _ rfl
      have c8 : wr.cell? ⟨w.heap.size, 27, none⟩ = some (.int .u8 (y8.toNat : Int)) := r3 8 _ rfl
      have c9 : wr.cell? ⟨w.heap.size, 28, none⟩ = some (.int .u8 (y9.toNat : Int)) := r3 9 _ rfl
      have c10 : wr.cell? ⟨w.heap.size, 29, none⟩ = some (.int .u8 (y10.toNat : Int)) := r3 10 _ rfl
      have c11 : wr.cell? ⟨w.heap.size, 30, none⟩ = some (.int .u8 (y11.toNat : Int)) := r3 11 _ rfl
      have c12 : wr.cell? ⟨w.heap.size, 31, none⟩ = some (.int .u8 (y12.toNat : Int)) := r3 12 _ rfl
      have c13 : wr.cell? ⟨w.heap.size, 32, none⟩ = some (.int .u8 (y13.toNat : Int)) := r3 13 _ rfl
      have c14 : wr.cell? ⟨w.heap.size, 33, none⟩ = some (.int .u8 (y14.toNat : Int)) := r3 14 _ rfl
      have c15 : wr.cell? ⟨w.heap.size, 34, none⟩ = some (.int .u8 (y15.toNat : Int)) := r3 15 _ rfl
      have d0 : wr.cell? ⟨w.heap.size + 1, 19, none⟩ = some (.int .u8 (y0.toNat : Int)) := r4 0 _ rfl
      have d1 : wr.cell? ⟨w.heap.size + 1, 20, none⟩ = some (.int .u8 (y1.toNat : Int)) := r4 1 _ rfl
      have d2 : wr.cell? ⟨w.heap.size + 1, 21, none⟩ = some (.int .u8 (y2.toNat : Int)) := r4 2 _ rfl
      have d3 : wr.cell? ⟨w.heap.size + 1, 22, none⟩ = some (.int .u8 (y3.toNat : Int)) := r4 3 _ rfl
      have d4 : wr.cell? ⟨w.heap.size + 1, 23, none⟩ = some (.int .u8 (y4.toNat : Int)) := r4 4 _ rfl
      have d5 : wr.cell? ⟨w.heap.size + 1, 24, none⟩ = some (.int .u8 (y5.toNat : Int)) := r4 5 _ rfl
      have d6 : wr.cell? ⟨w.heap.size + 1, 25, none⟩ = some (.int .u8 (y6.toNat : Int)) := r4 6 _ rfl
      have d7 : wr.cell? ⟨w.heap.size + 1, 26, none⟩ = some (.int .u8 (y7.toNat : Int)) := r4 7 _ rfl
      have d8 : wr.cell? ⟨w.heap.size + 1, 27, none⟩ = some (.int .u8 (y8.toNat : Int)) := r4 8 _ rfl
      have d9 : wr.cell? ⟨w.heap.size + 1, 28, none⟩ = some (.int .u8 (y9.toNat : Int)) := r4 9 _ rfl
      have d10 : wr.cell? ⟨w.heap.size + 1, 29, none⟩ = some (.int .u8 (y10.toNat : Int)) := r4 10 _ rfl
      have d11 : wr.cell? ⟨w.heap.size + 1, 30, none⟩ = some (.int .u8 (y11.toNat : Int)) := r4 11 _ rfl
      have d12 : wr.cell? ⟨w.heap.size + 1, 31, none⟩ = some (.int .u8 (y12.toNat : Int)) := r4 12 _ rfl
      have d13 : wr.cell? ⟨w.heap.size + 1, 32, none⟩ = some (.int .u8 (y13.toNat : Int)) := r4 13 _ rfl
      have d14 : wr.cell? ⟨w.heap.size + 1, 33, none⟩ = some (.int .u8 (y14.toNat : Int)) := r4 14 _ rfl
      have d15 : wr.cell? ⟨w.heap.size + 1, 34, none⟩ = some (.int .u8 (y15.toNat : Int)) := r4 15 _ rfl
      clear r1 r2 r3 r4
      go_wp2_with fail
      go_ret
      refine ⟨?_, HK.out.2.1⟩
      simp
end Go.Proofs.Ytphemimpkbjfoaa
