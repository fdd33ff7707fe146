/-
  Proved here: the law SumHeads answers true at every input, and leaves old memory as it was.
  Conditions: none.
-/
import Derived.Test.YtfpmkadlidbboaaRefPseudo
import Derived.Deep.MidRow
namespace Go.Proofs.Ytfpmkadlidbboaa
open Go.RowKit

/-- A block that is known whole. -/
def Bk (w : World) (b : Nat) (T : TypeId) (A : Array Value) : Prop := w.heap[b]? = some (.cells A T (0, 0))
section
variable {w w' : World} {b : Nat} {T : TypeId} {A : Array Value}
theorem Bk.lt (h : Bk w b T A) : b < w.heap.size := by
  rcases Nat.lt_or_ge b w.heap.size with hl | hg
  · exact hl
  · unfold Bk at h; rw [Array.getElem?_eq_none hg] at h; cases h
theorem Bk.below {B : Nat} (h : Bk w b T A) (hb : Below B w w') (hB : b < B) : Bk w' b T A := (hb.block b hB).trans h
theorem Bk.alloc (h : Bk w b T A) (o : Obj) : Bk (w.alloc o) b T A := (Below.heap_alloc w o b h.lt).trans h
theorem Bk.range (h : Bk w b T A) : w.rangeAt b 0 A.toList := by
  intro j v hv
  unfold Bk at h
  simp only [World.cell?, h, Nat.zero_add]
  simpa using hv
theorem Bk.load4 (h : Bk w b 28 A) (hs : A.size = 4) : (Instr.loadAt 28 (.pointer (some ⟨b, 0, none⟩))).run Try.prog w = .ok (.agg A) w := by
  have := run_loadAt_mid (P := Try.prog) w b 0 28 A.toList _ h.range Try.underlying28 rfl (by
    rw [show (Try.prog.info? 28).map (·.size) = some 4 by kernel_rfl]
    simp [hs])
  simpa using this
theorem Bk.load6 (h : Bk w b 31 A) (hs : A.size = 16) : (Instr.loadAt 31 (.pointer (some ⟨b, 0, none⟩))).run Try.prog w = .ok (.agg A) w := by
  have := run_loadAt_mid (P := Try.prog) w b 0 31 A.toList _ h.range Try.underlying31 rfl (by
    rw [show (Try.prog.info? 31).map (·.size) = some 16 by kernel_rfl]
    simp [hs])
  simpa using this
end
theorem bk_new (w : World) (T : TypeId) (A : Array Value) : Bk (w.alloc (.cells A T)) w.heap.size T A := heap_alloc_new w _
/-- What the law keeps: the four addresses lie where they lay. -/
def Four (w0 : World) (B b1 b2 b3 b4 : Nat) (A1 A2 A3 A4 : Array Value) (w : World) : Prop :=
  Bk w b1 28 A1 ∧ Bk w b2 28 A2 ∧ Bk w b3 31 A3 ∧ Bk w b4 31 A4 ∧ Below B w0 w ∧ B ≤ w.heap.size
theorem four_new (w : World) (A1 A2 A3 A4 : Array Value) :
    Four w w.heap.size w.heap.size (w.heap.size + 1) (w.heap.size + 1 + 1) (w.heap.size + 1 + 1 + 1) A1 A2 A3 A4 ((((w.alloc (.cells A1 28)).alloc (.cells A2 28)).alloc (.cells A3 31)).alloc (.cells A4 31)) := by
  refine ⟨(((bk_new w _ A1).alloc _).alloc _).alloc _, ?_, ?_, ?_, ?_, by simp; omega⟩
  · have := ((bk_new (w.alloc (.cells A1 28)) 28 A2).alloc (.cells A3 31)).alloc (.cells A4 31)
    simpa using this
  · have := (bk_new ((w.alloc (.cells A1 28)).alloc (.cells A2 28)) 31 A3).alloc (.cells A4 31)
    simpa using this
  · have := bk_new (((w.alloc (.cells A1 28)).alloc (.cells A2 28)).alloc (.cells A3 31)) 31 A4
    simpa using this
  · exact ((((Below.refl w.heap.size w).alloc (Nat.le_refl _) _).alloc (by simp) _).alloc (by simp; omega) _).alloc (by simp; omega) _
theorem Four.below {w0 w w' : World} {B C b1 b2 b3 b4 : Nat} {A1 A2 A3 A4 : Array Value} (h : Four w0 B b1 b2 b3 b4 A1 A2 A3 A4 w) (hb : Below C w w') (hC : w.heap.size ≤ C) : Four w0 B b1 b2 b3 b4 A1 A2 A3 A4 w' := by
  obtain ⟨h1, h2, h3, h4, h5, h6⟩ := h
  exact ⟨h1.below hb (Nat.lt_of_lt_of_le h1.lt hC), h2.below hb (Nat.lt_of_lt_of_le h2.lt hC), h3.below hb (Nat.lt_of_lt_of_le h3.lt hC), h4.below hb (Nat.lt_of_lt_of_le h4.lt hC), h5.trans (hb.mono (Nat.le_trans h6 hC)), Nat.le_trans h6 hb.size⟩
theorem Bk.c {w : World} {b : Nat} {T : TypeId} {A : Array Value} (h : Bk w b T A) (i : Nat) (v : Value) (hv : A[i]? = some v) : w.cell? ⟨b, i, none⟩ = some v := by
  have := h.range i v (by simpa using hv)
  simpa using this
theorem Four.loads {w0 w : World} {B b1 b2 b3 b4 : Nat} {x0 x1 x2 x3 y0 y1 y2 y3 : Value} {L3 L4 : List Value} (h : Four w0 B b1 b2 b3 b4 #[x0, x1, x2, x3] #[y0, y1, y2, y3] L3.toArray L4.toArray w) :
    Four w0 B b1 b2 b3 b4 #[x0, x1, x2, x3] #[y0, y1, y2, y3] L3.toArray L4.toArray w ∧ w.cell? ⟨b1, 0, none⟩ = some x0 ∧ w.cell? ⟨b1, 1, none⟩ = some x1 ∧ w.cell? ⟨b1, 2, none⟩ = some x2 ∧ w.cell? ⟨b1, 3, none⟩ = some x3 ∧
      w.cell? ⟨b2, 0, none⟩ = some y0 ∧ w.cell? ⟨b2, 1, none⟩ = some y1 ∧ w.cell? ⟨b2, 2, none⟩ = some y2 ∧ w.cell? ⟨b2, 3, none⟩ = some y3 ∧ w.rangeAt b3 0 L3 ∧ w.rangeAt b4 0 L4 := by
  have h' := h
  obtain ⟨h1, h2, h3, h4, h5, h6⟩ := h
  exact ⟨h', h1.c 0 _ rfl, h1.c 1 _ rfl, h1.c 2 _ rfl, h1.c 3 _ rfl, h2.c 0 _ rfl, h2.c 1 _ rfl, h2.c 2 _ rfl, h2.c 3 _ rfl, h3.range, h4.range⟩

set_option maxRecDepth 100000 in
set_option maxHeartbeats 4000000 in
theorem sumHeads_gen (x0 x1 x2 x3 y0 y1 y2 y3 : Value) (L3 L4 : List Value) (p l : Int) (S4 S6 : ByteArray) (w : World) (s3 : L3.length = 16) (s4 : L4.length = 16)
    (o3 : ∀ v ∈ L3, v.oneCell' = true) (o4 : ∀ v ∈ L4, v.oneCell' = true)
    (c1 : ∀ W, Calls Try.prog 16 #[.agg #[x0, x1, x2, x3], .agg #[y0, y1, y2, y3], .int .i64 p, .int .i64 l] W fun e w' => e = .returned (.string S4) ∧ Below W.heap.size W w')
    (c2 : ∀ W, Calls Try.prog 20 #[.agg #[x0, x1, x2, x3], .agg #[y0, y1, y2, y3], .int .i64 p, .int .i64 l] W fun e w' => e = .returned (.string S4) ∧ Below W.heap.size W w')
    (c3 : ∀ W, Calls Try.prog 17 #[.agg L3.toArray, .agg L4.toArray, .int .i64 p, .int .i64 l] W fun e w' => e = .returned (.string S6) ∧ Below W.heap.size W w')
    (c4 : ∀ W, Calls Try.prog 21 #[.agg L3.toArray, .agg L4.toArray, .int .i64 p, .int .i64 l] W fun e w' => e = .returned (.string S6) ∧ Below W.heap.size W w') :
    Calls Try.prog 6 #[.agg #[x0, x1, x2, x3], .agg #[y0, y1, y2, y3], .agg L3.toArray, .agg L4.toArray, .int .i64 p, .int .i64 l] w fun e w' => e = .returned (.bool true) ∧ Below w.heap.size w w' := by
  have C1 := Lib.hid c1
  have C2 := Lib.hid c2
  have C3 := Lib.hid c3
  have C4 := Lib.hid c4
  have Z3 := Lib.hid s3
  have Z4 := Lib.hid s4
  have O3 := Lib.hid o3
  have O4 := Lib.hid o4
  clear c1 c2 c3 c4 s3 s4 o3 o4
  go_enter Try.func6, Try.ntmps6
  go_wp2_with fail
  have hF0 := four_new w #[x0, x1, x2, x3] #[y0, y1, y2, y3] L3.toArray L4.toArray
  refine (awake_true _).mono ?_
  rintro e w1 ⟨rfl, b1⟩
  have HF1 := Lib.hid (hF0.below b1 (Nat.le_refl _))
  clear b1 hF0
  go_wp2_with fail
  have hF1 := HF1.out
  obtain ⟨B, hBd⟩ : ∃ B, B = w.heap.size := ⟨_, rfl⟩
  have hF1' : Four w B w.heap.size (w.heap.size + 1) (w.heap.size + 1 + 1) (w.heap.size + 1 + 1 + 1) #[x0, x1, x2, x3] #[y0, y1, y2, y3] L3.toArray L4.toArray w1 := by rw [hBd]; exact hF1
  have HBd := Lib.hid hBd
  clear hF1 HF1 hBd
  generalize w.heap.size + 1 + 1 + 1 = p4 at hF1'
  generalize w.heap.size + 1 + 1 = p3 at hF1'
  generalize w.heap.size + 1 = p2 at hF1'
  generalize w.heap.size = p1 at hF1'
  have hu := Try.underlying31
  have hi3 : (Try.prog.info? 31).map (·.size) = some L3.length := by rw [Z3.out]; kernel_rfl
  have hi4 : (Try.prog.info? 31).map (·.size) = some L4.length := by rw [Z4.out]; kernel_rfl
  refine wp_region_noPanic ?_
  refine wp_region_held_drew (S := (fun w' => Four w B p1 p2 p3 p4 #[x0, x1, x2, x3] #[y0, y1, y2, y3] L3.toArray L4.toArray w' ∧ w'.cell? ⟨p1, 0, none⟩ = some x0 ∧ w'.cell? ⟨p1, 1, none⟩ = some x1 ∧ w'.cell? ⟨p1, 2, none⟩ = some x2 ∧ w'.cell? ⟨p1, 3, none⟩ = some x3 ∧ w'.cell? ⟨p2, 0, none⟩ = some y0 ∧ w'.cell? ⟨p2, 1, none⟩ = some y1 ∧ w'.cell? ⟨p2, 2, none⟩ = some y2 ∧ w'.cell? ⟨p2, 3, none⟩ = some y3 ∧ w'.rangeAt p3 0 L3 ∧ w'.rangeAt p4 0 L4)) (by kernel_rfl) ((hF1'.below ((Below.refl w1.heap.size w1).drew) (Nat.le_refl _)).loads) (fun hHeld => ?_)
  refine wpAnyH_take (i := 0) (oi := { dst := some 15, op := Op.load 28 (Operand.tmp 6), type := 28, pos := "law.go:50", after := #[], guard := none }) (v := ?_) rfl (by kernel_rfl) (by kernel_rfl) (by kernel_rfl) (fun _ _ _ h => h) (Or.inl ⟨by rfl, ?_⟩) (by assumption) ?_
  rotate_left
  · (intro ww hSw; (try dsimp only at hSw); go_simp; try with_reducible rfl)
  (try simp only [Act.put, List.setIfInBounds_toArray, List.set_cons_zero, List.set_cons_succ])
  refine wpAnyH_take (i := 1) (oi := { dst := some 16, op := Op.load 28 (Operand.tmp 7), type := 28, pos := "law.go:50", after := #[], guard := none }) (v := ?_) rfl (by kernel_rfl) (by kernel_rfl) (by kernel_rfl) (fun _ _ _ h => h) (Or.inl ⟨by rfl, ?_⟩) (by assumption) ?_
  rotate_left
  · (intro ww hSw; (try dsimp only at hSw); go_simp; try with_reducible rfl)
  (try simp only [Act.put, List.setIfInBounds_toArray, List.set_cons_zero, List.set_cons_succ])
  refine wpAnyH_take (i := 2) (oi := { dst := some 17, op := Op.move (Operand.tmp 4), type := 3, pos := "law.go:50", after := #[], guard := none }) (v := ?_) rfl (by kernel_rfl) (by kernel_rfl) (by kernel_rfl) (fun _ _ _ h => h) (Or.inl ⟨by rfl, ?_⟩) (by assumption) ?_
  rotate_left
  · (intro ww hSw; (try dsimp only at hSw); go_simp; try with_reducible rfl)
  (try simp only [Act.put, List.setIfInBounds_toArray, List.set_cons_zero, List.set_cons_succ])
  refine wpAnyH_take (i := 3) (oi := { dst := some 18, op := Op.move (Operand.tmp 5), type := 3, pos := "law.go:50", after := #[], guard := none }) (v := ?_) rfl (by kernel_rfl) (by kernel_rfl) (by kernel_rfl) (fun _ _ _ h => h) (Or.inl ⟨by rfl, ?_⟩) (by assumption) ?_
  rotate_left
  · (intro ww hSw; (try dsimp only at hSw); go_simp; try with_reducible rfl)
  (try simp only [Act.put, List.setIfInBounds_toArray, List.set_cons_zero, List.set_cons_succ])
  refine wpAnyH_take (i := 5) (oi := { dst := some 20, op := Op.load 28 (Operand.tmp 6), type := 28, pos := "law.go:50", after := #[], guard := none }) (v := ?_) rfl (by kernel_rfl) (by kernel_rfl) (by kernel_rfl) (fun _ _ _ h => h) (Or.inl ⟨by rfl, ?_⟩) (by assumption) ?_
  rotate_left
  · (intro ww hSw; (try dsimp only at hSw); go_simp; try with_reducible rfl)
  (try simp only [Act.put, List.setIfInBounds_toArray, List.set_cons_zero, List.set_cons_succ])
  refine wpAnyH_take (i := 6) (oi := { dst := some 21, op := Op.load 28 (Operand.tmp 7), type := 28, pos := "law.go:50", after := #[], guard := none }) (v := ?_) rfl (by kernel_rfl) (by kernel_rfl) (by kernel_rfl) (fun _ _ _ h => h) (Or.inl ⟨by rfl, ?_⟩) (by assumption) ?_
  rotate_left
  · (intro ww hSw; (try dsimp only at hSw); go_simp; try with_reducible rfl)
  (try simp only [Act.put, List.setIfInBounds_toArray, List.set_cons_zero, List.set_cons_succ])
  refine wpAnyH_take (i := 7) (oi := { dst := some 22, op := Op.move (Operand.tmp 4), type := 3, pos := "law.go:50", after := #[], guard := none }) (v := ?_) rfl (by kernel_rfl) (by kernel_rfl) (by kernel_rfl) (fun _ _ _ h => h) (Or.inl ⟨by rfl, ?_⟩) (by assumption) ?_
  rotate_left
  · (intro ww hSw; (try dsimp only at hSw); go_simp; try with_reducible rfl)
  (try simp only [Act.put, List.setIfInBounds_toArray, List.set_cons_zero, List.set_cons_succ])
  refine wpAnyH_take (i := 8) (oi := { dst := some 23, op := Op.move (Operand.tmp 5), type := 3, pos := "law.go:50", after := #[], guard := none }) (v := ?_) rfl (by kernel_rfl) (by kernel_rfl) (by kernel_rfl) (fun _ _ _ h => h) (Or.inl ⟨by rfl, ?_⟩) (by assumption) ?_
  rotate_left
  · (intro ww hSw; (try dsimp only at hSw); go_simp; try with_reducible rfl)
  (try simp only [Act.put, List.setIfInBounds_toArray, List.set_cons_zero, List.set_cons_succ])
  refine wpAnyH_ready (rs := [4]) (by kernel_rfl) (by simp) ?_
  refine AllReadyH.cons (o := { dst := some 19, op := Op.call { callee := Callee.value (Operand.func 16), args := #[Operand.tmp 15, Operand.tmp 16, Operand.tmp 17, Operand.tmp 18], argTypes := #[28, 28, 3, 3] }, type := 9, pos := "law.go:50", after := #[{ on := 0, ground := Ground.data }, { on := 1, ground := Ground.data }, { on := 2, ground := Ground.data }, { on := 3, ground := Ground.data }], guard := none }) rfl (fun K hK => ?_) AllReadyH.nil
  go_simp
  ((with_reducible refine (C1.out _).mono ?_); rintro e w9 ⟨rfl, hb9⟩)
  refine hK.out _ _ (Four.loads (Four.below (And.left hHeld) hb9 (Nat.le_refl _))) (fun hHeld => ?_)
  clear hK K
  (try simp only [Act.put, List.setIfInBounds_toArray, List.set_cons_zero, List.set_cons_succ])
  refine wpAnyH_ready (rs := [9]) (by kernel_rfl) (by simp) ?_
  refine AllReadyH.cons (o := { dst := some 24, op := Op.call { callee := Callee.value (Operand.func 20), args := #[Operand.tmp 20, Operand.tmp 21, Operand.tmp 22, Operand.tmp 23], argTypes := #[28, 28, 3, 3] }, type := 9, pos := "law.go:50", after := #[{ on := 5, ground := Ground.data }, { on := 6, ground := Ground.data }, { on := 7, ground := Ground.data }, { on := 8, ground := Ground.data }, { on := 4, ground := Ground.chain }], guard := none }) rfl (fun K hK => ?_) AllReadyH.nil
  go_simp
  ((with_reducible refine (C2.out _).mono ?_); rintro e w9 ⟨rfl, hb9⟩)
  refine hK.out _ _ (Four.loads (Four.below (And.left hHeld) hb9 (Nat.le_refl _))) (fun hHeld => ?_)
  clear hK K
  (try simp only [Act.put, List.setIfInBounds_toArray, List.set_cons_zero, List.set_cons_succ])
  refine wpAnyH_take (i := 10) (oi := { dst := some 25, op := Op.binOp BinOp.eql 9 (Operand.tmp 19) (Operand.tmp 24) 9, type := 4, pos := "law.go:50", after := #[{ on := 4, ground := Ground.data }, { on := 9, ground := Ground.data }], guard := none }) (v := ?_) rfl (by kernel_rfl) (by kernel_rfl) (by kernel_rfl) (fun _ _ _ h => h) (Or.inl ⟨by rfl, ?_⟩) (by assumption) ?_
  rotate_left
  · (intro ww hSw; (try dsimp only at hSw); go_simp; try with_reducible rfl)
  (try simp only [Act.put, List.setIfInBounds_toArray, List.set_cons_zero, List.set_cons_succ])
  refine wpAnyH_take (i := 11) (oi := { dst := some 26, op := Op.move (Operand.tmp 25), type := 4, pos := "law.go:50", after := #[{ on := 10, ground := Ground.data }, { on := 9, ground := Ground.chain }], guard := none }) (v := ?_) rfl (by kernel_rfl) (by kernel_rfl) (by kernel_rfl) (fun _ _ _ h => h) (Or.inl ⟨by rfl, ?_⟩) (by assumption) ?_
  rotate_left
  · (intro ww hSw; (try dsimp only at hSw); go_simp; try with_reducible rfl)
  (try simp only [Act.put, List.setIfInBounds_toArray, List.set_cons_zero, List.set_cons_succ])
  refine wpAnyH_take (i := 12) (oi := { dst := some 27, op := Op.load 31 (Operand.tmp 8), type := 31, pos := "law.go:50", after := #[{ on := 11, ground := Ground.guard }], guard := some (11, true) }) (v := .agg L3.toArray) rfl (by kernel_rfl) (by kernel_rfl) (by kernel_rfl) (fun _ _ _ h => h) (yieldsIf_load_mid (by rfl) _ _ rfl p3 0 rfl L3 _ (fun ww hSw => hSw.2.2.2.2.2.2.2.2.2.1) hu rfl hi3) (by assumption) ?_
  (try simp only [Act.put, List.setIfInBounds_toArray, List.set_cons_zero, List.set_cons_succ])
  refine wpAnyH_take (i := 13) (oi := { dst := some 28, op := Op.load 31 (Operand.tmp 9), type := 31, pos := "law.go:50", after := #[{ on := 11, ground := Ground.guard }], guard := some (11, true) }) (v := .agg L4.toArray) rfl (by kernel_rfl) (by kernel_rfl) (by kernel_rfl) (fun _ _ _ h => h) (yieldsIf_load_mid (by rfl) _ _ rfl p4 0 rfl L4 _ (fun ww hSw => hSw.2.2.2.2.2.2.2.2.2.2) hu rfl hi4) (by assumption) ?_
  (try simp only [Act.put, List.setIfInBounds_toArray, List.set_cons_zero, List.set_cons_succ])
  refine wpAnyH_take (i := 14) (oi := { dst := some 29, op := Op.move (Operand.tmp 4), type := 3, pos := "law.go:50", after := #[{ on := 11, ground := Ground.guard }], guard := some (11, true) }) (v := ?_) rfl (by kernel_rfl) (by kernel_rfl) (by kernel_rfl) (fun _ _ _ h => h) (Or.inl ⟨by rfl, ?_⟩) (by assumption) ?_
  rotate_left
  · (intro ww hSw; (try dsimp only at hSw); go_simp; try with_reducible rfl)
  (try simp only [Act.put, List.setIfInBounds_toArray, List.set_cons_zero, List.set_cons_succ])
  refine wpAnyH_take (i := 15) (oi := { dst := some 30, op := Op.move (Operand.tmp 5), type := 3, pos := "law.go:50", after := #[{ on := 11, ground := Ground.guard }], guard := some (11, true) }) (v := ?_) rfl (by kernel_rfl) (by kernel_rfl) (by kernel_rfl) (fun _ _ _ h => h) (Or.inl ⟨by rfl, ?_⟩) (by assumption) ?_
  rotate_left
  · (intro ww hSw; (try dsimp only at hSw); go_simp; try with_reducible rfl)
  (try simp only [Act.put, List.setIfInBounds_toArray, List.set_cons_zero, List.set_cons_succ])
  refine wpAnyH_take (i := 17) (oi := { dst := some 32, op := Op.load 31 (Operand.tmp 8), type := 31, pos := "law.go:50", after := #[{ on := 11, ground := Ground.guard }], guard := some (11, true) }) (v := .agg L3.toArray) rfl (by kernel_rfl) (by kernel_rfl) (by kernel_rfl) (fun _ _ _ h => h) (yieldsIf_load_mid (by rfl) _ _ rfl p3 0 rfl L3 _ (fun ww hSw => hSw.2.2.2.2.2.2.2.2.2.1) hu rfl hi3) (by assumption) ?_
  (try simp only [Act.put, List.setIfInBounds_toArray, List.set_cons_zero, List.set_cons_succ])
  refine wpAnyH_take (i := 18) (oi := { dst := some 33, op := Op.load 31 (Operand.tmp 9), type := 31, pos := "law.go:50", after := #[{ on := 11, ground := Ground.guard }], guard := some (11, true) }) (v := .agg L4.toArray) rfl (by kernel_rfl) (by kernel_rfl) (by kernel_rfl) (fun _ _ _ h => h) (yieldsIf_load_mid (by rfl) _ _ rfl p4 0 rfl L4 _ (fun ww hSw => hSw.2.2.2.2.2.2.2.2.2.2) hu rfl hi4) (by assumption) ?_
  (try simp only [Act.put, List.setIfInBounds_toArray, List.set_cons_zero, List.set_cons_succ])
  refine wpAnyH_take (i := 19) (oi := { dst := some 34, op := Op.move (Operand.tmp 4), type := 3, pos := "law.go:50", after := #[{ on := 11, ground := Ground.guard }], guard := some (11, true) }) (v := ?_) rfl (by kernel_rfl) (by kernel_rfl) (by kernel_rfl) (fun _ _ _ h => h) (Or.inl ⟨by rfl, ?_⟩) (by assumption) ?_
  rotate_left
  · (intro ww hSw; (try dsimp only at hSw); go_simp; try with_reducible rfl)
  (try simp only [Act.put, List.setIfInBounds_toArray, List.set_cons_zero, List.set_cons_succ])
  refine wpAnyH_take (i := 20) (oi := { dst := some 35, op := Op.move (Operand.tmp 5), type := 3, pos := "law.go:50", after := #[{ on := 11, ground := Ground.guard }], guard := some (11, true) }) (v := ?_) rfl (by kernel_rfl) (by kernel_rfl) (by kernel_rfl) (fun _ _ _ h => h) (Or.inl ⟨by rfl, ?_⟩) (by assumption) ?_
  rotate_left
  · (intro ww hSw; (try dsimp only at hSw); go_simp; try with_reducible rfl)
  (try simp only [Act.put, List.setIfInBounds_toArray, List.set_cons_zero, List.set_cons_succ])
  refine wpAnyH_ready (rs := [16]) (by kernel_rfl) (by simp) ?_
  refine AllReadyH.cons (o := { dst := some 31, op := Op.call { callee := Callee.value (Operand.func 17), args := #[Operand.tmp 27, Operand.tmp 28, Operand.tmp 29, Operand.tmp 30], argTypes := #[31, 31, 3, 3] }, type := 9, pos := "law.go:50", after := #[{ on := 12, ground := Ground.data }, { on := 13, ground := Ground.data }, { on := 14, ground := Ground.data }, { on := 15, ground := Ground.data }, { on := 11, ground := Ground.chain }, { on := 11, ground := Ground.guard }], guard := some (11, true) }) rfl (fun K hK => ?_) AllReadyH.nil
  go_simp
  ((with_reducible refine (C3.out _).mono ?_); rintro e w9 ⟨rfl, hb9⟩)
  refine hK.out _ _ (Four.loads (Four.below (And.left hHeld) hb9 (Nat.le_refl _))) (fun hHeld => ?_)
  clear hK K
  (try simp only [Act.put, List.setIfInBounds_toArray, List.set_cons_zero, List.set_cons_succ])
  refine wpAnyH_ready (rs := [21]) (by kernel_rfl) (by simp) ?_
  refine AllReadyH.cons (o := { dst := some 36, op := Op.call { callee := Callee.value (Operand.func 21), args := #[Operand.tmp 32, Operand.tmp 33, Operand.tmp 34, Operand.tmp 35], argTypes := #[31, 31, 3, 3] }, type := 9, pos := "law.go:50", after := #[{ on := 17, ground := Ground.data }, { on := 18, ground := Ground.data }, { on := 19, ground := Ground.data }, { on := 20, ground := Ground.data }, { on := 16, ground := Ground.chain }, { on := 11, ground := Ground.guard }], guard := some (11, true) }) rfl (fun K hK => ?_) AllReadyH.nil
  go_simp
  ((with_reducible refine (C4.out _).mono ?_); rintro e w9 ⟨rfl, hb9⟩)
  refine hK.out _ _ (Four.loads (Four.below (And.left hHeld) hb9 (Nat.le_refl _))) (fun hHeld => ?_)
  clear hK K
  (try simp only [Act.put, List.setIfInBounds_toArray, List.set_cons_zero, List.set_cons_succ])
  refine wpAnyH_take (i := 22) (oi := { dst := some 37, op := Op.binOp BinOp.eql 9 (Operand.tmp 31) (Operand.tmp 36) 9, type := 4, pos := "law.go:50", after := #[{ on := 16, ground := Ground.data }, { on := 21, ground := Ground.data }, { on := 11, ground := Ground.guard }], guard := some (11, true) }) (v := ?_) rfl (by kernel_rfl) (by kernel_rfl) (by kernel_rfl) (fun _ _ _ h => h) (Or.inl ⟨by rfl, ?_⟩) (by assumption) ?_
  rotate_left
  · (intro ww hSw; (try dsimp only at hSw); go_simp; try with_reducible rfl)
  (try simp only [Act.put, List.setIfInBounds_toArray, List.set_cons_zero, List.set_cons_succ])
  refine wpAnyH_take (i := 23) (oi := { dst := some 38, op := Op.pick (Operand.tmp 26) (Operand.tmp 37) (Operand.const (Value.bool false)), type := 4, pos := "law.go:50", after := #[{ on := 11, ground := Ground.data }, { on := 22, ground := Ground.data }], guard := none }) (v := ?_) rfl (by kernel_rfl) (by kernel_rfl) (by kernel_rfl) (fun _ _ _ h => h) (Or.inl ⟨by rfl, ?_⟩) (by assumption) ?_
  rotate_left
  · (intro ww hSw; (try dsimp only at hSw); go_simp; try with_reducible rfl)
  (try simp only [Act.put, List.setIfInBounds_toArray, List.set_cons_zero, List.set_cons_succ])
  refine wpAnyH_take (i := 24) (oi := { dst := some 12, op := Op.assign (Operand.tmp 38), type := 4, pos := "law.go:50", after := #[{ on := 23, ground := Ground.data }, { on := 21, ground := Ground.chain }, { on := 0, ground := Ground.phase }, { on := 1, ground := Ground.phase }, { on := 2, ground := Ground.phase }, { on := 3, ground := Ground.phase }, { on := 4, ground := Ground.phase }, { on := 5, ground := Ground.phase }, { on := 6, ground := Ground.phase }, { on := 7, ground := Ground.phase }, { on := 8, ground := Ground.phase }, { on := 9, ground := Ground.phase }, { on := 10, ground := Ground.phase }, { on := 11, ground := Ground.phase }, { on := 12, ground := Ground.phase }, { on := 13, ground := Ground.phase }, { on := 14, ground := Ground.phase }, { on := 15, ground := Ground.phase }, { on := 16, ground := Ground.phase }, { on := 17, ground := Ground.phase }, { on := 18, ground := Ground.phase }, { on := 19, ground := Ground.phase }, { on := 20, ground := Ground.phase }, { on := 21, ground := Ground.phase }, { on := 22, ground := Ground.phase }, { on := 23, ground := Ground.phase }], guard := none }) (v := ?_) rfl (by kernel_rfl) (by kernel_rfl) (by kernel_rfl) (fun _ _ _ h => h) (Or.inl ⟨by rfl, ?_⟩) (by assumption) ?_
  rotate_left
  · (intro ww hSw; (try dsimp only at hSw); go_simp; try with_reducible rfl)
  (try simp only [Act.put, List.setIfInBounds_toArray, List.set_cons_zero, List.set_cons_succ])
  refine wpAnyH_done (by kernel_rfl) ?_ _
  refine NoPanic.normal ?_
  have hfin := And.left hHeld
  have hfin2 := hfin.2.2.2.2.1
  rw [HBd.out] at hfin2
  have HF := Lib.hid hfin2
  clear hfin hfin2
  go_wp2_with fail
  go_ret
  exact ⟨rfl, HF.out⟩

theorem four_of {L : List Int} (h : L.length = 4) : ∃ a0 a1 a2 a3 : Int, L = [a0, a1, a2, a3] := by
  match L, h with
  | [a0, a1, a2, a3], _ => exact ⟨a0, a1, a2, a3, rfl⟩
theorem sixteen_of {L : List Int} (h : L.length = 16) : ∃ c0 c1 c2 c3 c4 c5 c6 c7 c8 c9 c10 c11 c12 c13 c14 c15 : Int, L = [c0, c1, c2, c3, c4, c5, c6, c7, c8, c9, c10, c11, c12, c13, c14, c15] := by
  match L, h with
  | [c0, c1, c2, c3, c4, c5, c6, c7, c8, c9, c10, c11, c12, c13, c14, c15], _ => exact ⟨c0, c1, c2, c3, c4, c5, c6, c7, c8, c9, c10, c11, c12, c13, c14, c15, rfl⟩
theorem zero1 : strOfNums (lowN 1 0) = ⟨#[0]⟩ := by decide
theorem zero3 : strOfNums (lowN 3 0) = ⟨#[0, 0, 0]⟩ := by decide
theorem bytes_one (L : List Int) : ∀ v ∈ L.map (Value.int .u8), v.oneCell' = true := by
  intro v hv
  obtain ⟨x, _, rfl⟩ := List.mem_map.1 hv
  rfl

set_option maxRecDepth 100000 in
theorem sumHeads_any (LA LB LC LD : List Int) (p l : Int) (w : World) (hA : LA.length = 4) (hB : LB.length = 4) (hC : LC.length = 16) (hD : LD.length = 16) :
    Calls Try.prog 6 #[.agg (LA.map (Value.int .u8)).toArray, .agg (LB.map (Value.int .u8)).toArray, .agg (LC.map (Value.int .u8)).toArray, .agg (LD.map (Value.int .u8)).toArray, .int .i64 p, .int .i64 l] w fun e w' => e = .returned (.bool true) ∧ Below w.heap.size w w' := by
  obtain ⟨a0, a1, a2, a3, rfl⟩ := four_of hA
  obtain ⟨b0, b1, b2, b3, rfl⟩ := four_of hB
  obtain ⟨c0, c1, c2, c3, c4, c5, c6, c7, c8, c9, c10, c11, c12, c13, c14, c15, rfl⟩ := sixteen_of hC
  obtain ⟨d0, d1, d2, d3, d4, d5, d6, d7, d8, d9, d10, d11, d12, d13, d14, d15, rfl⟩ := sixteen_of hD
  refine sumHeads_gen (.int .u8 a0) (.int .u8 a1) (.int .u8 a2) (.int .u8 a3) (.int .u8 b0) (.int .u8 b1) (.int .u8 b2) (.int .u8 b3) _ _ p l _ _ w rfl rfl (bytes_one _) (bytes_one _)
    (fun W => pseudo4_any a0 a1 a2 a3 b0 b1 b2 b3 p l W) (fun W => ?_) (fun W => pseudo6_any c0 c1 c2 c3 c4 c5 c6 c7 c8 c9 c10 c11 c12 c13 c14 c15 d0 d1 d2 d3 d4 d5 d6 d7 d8 d9 d10 d11 d12 d13 d14 d15 p l W) (fun W => ?_)
  · have := rpseudo4_any a0 a1 a2 a3 b0 b1 b2 b3 p l W
    rw [zero1] at this
    exact this
  · have := rpseudo6_any c0 c1 c2 c3 c4 c5 c6 c7 c8 c9 c10 c11 c12 c13 c14 c15 d0 d1 d2 d3 d4 d5 d6 d7 d8 d9 d10 d11 d12 d13 d14 d15 p l W
    rw [zero3] at this
    exact this
end Go.Proofs.Ytfpmkadlidbboaa
