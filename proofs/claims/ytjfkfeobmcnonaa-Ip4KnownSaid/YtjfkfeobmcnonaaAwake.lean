/-
  Proved here: what the laws' own example, same and awake answer.
  Conditions: none.
-/
import Derived.Test.YtjfkfeobmcnonaaEq
namespace Go.Proofs.Ytjfkfeobmcnonaa
open Go.RowKit

/-- The chapter's packet. -/
def exP : Pkt := ⟨0, 1, 64, 17, 0, false, false, 10, 0, 0, 1, 10, 0, 0, 2, ⟨#[]⟩, ⟨#[104, 105]⟩⟩
/-- Its bytes. -/
def exB : ByteArray := ⟨#[69, 0, 0, 22, 0, 1, 0, 0, 64, 17, 102, 212, 10, 0, 0, 1, 10, 0, 0, 2, 104, 105]⟩
theorem Try.execE (a : Act) (d : Option Tmp) (ty : TypeId) (ps : String) (af : Array Edge) (w : World) (h1 : a.eval (.tmp 1) = .agg #[.int .u8 10, .int .u8 0, .int .u8 0, .int .u8 1]) (h2 : a.eval (.tmp 2) = .agg #[.int .u8 10, .int .u8 0, .int .u8 0, .int .u8 2]) :
    (execOp a.eval { dst := d, op := .build 29 #[(1, .const (.int .i64 1)), (2, .const (.int .i64 64)), (3, .const (.int .i64 17)), (7, .tmp 1), (8, .tmp 2), (10, .const (.string ⟨#[104, 105]⟩))], type := ty, pos := ps, after := af, guard := none }).run Try.prog w = .ok (.value (.agg exP.vals.toArray)) w := by
  unfold execOp
  simp only [Sem.run_bind, List.map_toArray, List.map_cons, List.map_nil, h1, h2]
  show Result.andThen ((Instr.build 29 #[(1, .int .i64 1), (2, .int .i64 64), (3, .int .i64 17), (7, .agg #[.int .u8 10, .int .u8 0, .int .u8 0, .int .u8 1]), (8, .agg #[.int .u8 10, .int .u8 0, .int .u8 0, .int .u8 2]), (10, .string ⟨#[104, 105]⟩)]).run Try.prog w) _ = _
  rw [show (Instr.build 29 #[(1, .int .i64 1), (2, .int .i64 64), (3, .int .i64 17), (7, .agg #[.int .u8 10, .int .u8 0, .int .u8 0, .int .u8 1]), (8, .agg #[.int .u8 10, .int .u8 0, .int .u8 0, .int .u8 2]), (10, .string ⟨#[104, 105]⟩)]).run Try.prog w = .ok (.agg exP.vals.toArray) w by kernel_rfl]
  rfl
set_option maxRecDepth 100000 in
set_option maxHeartbeats 400000 in
theorem example_any (w : World) :
    Calls Try.prog 14 #[] w fun e w' => e = .returned (.agg exP.vals.toArray) ∧ Below w.heap.size w w' := by
  obtain ⟨VE, hVE⟩ : ∃ VE, VE = exP.vals := ⟨_, rfl⟩
  have HEX : Hid (∀ (a : Act) (d : Option Tmp) (ty : TypeId) (ps : String) (af : Array Edge) (W : World), a.eval (.tmp 1) = .agg #[.int .u8 10, .int .u8 0, .int .u8 0, .int .u8 1] → a.eval (.tmp 2) = .agg #[.int .u8 10, .int .u8 0, .int .u8 0, .int .u8 2] → (execOp a.eval { dst := d, op := .build 29 #[(1, .const (.int .i64 1)), (2, .const (.int .i64 64)), (3, .const (.int .i64 17)), (7, .tmp 1), (8, .tmp 2), (10, .const (.string ⟨#[104, 105]⟩))], type := ty, pos := ps, after := af, guard := none }).run Try.prog W = .ok (.value (.agg VE.toArray)) W) := Lib.hid (fun a d ty ps af W h1 h2 => by rw [hVE]; exact Try.execE a d ty ps af W h1 h2)
  have HIe : Hid ((Try.prog.info? 29).map (·.size) = some VE.length) := Lib.hid (by rw [hVE]; exact Try.infoIp exP)
  have HOe : Hid (VE.toArray.all (·.oneCell') = true) := Lib.hid (by rw [hVE]; exact vals_one exP)
  have HPe : Hid (∀ p : Pkt, puts p.vals.toArray 0 VE = VE.toArray) := Lib.hid (fun p => by rw [hVE]; exact puts_all p exP)
  have ht : (w.alloc (.cells #[.int .i64 0, .int .i64 0, .int .i64 0, .int .i64 0, .int .i64 0, .bool false, .bool false, .int .u8 0, .int .u8 0, .int .u8 0, .int .u8 0, .int .u8 0, .int .u8 0, .int .u8 0, .int .u8 0, .string ⟨#[]⟩, .string ⟨#[]⟩] 29)).there w.heap.size 0 VE.toArray.size := by rw [hVE]; exact (bk_new w 29 #[.int .i64 0, .int .i64 0, .int .i64 0, .int .i64 0, .int .i64 0, .bool false, .bool false, .int .u8 0, .int .u8 0, .int .u8 0, .int .u8 0, .int .u8 0, .int .u8 0, .int .u8 0, .int .u8 0, .string ⟨#[]⟩, .string ⟨#[]⟩]).there 17 (Nat.le_refl _)
  have HVE := Lib.hid hVE
  clear hVE
  go_enter Try.func14, Try.ntmps14
  go_wp2_with (first | (refine Great.wpList_readTo rfl _ rfl (.agg VE.toArray) (HEX.out _ _ _ _ _ _ rfl rfl) ?_) | (refine wpList_store_mid rfl 29 _ _ rfl w.heap.size 0 VE.toArray rfl rfl ht HIe.out HOe.out ?_))
  have hK5 := Bk.sets VE 0 _ _ (show Bk _ w.heap.size 29 pkt0.vals.toArray from bk_new w 29 #[.int .i64 0, .int .i64 0, .int .i64 0, .int .i64 0, .int .i64 0, .bool false, .bool false, .int .u8 0, .int .u8 0, .int .u8 0, .int .u8 0, .int .u8 0, .int .u8 0, .int .u8 0, .int .u8 0, .string ⟨#[]⟩, .string ⟨#[]⟩])
  rw [HPe.out] at hK5
  have hK6 := hK5.range
  refine bodyPost_ret (v := .agg VE.toArray) ?_ rfl ?_
  · exact results_cell rfl rfl (run_loadVar_mid _ w.heap.size 0 29 VE _ hK6 Try.underlying29 rfl HIe.out)
  exact ⟨by rw [HVE.out], below_sets _ (Nat.le_refl _) 0 _ ((Below.refl _ _).alloc (Nat.le_refl _) _)⟩
theorem same_ok (w : World) :
    Calls Try.prog 19 #[.nilIface, .int .i64 0] w fun e w' => e = .returned (.bool true) ∧ w = w' := by
  go_enter Try.func19, Try.ntmps19
  go_wp2_with fail
  go_ret
  exact ⟨rfl, rfl⟩
theorem Try.isFault (v : Option Addr) (w : World) : (Instr.typeAssert (.iface 56 (.pointer v)) 23 56 true).run Try.prog w = .ok (.tuple #[.pointer v, .bool true]) w := by kernel_rfl
set_option maxRecDepth 100000 in
theorem same_fault {w : World} {b : Nat} {c : Int} (hf : Flt w b c 0) (hc : (c == 0) = false) :
    Calls Try.prog 19 #[.iface 56 (.pointer (some ⟨b, 0, none⟩)), .int .i64 c] w fun e w' => e = .returned (.bool true) ∧ w = w' := by
  have c0 := hf.c0
  have c1 := hf.c1
  have hT := Try.isFault
  clear hf
  go_enter Try.func19, Try.ntmps19
  go_wp2_with fail
  go_ret
  exact ⟨rfl, rfl⟩
theorem exP_why : exP.why = 0 := by decide +kernel
theorem exP_bytes : exP.bytes = exB := by decide +kernel
theorem exB_code : pcode exB = 0 := by decide +kernel
theorem exB_pkt : ppkt exB = exP := by kernel_rfl

/-- What is kept: a packet's cells in a block, and all that was. -/
def QB (w0 : World) (B b : Nat) (V : List Value) (w : World) : Prop := Bk w b 29 V.toArray ∧ Below B w0 w ∧ B ≤ w.heap.size
theorem QB.below {w0 w w' : World} {B C b : Nat} {V : List Value} (h : QB w0 B b V w) (hb : Below C w w') (hC : w.heap.size ≤ C) : QB w0 B b V w' := by
  obtain ⟨h1, h2, h3⟩ := h
  exact ⟨h1.below hb (Nat.lt_of_lt_of_le h1.lt hC), h2.trans (hb.mono (Nat.le_trans h3 hC)), Nat.le_trans h3 hb.size⟩
theorem QB.loads {w0 w : World} {B b : Nat} {V : List Value} (h : QB w0 B b V w) : QB w0 B b V w ∧ w.rangeAt b 0 V := ⟨h, h.1.range⟩
theorem Try.guardIp : Try.prog.eqGuardType Try.prog.depth 29 = false := by kernel_rfl
set_option maxRecDepth 100000 in
set_option maxHeartbeats 400000 in
theorem awake_true (w : World) :
    Calls Try.prog 18 #[] w fun e w' => e = .returned (.bool true) ∧ Below w.heap.size w w' := by
  have hBy := fun W => bytes_ok exP W exP_why
  simp only [exP_bytes, exB] at hBy
  have hPa := fun W => parse_ok exB W (by decide) exB_code
  simp only [exB_pkt] at hPa
  simp only [exB] at hPa
  obtain ⟨VE, hVE⟩ : ∃ VE, VE = exP.vals := ⟨_, rfl⟩
  have hEx := example_any
  have heq := fun W => eqlP exP W
  have hIe := Try.infoIp exP
  have hOe := vals_one exP
  have hPe := fun p : Pkt => puts_all p exP
  have hSe : exP.vals.toArray.size = 17 := rfl
  rw [← hVE] at hBy hPa heq hIe hOe hSe
  simp only [← hVE] at hEx hPe
  have HBy := Lib.hid hBy
  have HPa := Lib.hid hPa
  have HEx := Lib.hid hEx
  have HEq := Lib.hid heq
  have HIe := Lib.hid hIe
  have HOe := Lib.hid hOe
  have HPe := Lib.hid hPe
  have HSe := Lib.hid hSe
  clear hBy hPa hEx heq hIe hOe hPe hSe hVE
  go_enter Try.func18, Try.ntmps18
  go_wp2_with fail
  refine (HEx.out _).mono ?_
  rintro e w1 ⟨rfl, b1⟩
  have HB1 := Lib.hid b1
  clear b1
  go_wp2_with fail
  refine (HBy.out _).mono ?_
  rintro e w2 ⟨rfl, b2⟩
  have HB2 := Lib.hid (HB1.out.trans (b2.mono HB1.out.size))
  clear b2 HB1
  go_wp2_with fail
  refine (HPa.out _).mono ?_
  rintro e w3 ⟨rfl, b3⟩
  have HB3 := Lib.hid (HB2.out.trans (b3.mono HB2.out.size))
  clear b3 HB2
  have ht : (w3.alloc (.cells #[.int .i64 0, .int .i64 0, .int .i64 0, .int .i64 0, .int .i64 0, .bool false, .bool false, .int .u8 0, .int .u8 0, .int .u8 0, .int .u8 0, .int .u8 0, .int .u8 0, .int .u8 0, .int .u8 0, .string ⟨#[]⟩, .string ⟨#[]⟩] 29)).there w3.heap.size 0 VE.toArray.size := by rw [HSe.out]; exact (bk_new w3 29 #[.int .i64 0, .int .i64 0, .int .i64 0, .int .i64 0, .int .i64 0, .bool false, .bool false, .int .u8 0, .int .u8 0, .int .u8 0, .int .u8 0, .int .u8 0, .int .u8 0, .int .u8 0, .int .u8 0, .string ⟨#[]⟩, .string ⟨#[]⟩]).there 17 (Nat.le_refl _)
  go_upto_region 3 with (refine wpList_store_mid rfl 29 _ _ rfl w3.heap.size 0 VE.toArray rfl rfl ht HIe.out HOe.out ?_)
  have hK := Bk.sets VE 0 _ _ (show Bk _ w3.heap.size 29 pkt0.vals.toArray from bk_new w3 29 #[.int .i64 0, .int .i64 0, .int .i64 0, .int .i64 0, .int .i64 0, .bool false, .bool false, .int .u8 0, .int .u8 0, .int .u8 0, .int .u8 0, .int .u8 0, .int .u8 0, .int .u8 0, .int .u8 0, .string ⟨#[]⟩, .string ⟨#[]⟩])
  rw [HPe.out] at hK
  have hB := below_sets (b := w3.heap.size) VE HB3.out.size 0 _ (HB3.out.alloc HB3.out.size (.cells #[.int .i64 0, .int .i64 0, .int .i64 0, .int .i64 0, .int .i64 0, .bool false, .bool false, .int .u8 0, .int .u8 0, .int .u8 0, .int .u8 0, .int .u8 0, .int .u8 0, .int .u8 0, .int .u8 0, .string ⟨#[]⟩, .string ⟨#[]⟩] 29))
  obtain ⟨B, hBd⟩ : ∃ B, B = w.heap.size := ⟨_, rfl⟩
  rw [← hBd] at hB
  have hQ : QB w B w3.heap.size VE ((w3.alloc (.cells #[.int .i64 0, .int .i64 0, .int .i64 0, .int .i64 0, .int .i64 0, .bool false, .bool false, .int .u8 0, .int .u8 0, .int .u8 0, .int .u8 0, .int .u8 0, .int .u8 0, .int .u8 0, .int .u8 0, .string ⟨#[]⟩, .string ⟨#[]⟩] 29)).setCells w3.heap.size 0 VE) := ⟨hK, hB, by rw [size_sets]; have := HB3.out.size; simp; omega⟩
  have HBd := Lib.hid hBd
  clear hBd hK hB ht
  generalize (w3.alloc (.cells #[.int .i64 0, .int .i64 0, .int .i64 0, .int .i64 0, .int .i64 0, .bool false, .bool false, .int .u8 0, .int .u8 0, .int .u8 0, .int .u8 0, .int .u8 0, .int .u8 0, .int .u8 0, .int .u8 0, .string ⟨#[]⟩, .string ⟨#[]⟩] 29)).setCells w3.heap.size 0 VE = w4 at *
  generalize w3.heap.size = b at *
  have heq := HEq.out
  have hgu := Try.guardIp
  refine wp_region_noPanic ?_
  refine wp_region_held_drew (S := fun w' => QB w B b VE w' ∧ w'.rangeAt b 0 VE) (by kernel_rfl) ((QB.below hQ ((Below.refl w4.heap.size w4).drew) (Nat.le_refl _)).loads) (fun hHeld => ?_)
  refine wpAnyH_take (i := 0) (oi := { dst := some 15, op := Op.move (Operand.tmp 2), type := 23, pos := "law.go:23", after := #[], guard := none }) (v := ?_) rfl (by kernel_rfl) (by kernel_rfl) (by kernel_rfl) (fun _ _ _ h => h) (Or.inl ⟨by rfl, ?_⟩) (by assumption) ?_
  rotate_left
  · (intro ww hSw; (try dsimp only at hSw); go_simp; try with_reducible rfl)
  (try simp only [Act.put, List.setIfInBounds_toArray, List.set_cons_zero, List.set_cons_succ])
  refine wpAnyH_take (i := 1) (oi := { dst := some 16, op := Op.binOp BinOp.eql 23 (Operand.tmp 15) (Operand.const Value.nilIface) 23, type := 4, pos := "law.go:23", after := #[{ on := 0, ground := Ground.data }], guard := none }) (v := ?_) rfl (by kernel_rfl) (by kernel_rfl) (by kernel_rfl) (fun _ _ _ h => h) (Or.inl ⟨by rfl, ?_⟩) (by assumption) ?_
  rotate_left
  · (intro ww hSw; (try dsimp only at hSw); go_simp; try with_reducible rfl)
  (try simp only [Act.put, List.setIfInBounds_toArray, List.set_cons_zero, List.set_cons_succ])
  refine wpAnyH_take (i := 2) (oi := { dst := some 17, op := Op.move (Operand.tmp 16), type := 4, pos := "law.go:23", after := #[{ on := 1, ground := Ground.data }], guard := none }) (v := ?_) rfl (by kernel_rfl) (by kernel_rfl) (by kernel_rfl) (fun _ _ _ h => h) (Or.inl ⟨by rfl, ?_⟩) (by assumption) ?_
  rotate_left
  · (intro ww hSw; (try dsimp only at hSw); go_simp; try with_reducible rfl)
  (try simp only [Act.put, List.setIfInBounds_toArray, List.set_cons_zero, List.set_cons_succ])
  refine wpAnyH_take (i := 3) (oi := { dst := some 18, op := Op.move (Operand.tmp 4), type := 23, pos := "law.go:23", after := #[{ on := 2, ground := Ground.guard }], guard := some (2, true) }) (v := ?_) rfl (by kernel_rfl) (by kernel_rfl) (by kernel_rfl) (fun _ _ _ h => h) (Or.inl ⟨by rfl, ?_⟩) (by assumption) ?_
  rotate_left
  · (intro ww hSw; (try dsimp only at hSw); go_simp; try with_reducible rfl)
  (try simp only [Act.put, List.setIfInBounds_toArray, List.set_cons_zero, List.set_cons_succ])
  refine wpAnyH_take (i := 4) (oi := { dst := some 19, op := Op.binOp BinOp.eql 23 (Operand.tmp 18) (Operand.const Value.nilIface) 23, type := 4, pos := "law.go:23", after := #[{ on := 3, ground := Ground.data }, { on := 2, ground := Ground.guard }], guard := some (2, true) }) (v := ?_) rfl (by kernel_rfl) (by kernel_rfl) (by kernel_rfl) (fun _ _ _ h => h) (Or.inl ⟨by rfl, ?_⟩) (by assumption) ?_
  rotate_left
  · (intro ww hSw; (try dsimp only at hSw); go_simp; try with_reducible rfl)
  (try simp only [Act.put, List.setIfInBounds_toArray, List.set_cons_zero, List.set_cons_succ])
  refine wpAnyH_take (i := 5) (oi := { dst := some 20, op := Op.pick (Operand.tmp 17) (Operand.tmp 19) (Operand.const (Value.bool false)), type := 4, pos := "law.go:23", after := #[{ on := 2, ground := Ground.data }, { on := 4, ground := Ground.data }], guard := none }) (v := ?_) rfl (by kernel_rfl) (by kernel_rfl) (by kernel_rfl) (fun _ _ _ h => h) (Or.inl ⟨by rfl, ?_⟩) (by assumption) ?_
  rotate_left
  · (intro ww hSw; (try dsimp only at hSw); go_simp; try with_reducible rfl)
  (try simp only [Act.put, List.setIfInBounds_toArray, List.set_cons_zero, List.set_cons_succ])
  refine wpAnyH_take (i := 6) (oi := { dst := some 21, op := Op.move (Operand.tmp 20), type := 4, pos := "law.go:23", after := #[{ on := 5, ground := Ground.data }, { on := 2, ground := Ground.chain }], guard := none }) (v := ?_) rfl (by kernel_rfl) (by kernel_rfl) (by kernel_rfl) (fun _ _ _ h => h) (Or.inl ⟨by rfl, ?_⟩) (by assumption) ?_
  rotate_left
  · (intro ww hSw; (try dsimp only at hSw); go_simp; try with_reducible rfl)
  (try simp only [Act.put, List.setIfInBounds_toArray, List.set_cons_zero, List.set_cons_succ])
  refine wpAnyH_take (i := 7) (oi := { dst := some 22, op := Op.load 29 (Operand.tmp 3), type := 29, pos := "law.go:23", after := #[{ on := 6, ground := Ground.guard }], guard := some (6, true) }) (v := .agg (VE).toArray) rfl (by kernel_rfl) (by kernel_rfl) (by kernel_rfl) (fun _ _ _ h => h) (yieldsIf_load_mid (by rfl) _ _ rfl (b) 0 rfl (VE) _ (fun ww hSw => hSw.2) Try.underlying29 rfl HIe.out) (by assumption) ?_
  (try simp only [Act.put, List.setIfInBounds_toArray, List.set_cons_zero, List.set_cons_succ])
  refine wpAnyH_ready (rs := [8]) (by kernel_rfl) (by simp) ?_
  refine AllReadyH.cons (o := { dst := some 23, op := Op.call { callee := Callee.value (Operand.func 14), args := #[], argTypes := #[] }, type := 29, pos := "law.go:23", after := #[{ on := 6, ground := Ground.chain }, { on := 6, ground := Ground.guard }], guard := some (6, true) }) rfl (fun K hK => ?_) AllReadyH.nil
  go_simp
  ((with_reducible refine (HEx.out _).mono ?_); rintro e w9 ⟨rfl, hb9⟩)
  refine hK.out _ _ ((QB.below (And.left hHeld) hb9 (Nat.le_refl _)).loads) (fun hHeld => ?_)
  clear hK K
  (try simp only [Act.put, List.setIfInBounds_toArray, List.set_cons_zero, List.set_cons_succ])
  refine wpAnyH_take (i := 9) (oi := { dst := some 24, op := Op.binOp BinOp.eql 29 (Operand.tmp 22) (Operand.tmp 23) 29, type := 4, pos := "law.go:23", after := #[{ on := 7, ground := Ground.data }, { on := 8, ground := Ground.data }, { on := 6, ground := Ground.guard }], guard := some (6, true) }) (v := ?_) rfl (by kernel_rfl) (by kernel_rfl) (by kernel_rfl) (fun _ _ _ h => h) (Or.inl ⟨by rfl, ?_⟩) (by assumption) ?_
  rotate_left
  · (intro ww hSw; (try dsimp only at hSw); go_simp; try with_reducible rfl)
  (try simp only [Act.put, List.setIfInBounds_toArray, List.set_cons_zero, List.set_cons_succ])
  refine wpAnyH_take (i := 10) (oi := { dst := some 25, op := Op.pick (Operand.tmp 21) (Operand.tmp 24) (Operand.const (Value.bool false)), type := 4, pos := "law.go:23", after := #[{ on := 6, ground := Ground.data }, { on := 9, ground := Ground.data }], guard := none }) (v := ?_) rfl (by kernel_rfl) (by kernel_rfl) (by kernel_rfl) (fun _ _ _ h => h) (Or.inl ⟨by rfl, ?_⟩) (by assumption) ?_
  rotate_left
  · (intro ww hSw; (try dsimp only at hSw); go_simp; try with_reducible rfl)
  (try simp only [Act.put, List.setIfInBounds_toArray, List.set_cons_zero, List.set_cons_succ])
  refine wpAnyH_take (i := 11) (oi := { dst := some 26, op := Op.move (Operand.tmp 25), type := 4, pos := "law.go:23", after := #[{ on := 10, ground := Ground.data }, { on := 8, ground := Ground.chain }], guard := none }) (v := ?_) rfl (by kernel_rfl) (by kernel_rfl) (by kernel_rfl) (fun _ _ _ h => h) (Or.inl ⟨by rfl, ?_⟩) (by assumption) ?_
  rotate_left
  · (intro ww hSw; (try dsimp only at hSw); go_simp; try with_reducible rfl)
  (try simp only [Act.put, List.setIfInBounds_toArray, List.set_cons_zero, List.set_cons_succ])
  refine wpAnyH_take (i := 12) (oi := { dst := some 27, op := Op.move (Operand.tmp 1), type := 9, pos := "law.go:23", after := #[{ on := 11, ground := Ground.guard }], guard := some (11, true) }) (v := ?_) rfl (by kernel_rfl) (by kernel_rfl) (by kernel_rfl) (fun _ _ _ h => h) (Or.inl ⟨by rfl, ?_⟩) (by assumption) ?_
  rotate_left
  · (intro ww hSw; (try dsimp only at hSw); go_simp; try with_reducible rfl)
  (try simp only [Act.put, List.setIfInBounds_toArray, List.set_cons_zero, List.set_cons_succ])
  refine wpAnyH_take (i := 13) (oi := { dst := some 28, op := Op.binOp BinOp.eql 9 (Operand.tmp 27) (Operand.const (Value.string { data := #[69, 0, 0, 22, 0, 1, 0, 0, 64, 17, 102, 212, 10, 0, 0, 1, 10, 0, 0, 2, 104, 105] })) 9, type := 4, pos := "law.go:23", after := #[{ on := 12, ground := Ground.data }, { on := 11, ground := Ground.guard }], guard := some (11, true) }) (v := ?_) rfl (by kernel_rfl) (by kernel_rfl) (by kernel_rfl) (fun _ _ _ h => h) (Or.inl ⟨by rfl, ?_⟩) (by assumption) ?_
  rotate_left
  · (intro ww hSw; (try dsimp only at hSw); go_simp; try with_reducible rfl)
  (try simp only [Act.put, List.setIfInBounds_toArray, List.set_cons_zero, List.set_cons_succ])
  refine wpAnyH_take (i := 14) (oi := { dst := some 29, op := Op.pick (Operand.tmp 26) (Operand.tmp 28) (Operand.const (Value.bool false)), type := 4, pos := "law.go:23", after := #[{ on := 11, ground := Ground.data }, { on := 13, ground := Ground.data }], guard := none }) (v := ?_) rfl (by kernel_rfl) (by kernel_rfl) (by kernel_rfl) (fun _ _ _ h => h) (Or.inl ⟨by rfl, ?_⟩) (by assumption) ?_
  rotate_left
  · (intro ww hSw; (try dsimp only at hSw); go_simp; try with_reducible rfl)
  (try simp only [Act.put, List.setIfInBounds_toArray, List.set_cons_zero, List.set_cons_succ])
  refine wpAnyH_take (i := 15) (oi := { dst := some 0, op := Op.assign (Operand.tmp 29), type := 4, pos := "law.go:23", after := #[{ on := 14, ground := Ground.data }, { on := 11, ground := Ground.chain }, { on := 0, ground := Ground.phase }, { on := 1, ground := Ground.phase }, { on := 2, ground := Ground.phase }, { on := 3, ground := Ground.phase }, { on := 4, ground := Ground.phase }, { on := 5, ground := Ground.phase }, { on := 6, ground := Ground.phase }, { on := 7, ground := Ground.phase }, { on := 8, ground := Ground.phase }, { on := 9, ground := Ground.phase }, { on := 10, ground := Ground.phase }, { on := 11, ground := Ground.phase }, { on := 12, ground := Ground.phase }, { on := 13, ground := Ground.phase }, { on := 14, ground := Ground.phase }], guard := none }) (v := ?_) rfl (by kernel_rfl) (by kernel_rfl) (by kernel_rfl) (fun _ _ _ h => h) (Or.inl ⟨by rfl, ?_⟩) (by assumption) ?_
  rotate_left
  · (intro ww hSw; (try dsimp only at hSw); go_simp; try with_reducible rfl)
  (try simp only [Act.put, List.setIfInBounds_toArray, List.set_cons_zero])
  refine wpAnyH_done (by kernel_rfl) ?_ _
  refine NoPanic.normal ?_
  have hf := (And.left hHeld).2.1
  rw [HBd.out] at hf
  have HF := Lib.hid hf
  clear hf hHeld heq hgu hQ
  go_wp2_with fail
  go_ret
  exact ⟨rfl, HF.out⟩
end Go.Proofs.Ytjfkfeobmcnonaa
