/-
  Proved here: what each call of num.Reader does to its block, and answers.
  Conditions: the reader's block is whole (its text, its place within the text, its fault's code); texts no longer than the model lets be.
  Proved here: what ip4.Bytes answers.
  Conditions: texts of at most 70000 bytes.
  Proved here: what Text of a num.Reader does and answers: what it reads, and each fault.
  Conditions: the reader's block is whole; texts no longer than the model lets be.
  Proved here: what U8, U16 and U32 of a num.Reader do and answer.
  Conditions: the reader's block is whole; texts no longer than the model lets be.
-/
import Derived.Test.YtkihhmnlefekoaaFLow
import Derived.OneCell
import Derived.BigQuiet
import Derived.Deep.QuietTactic
import Derived.WalkSpells
import Derived.Test.YtkihhmnlefekoaaFHead
namespace Go.Proofs.Ytkihhmnlefekoaa.P4
open Go.RowKit

/-- Block b is a reader: text s, place p, fault's code c. -/
def Rd (w : World) (b : Nat) (s : ByteArray) (p : Nat) (c : Int) : Prop := w.heap[b]? = some (.cells #[.string s, .int .i64 p, .int .i64 c] 113 (0, 0))
/-- Block b is a fault: code c, place p. -/
def Flt (w : World) (b : Nat) (c p : Int) : Prop := w.heap[b]? = some (.cells #[.int .i64 c, .int .i64 p] 78 (0, 0))

section
variable {w w' : World} {b : Nat} {s : ByteArray} {p : Nat} {c : Int}
theorem Rd.c0 (h : Rd w b s p c) : w.cell? ⟨b, 0, none⟩ = some (.string s) := by unfold Rd at h; simp [World.cell?, h]
theorem Rd.c1 (h : Rd w b s p c) : w.cell? ⟨b, 1, none⟩ = some (.int .i64 p) := by unfold Rd at h; simp [World.cell?, h]
theorem Rd.c2 (h : Rd w b s p c) : w.cell? ⟨b, 2, none⟩ = some (.int .i64 c) := by unfold Rd at h; simp [World.cell?, h]
theorem Rd.z (h : Rd w b s p c) (o : Nat) : w.frozen? ⟨b, o, none⟩ = false := by unfold Rd at h; simp [World.frozen?, h]
theorem Rd.lt (h : Rd w b s p c) : b < w.heap.size := lt_of_block h
theorem Rd.set1 (h : Rd w b s p c) (x : Nat) : Rd (w.setCell ⟨b, 1, none⟩ (.int .i64 x)) b s x c := by
  have hlt := h.lt
  unfold Rd at h
  have h' : w.heap[b] = .cells #[.string s, .int .i64 p, .int .i64 c] 113 (0, 0) := by simpa [Array.getElem?_eq_getElem hlt] using h
  show (w.heap.modify b _)[b]? = _
  rw [Array.getElem?_eq_getElem (by simpa using hlt), Array.getElem_modify_self, h']
  rfl
theorem Rd.set2 (h : Rd w b s p c) (x : Int) : Rd (w.setCell ⟨b, 2, none⟩ (.int .i64 x)) b s p x := by
  have hlt := h.lt
  unfold Rd at h
  have h' : w.heap[b] = .cells #[.string s, .int .i64 p, .int .i64 c] 113 (0, 0) := by simpa [Array.getElem?_eq_getElem hlt] using h
  show (w.heap.modify b _)[b]? = _
  rw [Array.getElem?_eq_getElem (by simpa using hlt), Array.getElem_modify_self, h']
  rfl
theorem Rd.drew (h : Rd w b s p c) : Rd w.drew b s p c := h
theorem Rd.alloc (h : Rd w b s p c) (o : Obj) : Rd (w.alloc o) b s p c := (Below.heap_alloc w o b h.lt).trans h
theorem Rd.grown {row : Option Nat} (h : Rd w b s p c) (g : w.grownBy w' row) (hne : some b ≠ row) : Rd w' b s p c := (g.block b h.lt hne).trans h
theorem Rd.below {B : Nat} (h : Rd w b s p c) (g : Below B w w') (hB : b < B) : Rd w' b s p c := (g.block b hB).trans h
theorem Rd.new (w : World) (s : ByteArray) : Rd (w.alloc (.cells #[.string s, .int .i64 0, .int .i64 0] 113)) w.heap.size s 0 0 := by
  show (w.heap.push _)[w.heap.size]? = _
  simp
theorem Flt.newAt (w : World) (c p : Int) (n : Nat) (hn : n = w.heap.size) : Flt (w.alloc (.cells #[.int .i64 c, .int .i64 p] 78)) n c p := by
  subst hn
  show (w.heap.push _)[w.heap.size]? = _
  simp
theorem Flt.new (w : World) (c p : Int) : Flt (w.alloc (.cells #[.int .i64 c, .int .i64 p] 78)) w.heap.size c p := by
  show (w.heap.push _)[w.heap.size]? = _
  simp
end
section
variable {w w' w'' : World} {b : Nat} {c p : Int}
theorem Flt.c0 (h : Flt w b c p) : w.cell? ⟨b, 0, none⟩ = some (.int .i64 c) := by unfold Flt at h; simp [World.cell?, h]
theorem Flt.c1 (h : Flt w b c p) : w.cell? ⟨b, 1, none⟩ = some (.int .i64 p) := by unfold Flt at h; simp [World.cell?, h]
theorem Flt.lt (h : Flt w b c p) : b < w.heap.size := lt_of_block h
theorem Flt.below {B : Nat} (h : Flt w b c p) (g : Below B w w') (hB : b < B) : Flt w' b c p := (g.block b hB).trans h
theorem Flt.grown {row : Option Nat} (h : Flt w b c p) (g : w.grownBy w' row) (hne : some b ≠ row) : Flt w' b c p := (g.block b h.lt hne).trans h
theorem up_refl (w : World) (r : Option Nat) : w.grownBy w r := ⟨rfl, rfl, rfl, Nat.le_refl _, fun _ _ _ => rfl⟩
theorem up_trans {r : Option Nat} (h : w.grownBy w' r) (k : w'.grownBy w'' r) : w.grownBy w'' r :=
  ⟨k.os.trans h.os, k.tape.trans h.tape, k.output.trans h.output, Nat.le_trans h.size k.size, fun i hi hn => (k.block i (Nat.lt_of_lt_of_le hi h.size) hn).trans (h.block i hi hn)⟩
theorem up_set (h : w.grownBy w' (some b)) (o : Nat) (v : Value) : w.grownBy (w'.setCell ⟨b, o, none⟩ v) (some b) :=
  up_trans h ⟨rfl, rfl, rfl, by simp [World.setCell], fun k _ hn => Below.heap_setCell _ _ _ _ (fun e => hn (by rw [e]))⟩
theorem up_drew {r : Option Nat} (h : w.grownBy w' r) : w.grownBy w'.drew r := ⟨h.os, h.tape, h.output, h.size, h.block⟩
theorem up_alloc {r : Option Nat} (h : w.grownBy w' r) (o : Obj) : w.grownBy (w'.alloc o) r := up_trans h (World.grownBy_alloc _ _ _)
theorem up_below {r : Option Nat} (h : Below w.heap.size w w') : w.grownBy w' r := ⟨h.os, h.tape, h.output, h.size, fun k hk _ => h.block k hk⟩
end

theorem new_any (s : ByteArray) (w : World) : Calls Try.prog 48 #[.string s] w fun e w' => e = .returned (.pointer (some ⟨w.heap.size, 0, none⟩)) ∧ w' = w.alloc (.cells #[.string s, .int .i64 0, .int .i64 0] 113) := by
  go_enter Try.func48, Try.ntmps48
  go_wp2
  go_ret
  exact ⟨rfl, rfl⟩

theorem left_nil (w : World) :
    Calls Try.prog 74 #[.pointer none] w fun e w' => e = .returned (.int .i64 0) ∧ w = w' := by
  go_enter Try.func74, Try.ntmps74
  go_wp2
  go_ret
  exact ⟨rfl, rfl⟩

theorem left_any {w : World} {b : Nat} {s : ByteArray} {p : Nat} {c : Int} (h : Rd w b s p c) (hp : p ≤ s.size) (hs : s.size ≤ maxLen) :
    Calls Try.prog 74 #[.pointer (some ⟨b, 0, none⟩)] w fun e w' => e = .returned (.int .i64 ((s.size - p : Nat) : Int)) ∧ w' = w.drew := by
  have c0 := h.c0
  have c1 := h.c1
  unfold maxLen at hs
  have he : ((s.size - p : Nat) : Int) = (s.size : Int) - p := by omega
  rw [he]
  clear he
  go_enter Try.func74, Try.ntmps74
  go_wp2
  go_region
  go_wp2
  go_ret
  exact ⟨rfl, rfl⟩

/-- A call that answers v and a fault of code c at place 0. -/
def Bad (v : Value) (c : Int) (w : World) (e : Ending) (w' : World) : Prop :=
  ∃ b, e = .returned (.tuple #[v, .iface 75 (.pointer (some ⟨b, 0, none⟩))]) ∧ Flt w' b c 0 ∧ w.heap.size ≤ b ∧ Below w.heap.size w w'
theorem headB_size (p : Pkt) (s : Int) : (p.headB s).size = 20 + p.opts.size := by
  unfold Pkt.headB
  simp only [ByteArray.size_append, strOfNums_size, List.length_cons, List.length_nil]
theorem PB.loads3 {w0 w : World} {B b : Nat} {p : Pkt} (h : PB w0 B b p w) : PB w0 B b p w ∧ w.rangeAt b 0 p.vals ∧ w.cell? ⟨b, 16, none⟩ = some (.string p.data) := ⟨h, h.rng, h.1.c 16 _ rfl⟩
/-- The head's sum. -/
def Pkt.sum (p : Pkt) : Nat := sumL (p.headB 0).data.toList
/-- A packet's bytes. -/
def Pkt.bytes (p : Pkt) : ByteArray := p.headB p.sum ++ p.data
theorem why_ok {p : Pkt} (h : p.why = 0) : p.bnd = true ∧ p.opts.size ≤ 40 ∧ p.opts.size % 4 = 0 ∧ (p.more = true → p.data.size ≠ 0 ∧ p.data.size % 8 = 0) ∧ 20 + p.opts.size + p.pl + p.data.size ≤ 65535 := by
  unfold Pkt.why Pkt.long at h
  cases hb : p.bnd
  · rw [hb, if_pos rfl] at h; cases h
  · rw [hb, if_neg (by simp)] at h
    by_cases h1 : 40 < p.opts.size ∨ p.opts.size % 4 ≠ 0
    · rw [if_pos h1] at h; cases h
    · rw [if_neg h1] at h
      by_cases h2 : p.more = true ∧ (p.data.size = 0 ∨ p.data.size % 8 ≠ 0)
      · rw [if_pos h2] at h; cases h
      · rw [if_neg h2] at h
        by_cases h3 : 65535 < 20 + p.opts.size + p.pl + p.data.size
        · rw [if_pos h3] at h; cases h
        · refine ⟨rfl, by omega, by omega, fun hm => ?_, by omega⟩
          have : ¬ (p.data.size = 0 ∨ p.data.size % 8 ≠ 0) := fun hh => h2 ⟨hm, hh⟩
          omega

set_option maxRecDepth 100000 in
set_option maxHeartbeats 400000 in
theorem bytes_bad (p : Pkt) (w : World) (hd : p.data.size ≤ 70000) (hy : (p.why != 0) = true) :
    Calls Try.prog 20 #[.agg p.vals.toArray] w (Bad (.string ⟨#[]⟩) p.why w) := by
  have HR := Lib.hid (fun W => refusal_any p W hd)
  have hP0 := PB.new w p
  have HP0 := Lib.hid hP0
  have hr := hP0.rng
  clear hP0 hd
  generalize p.why = c at HR hy
  go_enter Try.func20, Try.ntmps20
  go_wp2_with (refine wpList_load_mid rfl 25 _ rfl _ 0 rfl p.vals _ hr Try.underlying25 rfl (Try.infoIp p) ?_)
  refine (HR.out _).mono ?_
  rintro e w1 ⟨rfl, b1⟩
  have HP := Lib.hid (HP0.out.below b1 (Nat.le_refl _))
  clear b1 hr HP0
  go_wp2_with fail
  go_ret2
  exact ⟨_, rfl, Flt.new _ _ _, HP.out.2.2, HP.out.2.1.alloc HP.out.2.2 _⟩

set_option maxRecDepth 100000 in
set_option maxHeartbeats 1000000 in
theorem bytes_ok (p : Pkt) (w : World) (hy : p.why = 0) :
    Calls Try.prog 20 #[.agg p.vals.toArray] w fun e w' => e = .returned (.tuple #[.string p.bytes, .nilIface]) ∧ Below w.heap.size w w' := by
  obtain ⟨hb, ho, _, _, hl⟩ := why_ok hy
  obtain ⟨_, _, _, _, _, _, _, _, p0, p1, _⟩ := bnd_pl hb
  have hR : ∀ W, Calls Try.prog 39 #[.agg p.vals.toArray] W fun e w' => e = .returned (.int .i64 0) ∧ Below W.heap.size W w' := fun W => hy ▸ refusal_any p W (by omega)
  have HR := Lib.hid hR
  have hs := sumL_le (p.headB 0).data.toList
  have A1 := Lib.hid (fun W => head_any p 0 W hb ho (by omega) (by omega) (by omega))
  have A2 : Hid (∀ W, Calls Try.prog 40 #[.agg p.vals.toArray, .int .i64 (sumL (p.headB 0).data.toList : Nat)] W fun e w' => e = .returned (.string (p.headB (sumL (p.headB 0).data.toList : Nat))) ∧ Below W.heap.size W w') := Lib.hid (fun W => head_any p (sumL (p.headB 0).data.toList : Nat) W hb ho (by omega) (by omega) (by omega))
  have A3 : Hid ((p.headB 0).size ≤ 1099511627776) := Lib.hid (by rw [headB_size]; omega)
  have HBy : Hid (p.bytes = p.headB (sumL (p.headB 0).data.toList : Nat) ++ p.data) := Lib.hid rfl
  have hP0 := PB.new w p
  have HP0 := Lib.hid hP0
  have hr := hP0.rng
  clear hP0 hR hb hs hy p1
  go_enter Try.func20, Try.ntmps20
  go_wp2_with (refine wpList_load_mid rfl 25 _ rfl _ 0 rfl p.vals _ hr Try.underlying25 rfl (Try.infoIp p) ?_)
  refine (HR.out _).mono ?_
  rintro e w1 ⟨rfl, b1⟩
  have HP := Lib.hid (HP0.out.below b1 (Nat.le_refl _))
  clear b1 hr HP0 HR
  go_wp2_with fail
  have zb := headB_size p
  have zo : ¬ 9223372036854775807 < 20 + p.opts.size + p.data.size := by omega
  obtain ⟨B, hBd⟩ : ∃ B, B = w.heap.size := ⟨_, rfl⟩
  have hP' : PB w B w.heap.size p w1 := by rw [hBd]; exact HP.out
  have HBd := Lib.hid hBd
  clear HP hBd ho hl p0
  generalize w.heap.size = b at hP'
  refine wp_region_noPanic ?_
  refine wp_region_held_drew (S := fun w' => PB w B b p w' ∧ w'.rangeAt b 0 p.vals ∧ w'.cell? ⟨b, 16, none⟩ = some (.string p.data)) (by kernel_rfl) ((PB.below hP' ((Below.refl w1.heap.size w1).drew) (Nat.le_refl _)).loads3) (fun hHeld => ?_)
  refine wpAnyH_take (i := 0) (oi := { dst := some 13, op := Op.load 25 (Operand.tmp 1), type := 25, pos := "ip4.go:41", after := #[], guard := none }) (v := .agg (p.vals).toArray) rfl (by kernel_rfl) (by kernel_rfl) (by kernel_rfl) (fun _ _ _ h => h) (yieldsIf_load_mid (by rfl) _ _ rfl (b) 0 rfl (p.vals) _ (fun ww hSw => hSw.2.1) Try.underlying25 rfl (Try.infoIp p)) (by assumption) ?_
  (try simp only [Act.put, List.setIfInBounds_toArray, List.set_cons_zero, List.set_cons_succ])
  refine wpAnyH_take (i := 1) (oi := { dst := some 14, op := Op.load 25 (Operand.tmp 1), type := 25, pos := "ip4.go:41", after := #[], guard := none }) (v := .agg (p.vals).toArray) rfl (by kernel_rfl) (by kernel_rfl) (by kernel_rfl) (fun _ _ _ h => h) (yieldsIf_load_mid (by rfl) _ _ rfl (b) 0 rfl (p.vals) _ (fun ww hSw => hSw.2.1) Try.underlying25 rfl (Try.infoIp p)) (by assumption) ?_
  (try simp only [Act.put, List.setIfInBounds_toArray, List.set_cons_zero, List.set_cons_succ])
  refine wpAnyH_take (i := 6) (oi := { dst := some 19, op := Op.fieldAddr 25 (Operand.tmp 1) 10, type := 0, pos := "ip4.go:41", after := #[], guard := none }) (v := ?_) rfl (by kernel_rfl) (by kernel_rfl) (by kernel_rfl) (fun _ _ _ h => h) (Or.inl ⟨by rfl, ?_⟩) (by assumption) ?_
  rotate_left
  · (intro ww hSw; (try dsimp only at hSw); go_simp; try with_reducible rfl)
  (try simp only [Act.put, List.setIfInBounds_toArray, List.set_cons_zero, List.set_cons_succ])
  refine wpAnyH_take (i := 7) (oi := { dst := some 20, op := Op.load 9 (Operand.tmp 19), type := 9, pos := "ip4.go:41", after := #[{ on := 6, ground := Ground.data }], guard := none }) (v := ?_) rfl (by kernel_rfl) (by kernel_rfl) (by kernel_rfl) (fun _ _ _ h => h) (Or.inl ⟨by rfl, ?_⟩) (by assumption) ?_
  rotate_left
  · (intro ww hSw; (try dsimp only at hSw); go_simp; try with_reducible rfl)
  (try simp only [Act.put, List.setIfInBounds_toArray, List.set_cons_zero, List.set_cons_succ])
  refine wpAnyH_ready (rs := [2]) (by kernel_rfl) (by simp) ?_
  refine AllReadyH.cons (o := { dst := some 15, op := Op.call { callee := Callee.value (Operand.func 40), args := #[Operand.tmp 14, Operand.const (Value.int IntKind.i64 0)], argTypes := #[25, 3] }, type := 9, pos := "ip4.go:41", after := #[{ on := 1, ground := Ground.data }], guard := none }) rfl (fun K hK => ?_) AllReadyH.nil
  go_simp
  ((with_reducible refine (A1.out _).mono ?_); rintro e w9 ⟨rfl, hb9⟩)
  refine hK.out _ _ ((PB.below (And.left hHeld) hb9 (Nat.le_refl _)).loads3) (fun hHeld => ?_)
  clear hK K
  (try simp only [Act.put, List.setIfInBounds_toArray, List.set_cons_zero, List.set_cons_succ])
  have hH3 := And.left hHeld
  refine wpAnyH_ready (rs := [3]) (by kernel_rfl) (by simp) ?_
  refine AllReadyH.cons (o := { dst := some 16, op := Op.buildSlice 105 1 #[(0, Operand.tmp 15)], type := 105, pos := "ip4.go:41", after := #[{ on := 2, ground := Ground.data }], guard := none }) rfl (fun K hK => ?_) AllReadyH.nil
  go_simp
  refine hK.out _ _ ((PB.below (And.left hHeld) ((Below.refl _ _).alloc (Nat.le_refl _) _) (Nat.le_refl _)).loads3) (fun hHeld => ?_)
  clear hK K
  (try simp only [Act.put, List.setIfInBounds_toArray, List.set_cons_zero, List.set_cons_succ])
  refine wpAnyH_ready (rs := [4]) (by kernel_rfl) (by simp) ?_
  refine AllReadyH.cons (o := { dst := some 17, op := Op.call { callee := Callee.value (Operand.func 41), args := #[Operand.tmp 16], argTypes := #[105] }, type := 3, pos := "ip4.go:41", after := #[{ on := 3, ground := Ground.data }, { on := 2, ground := Ground.chain }], guard := none }) rfl (fun K hK => ?_) AllReadyH.nil
  go_simp
  ((with_reducible refine (of1 _ _ A3.out).mono ?_); rintro e w9 ⟨rfl, hb9⟩)
  refine hK.out _ _ ((PB.below hH3 hb9 (Nat.le_refl _)).loads3) (fun hHeld => ?_)
  clear hK K
  (try simp only [Act.put, List.setIfInBounds_toArray, List.set_cons_zero, List.set_cons_succ])
  refine wpAnyH_ready (rs := [5]) (by kernel_rfl) (by simp) ?_
  refine AllReadyH.cons (o := { dst := some 18, op := Op.call { callee := Callee.value (Operand.func 40), args := #[Operand.tmp 13, Operand.tmp 17], argTypes := #[25, 3] }, type := 9, pos := "ip4.go:41", after := #[{ on := 0, ground := Ground.data }, { on := 4, ground := Ground.data }, { on := 4, ground := Ground.chain }], guard := none }) rfl (fun K hK => ?_) AllReadyH.nil
  go_simp
  ((with_reducible refine (A2.out _).mono ?_); rintro e w9 ⟨rfl, hb9⟩)
  refine hK.out _ _ ((PB.below (And.left hHeld) hb9 (Nat.le_refl _)).loads3) (fun hHeld => ?_)
  clear hK K
  (try simp only [Act.put, List.setIfInBounds_toArray, List.set_cons_zero, List.set_cons_succ])
  refine wpAnyH_take (i := 8) (oi := { dst := some 21, op := Op.binOp BinOp.add 9 (Operand.tmp 18) (Operand.tmp 20) 9, type := 9, pos := "ip4.go:41", after := #[{ on := 5, ground := Ground.data }, { on := 7, ground := Ground.data }], guard := none }) (v := ?_) rfl (by kernel_rfl) (by kernel_rfl) (by kernel_rfl) (fun _ _ _ h => h) (Or.inl ⟨by rfl, ?_⟩) (by assumption) ?_
  rotate_left
  · (intro ww hSw; (try dsimp only at hSw); go_simp; try with_reducible rfl)
  (try simp only [Act.put, List.setIfInBounds_toArray, List.set_cons_zero, List.set_cons_succ])
  refine wpAnyH_take (i := 9) (oi := { dst := some 2, op := Op.assign (Operand.tmp 21), type := 9, pos := "ip4.go:41", after := #[{ on := 8, ground := Ground.data }, { on := 5, ground := Ground.chain }, { on := 0, ground := Ground.phase }, { on := 1, ground := Ground.phase }, { on := 2, ground := Ground.phase }, { on := 3, ground := Ground.phase }, { on := 4, ground := Ground.phase }, { on := 5, ground := Ground.phase }, { on := 6, ground := Ground.phase }, { on := 7, ground := Ground.phase }, { on := 8, ground := Ground.phase }], guard := none }) (v := ?_) rfl (by kernel_rfl) (by kernel_rfl) (by kernel_rfl) (fun _ _ _ h => h) (Or.inl ⟨by rfl, ?_⟩) (by assumption) ?_
  rotate_left
  · (intro ww hSw; (try dsimp only at hSw); go_simp; try with_reducible rfl)
  (try simp only [Act.put, List.setIfInBounds_toArray, List.set_cons_zero, List.set_cons_succ])
  refine wpAnyH_take (i := 10) (oi := { dst := some 3, op := Op.assign (Operand.const Value.nilIface), type := 27, pos := "ip4.go:41", after := #[{ on := 9, ground := Ground.chain }, { on := 0, ground := Ground.phase }, { on := 1, ground := Ground.phase }, { on := 2, ground := Ground.phase }, { on := 3, ground := Ground.phase }, { on := 4, ground := Ground.phase }, { on := 5, ground := Ground.phase }, { on := 6, ground := Ground.phase }, { on := 7, ground := Ground.phase }, { on := 8, ground := Ground.phase }, { on := 9, ground := Ground.phase }], guard := none }) (v := ?_) rfl (by kernel_rfl) (by kernel_rfl) (by kernel_rfl) (fun _ _ _ h => h) (Or.inl ⟨by rfl, ?_⟩) (by assumption) ?_
  rotate_left
  · (intro ww hSw; (try dsimp only at hSw); go_simp; try with_reducible rfl)
  (try simp only [Act.put, List.setIfInBounds_toArray, List.set_cons_zero, List.set_cons_succ])
  refine wpAnyH_done (by kernel_rfl) ?_ _
  refine NoPanic.normal ?_
  have hf2 := (And.left hHeld).2.1
  rw [HBd.out] at hf2
  have HE := Lib.hid hf2
  clear hf2 hHeld hH3 zb zo hP'
  go_wp2_with fail
  go_ret2
  rw [HBy.out]
  exact ⟨rfl, HE.out⟩

section
variable {w : World} {b : Nat} {s : ByteArray} {p : Nat} {c : Int}
theorem refusal_neg (n : Int) (hn : n < 0) (b : Nat) (w : World) :
    Calls Try.prog 73 #[.pointer (some ⟨b, 0, none⟩), .int .i64 n] w fun e w' => e = .returned (.int .i64 1) ∧ w' = w := by
  go_enter Try.func73, Try.ntmps73
  go_wp2_with fail
  go_ret
  exact ⟨rfl, rfl⟩
theorem refusal_short (h : Rd w b s p c) (hp : p ≤ s.size) (hs : s.size ≤ maxLen) (n : Int) (hn : 0 ≤ n) (hl : ((s.size - p : Nat) : Int) < n) :
    Calls Try.prog 73 #[.pointer (some ⟨b, 0, none⟩), .int .i64 n] w fun e w' => e = .returned (.int .i64 7) ∧ w' = w.drew := by
  have hc := Lib.hid (left_any h hp hs)
  clear hp hs h
  generalize s.size - p = q at hc hl
  go_enter Try.func73, Try.ntmps73
  go_wp2_with fail
  refine hc.out.mono ?_
  rintro e w' ⟨rfl, rfl⟩
  go_wp2_with fail
  go_ret
  exact ⟨rfl, rfl⟩
theorem refusal_not (h : Rd w b s p c) (hp : p ≤ s.size) (hs : s.size ≤ maxLen) (n : Int) (hn : 0 ≤ n) (hl : n ≤ ((s.size - p : Nat) : Int)) :
    Calls Try.prog 73 #[.pointer (some ⟨b, 0, none⟩), .int .i64 n] w fun e w' => e = .returned (.int .i64 0) ∧ w' = w.drew := by
  have hc := Lib.hid (left_any h hp hs)
  clear hp hs h
  generalize s.size - p = q at hc hl
  go_enter Try.func73, Try.ntmps73
  go_wp2_with fail
  refine hc.out.mono ?_
  rintro e w' ⟨rfl, rfl⟩
  go_wp2_with fail
  go_ret
  exact ⟨rfl, rfl⟩

/-- A call that tells the fault c at p. -/
def Told (b : Nat) (s : ByteArray) (p : Nat) (c : Int) (v : Value) (w : World) (e : Ending) (w' : World) : Prop :=
  e = .returned (.tuple #[v, .iface 75 (.pointer (some ⟨w.heap.size, 0, none⟩))]) ∧ Flt w' w.heap.size c p ∧ Rd w' b s p c ∧ w.grownBy w' (some b)
/-- A call that reads n bytes. -/
def Read (b : Nat) (s : ByteArray) (p n : Nat) (v : Value) (w : World) (e : Ending) (w' : World) : Prop :=
  e = .returned (.tuple #[v, .nilIface]) ∧ Rd w' b s (p + n) 0 ∧ w.grownBy w' (some b)

theorem text_had (h : Rd w b s p c) (n : Int) (hc : (c == 0) = false) (hc' : (c != 0) = true) :
    Calls Try.prog 69 #[.pointer (some ⟨b, 0, none⟩), .int .i64 n] w (Told b s p c (.string ⟨#[]⟩) w) := by
  have c1 := h.c1
  have c2 := h.c2
  have H := Lib.hid h
  clear h
  go_enter Try.func69, Try.ntmps69
  go_wp2_with fail
  go_region
  go_wp2_with fail
  go_ret2
  exact ⟨rfl, Flt.new _ _ _, H.out.drew.alloc _, up_drew (up_alloc (up_refl _ _) _)⟩

theorem text_neg (h : Rd w b s p 0) (n : Int) (hn : n < 0) :
    Calls Try.prog 69 #[.pointer (some ⟨b, 0, none⟩), .int .i64 n] w (Told b s p 1 (.string ⟨#[]⟩) w) := by
  have c1 := h.c1
  have c2 := h.c2
  have z2 := h.z 2
  have H := Lib.hid h
  clear h
  go_enter Try.func69, Try.ntmps69
  go_wp2_with fail
  refine (refusal_neg n hn b _).mono ?_
  rintro e w' ⟨rfl, rfl⟩
  go_wp2_with fail
  go_region
  go_wp2_with fail
  go_ret2
  exact ⟨rfl, Flt.newAt _ _ _ _ (by simp), (H.out.set2 1).alloc _, up_drew (up_alloc (up_set (up_refl _ _) _ _) _)⟩

theorem text_short (h : Rd w b s p 0) (hp : p ≤ s.size) (hs : s.size ≤ maxLen) (n : Int) (hn : 0 ≤ n) (hl : ((s.size - p : Nat) : Int) < n) :
    Calls Try.prog 69 #[.pointer (some ⟨b, 0, none⟩), .int .i64 n] w (Told b s p 7 (.string ⟨#[]⟩) w) := by
  have c1 := h.c1
  have c2 := h.c2
  have z2 := h.z 2
  have H := Lib.hid h
  have hr := Lib.hid (refusal_short h hp hs n hn hl)
  clear h hl hp hs
  go_enter Try.func69, Try.ntmps69
  go_wp2_with fail
  refine hr.out.mono ?_
  rintro e w' ⟨rfl, rfl⟩
  go_wp2_with fail
  go_region
  go_wp2_with fail
  go_ret2
  exact ⟨rfl, Flt.newAt _ _ _ _ (by simp), (H.out.set2 7).alloc _, up_drew (up_drew (up_alloc (up_set (up_refl _ _) _ _) _))⟩

theorem text_ok (h : Rd w b s p 0) (hs : s.size ≤ maxLen) (n : Nat) (hl : p + n ≤ s.size) :
    Calls Try.prog 69 #[.pointer (some ⟨b, 0, none⟩), .int .i64 n] w (Read b s p n (.string (s.extract p (p + n))) w) := by
  have c0 := h.c0
  have c1 := h.c1
  have c2 := h.c2
  have z2 := h.z 2
  have z1 := h.z 1
  have H := Lib.hid h
  have hr := Lib.hid (refusal_not h (by omega) hs n (by omega) (by omega))
  unfold maxLen at hs
  clear h
  go_enter Try.func69, Try.ntmps69
  go_wp2_with fail
  refine hr.out.mono ?_
  rintro e w' ⟨rfl, rfl⟩
  go_wp2_with fail
  go_region
  go_wp2_with fail
  go_ret2
  have hR := (H.out.set2 0).set1 (p + n)
  rw [Int.natCast_add] at hR
  exact ⟨rfl, hR, up_drew (up_drew (up_set (up_set (up_refl _ _) _ _) _ _))⟩
end

theorem text_nil (n : Int) (w : World) :
    Calls Try.prog 69 #[.pointer none, .int .i64 n] w fun e w' => e = .returned (.tuple #[.string ⟨#[]⟩, .iface 75 (.pointer (some ⟨w.heap.size, 0, none⟩))]) ∧ w' = w.alloc (.cells #[.int .i64 2, .int .i64 0] 78) := by
  go_enter Try.func69, Try.ntmps69
  go_wp2_with fail
  go_ret2
  exact ⟨rfl, rfl⟩

theorem rest_nil (w : World) :
    Calls Try.prog 55 #[.pointer none] w fun e w' => e = .returned (.string ⟨#[]⟩) ∧ w = w' := by
  go_enter Try.func55, Try.ntmps55
  go_wp2_with fail
  go_ret
  exact ⟨rfl, rfl⟩

section
variable {w : World} {b : Nat} {s : ByteArray} {p : Nat} {c : Int}
theorem rest_had (h : Rd w b s p c) (hc' : (c != 0) = true) :
    Calls Try.prog 55 #[.pointer (some ⟨b, 0, none⟩)] w fun e w' => e = .returned (.string ⟨#[]⟩) ∧ w = w' := by
  have c2 := h.c2
  clear h
  go_enter Try.func55, Try.ntmps55
  go_wp2_with fail
  go_ret
  exact ⟨rfl, rfl⟩

theorem rest_ok (h : Rd w b s p 0) (hp : p ≤ s.size) :
    Calls Try.prog 55 #[.pointer (some ⟨b, 0, none⟩)] w fun e w' => e = .returned (.string (s.extract p s.size)) ∧ Rd w' b s s.size 0 ∧ w.grownBy w' (some b) := by
  have c0 := h.c0
  have c1 := h.c1
  have c2 := h.c2
  have z1 := h.z 1
  have H := Lib.hid h
  clear h
  go_enter Try.func55, Try.ntmps55
  go_wp2_with fail
  go_region
  go_wp2_with fail
  go_ret
  exact ⟨rfl, H.out.set1 s.size, up_drew (up_set (up_refl _ _) _ _)⟩
end

/-- The number of bytes, the highest first. -/
def numOf (l : List UInt8) : Nat := l.foldl (fun x c => x * 256 + c.toNat) 0
theorem numOf_snoc (l : List UInt8) (c : UInt8) : numOf (l ++ [c]) = numOf l * 256 + c.toNat := by simp [numOf]
theorem numOf_from (l : List UInt8) : ∀ x : Nat, l.foldl (fun x c => x * 256 + c.toNat) x < (x + 1) * 256 ^ l.length := by
  induction l with
  | nil => intro x; simp
  | cons c l ih =>
    intro x
    have h1 := ih (x * 256 + c.toNat)
    have h2 := c.toNat_lt
    have h3 : (x * 256 + c.toNat + 1) * 256 ^ l.length ≤ ((x + 1) * 256) * 256 ^ l.length := Nat.mul_le_mul_right _ (by omega)
    have h4 : ((x + 1) * 256) * 256 ^ l.length = (x + 1) * 256 ^ (l.length + 1) := by rw [Nat.mul_assoc, Nat.pow_succ, Nat.mul_comm 256]
    simp only [List.foldl_cons, List.length_cons]
    omega
theorem numOf_lt (l : List UInt8) : numOf l < 256 ^ l.length := by
  have := numOf_from l 0
  simpa [numOf] using this
theorem numOf_take (l : List UInt8) (k : Nat) (hk : k ≤ 4) : numOf (l.take k) < 4294967296 := by
  have h1 := numOf_lt (l.take k)
  have h2 : (l.take k).length ≤ 4 := by have := List.length_take_le k l; omega
  have h3 : 256 ^ (l.take k).length ≤ 256 ^ 4 := Nat.pow_le_pow_right (by omega) h2
  omega
theorem or_i64 (a c : Nat) (ha : a < 4294967296) (hc : c < 256) : bits .or .i64 ((a : Int) * 256) (c : Int) = ((a * 256 + c : Nat) : Int) := by
  have hor : a * 256 ||| c = a * 256 + c := by
    have := Nat.two_pow_add_eq_or_of_lt (i := 8) (b := c) (by omega) a
    rw [Nat.mul_comm] at this
    exact this.symm
  have h1 : (BitVec.ofInt 64 ((a : Int) * 256)).toNat = a * 256 := by
    rw [show (a : Int) * 256 = ((a * 256 : Nat) : Int) by simp, BitVec.ofInt_natCast, BitVec.toNat_ofNat]; exact Nat.mod_eq_of_lt (by omega)
  have h2 : (BitVec.ofInt 64 (c : Int)).toNat = c := by
    rw [BitVec.ofInt_natCast, BitVec.toNat_ofNat]; exact Nat.mod_eq_of_lt (by omega)
  show IntKind.i64.wrap ((BitVec.ofInt 64 ((a : Int) * 256) ||| BitVec.ofInt 64 (c : Int)).toNat : Int) = _
  rw [BitVec.toNat_or, h1, h2, hor, IntKind.wrap_i64]
  omega

section
variable {w : World} {b : Nat} {s : ByteArray} {p : Nat} {c : Int}
theorem number_ok (h : Rd w b s p 0) (hs : s.size ≤ maxLen) (n : Nat) (hn : n ≤ 4) (hl : p + n ≤ s.size) :
    Calls Try.prog 68 #[.pointer (some ⟨b, 0, none⟩), .int .i64 n] w (Read b s p n (.int .i64 (numOf (s.extract p (p + n)).data.toList)) w) := by
  have hr := Lib.hid (text_ok h hs n hl)
  have hz : (s.extract p (p + n)).size = n := by simp; omega
  clear h
  generalize s.extract p (p + n) = t at hr hz
  subst hz
  go_enter Try.func68, Try.ntmps68
  go_wp2_with fail
  refine hr.out.mono ?_
  rintro e w' ⟨rfl, hR, hG⟩
  have HR := Lib.hid hR
  have HG := Lib.hid hG
  clear hR hG
  go_wp2_with fail
  go_loop [8, 21] (fun x i => ∃ k : Nat, k ≤ t.size ∧ i = .int .i64 k ∧ x = .int .i64 (numOf (t.data.toList.take k))) (fun _ i => t.size - (intOf i).toNat)
  case atStart => exact ⟨0, Nat.zero_le _, rfl, rfl⟩
  case round =>
    obtain ⟨k, hk, rfl, rfl⟩ := hrel
    have hb := numOf_take t.data.toList k (by omega)
    by_cases hlt : k < t.size
    · have h8 := t[k].toNat_lt
      have HO := Lib.hid (or_i64 (numOf (t.data.toList.take k)) t[k].toNat hb h8)
      have HT := Lib.hid (take_snoc t k hlt)
      go_wp2_with fail
      go_round
      case rel => exact ⟨k + 1, by omega, by go_num, by rw [HO.out, HT.out, numOf_snoc]⟩
      case measure => simp [intOf]; omega
    · go_wp2_with fail
      go_ret2
      refine ⟨?_, HR.out, HG.out⟩
      rw [List.take_of_length_le (by simp; omega)]
      rfl

theorem number_told (n : Int) {c : Int} (ht : Calls Try.prog 69 #[.pointer (some ⟨b, 0, none⟩), .int .i64 n] w (Told b s p c (.string ⟨#[]⟩) w)) :
    Calls Try.prog 68 #[.pointer (some ⟨b, 0, none⟩), .int .i64 n] w (Told b s p c (.int .i64 0) w) := by
  have hr := Lib.hid ht
  clear ht
  go_enter Try.func68, Try.ntmps68
  go_wp2_with fail
  refine hr.out.mono ?_
  rintro e w' ⟨rfl, hR⟩
  have HR := Lib.hid hR
  clear hR
  go_wp2_with fail
  go_ret2
  exact ⟨rfl, HR.out⟩
end
theorem number_nil (n : Int) (w : World) :
    Calls Try.prog 68 #[.pointer none, .int .i64 n] w fun e w' => e = .returned (.tuple #[.int .i64 0, .iface 75 (.pointer (some ⟨w.heap.size, 0, none⟩))]) ∧ w' = w.alloc (.cells #[.int .i64 2, .int .i64 0] 78) := by
  go_enter Try.func68, Try.ntmps68
  go_wp2_with fail
  refine (text_nil n w).mono ?_
  rintro e w' ⟨rfl, rfl⟩
  go_wp2_with fail
  go_ret2
  exact ⟨rfl, rfl⟩

/-- A contract of a call that answers two things. -/
def Two (Q : Ending → World → Prop) : Prop := ∀ e w', Q e w' → ∃ x y, e = .returned (.tuple #[x, y])
theorem two_told {b : Nat} {s : ByteArray} {p : Nat} {c : Int} {v : Value} {w : World} : Two (Told b s p c v w) := fun _ _ h => ⟨_, _, h.1⟩
theorem two_read {b : Nat} {s : ByteArray} {p n : Nat} {v : Value} {w : World} : Two (Read b s p n v w) := fun _ _ h => ⟨_, _, h.1⟩

theorem u8_of (r : Option Addr) (w : World) {Q : Ending → World → Prop} (h : Calls Try.prog 68 #[.pointer r, .int .i64 1] w Q) (h2 : Two Q) :
    Calls Try.prog 51 #[.pointer r] w Q := by
  have hr := Lib.hid h
  have H2 := Lib.hid h2
  clear h h2
  go_enter Try.func51, Try.ntmps51
  go_wp2_with fail
  refine hr.out.mono ?_
  intro e w' hQ
  obtain ⟨x, y, rfl⟩ := H2.out _ _ hQ
  have HQ := Lib.hid hQ
  clear hQ
  dsimp only
  go_wp2_with fail
  exact HQ.out

theorem u16_of (r : Option Addr) (w : World) {Q : Ending → World → Prop} (h : Calls Try.prog 68 #[.pointer r, .int .i64 2] w Q) (h2 : Two Q) :
    Calls Try.prog 50 #[.pointer r] w Q := by
  have hr := Lib.hid h
  have H2 := Lib.hid h2
  clear h h2
  go_enter Try.func50, Try.ntmps50
  go_wp2_with fail
  refine hr.out.mono ?_
  intro e w' hQ
  obtain ⟨x, y, rfl⟩ := H2.out _ _ hQ
  have HQ := Lib.hid hQ
  clear hQ
  dsimp only
  go_wp2_with fail
  exact HQ.out

end Go.Proofs.Ytkihhmnlefekoaa.P4
