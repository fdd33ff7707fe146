/-
  Proved here: what ip4.Bytes answers.
  Conditions: texts of at most 70000 bytes.
-/
import Derived.Test.YtjfkfeobmcnonaaHead
import Derived.Test.YtjfkfeobmcnonaaReader
namespace Go.Proofs.Ytjfkfeobmcnonaa
open Go.RowKit

/-- A call that answers v and a fault of code c at place 0. -/
def Bad (v : Value) (c : Int) (w : World) (e : Ending) (w' : World) : Prop :=
  ∃ b, e = .returned (.tuple #[v, .iface 56 (.pointer (some ⟨b, 0, none⟩))]) ∧ Flt w' b c 0 ∧ w.heap.size ≤ b ∧ Below w.heap.size w w'
theorem headB_size (p : Pkt) (s : Int) : (p.headB s).size = 20 + p.opts.size := by
  unfold Pkt.headB
  simp only [ByteArray.size_append, strOfNums_size, List.length_cons, List.length_nil]
theorem PB.loads3 {w0 w : World} {B b : Nat} {p : Pkt} (h : PB w0 B b p w) : PB w0 B b p w ∧ w.rangeAt b 0 p.vals ∧ w.cell? ⟨b, 16, none⟩ = some (.string p.data) := ⟨h, h.rng, h.1.c 16 _ rfl⟩
/-- The head's sum. -/
def Pkt.sum (p : Pkt) : Nat := sumL (p.headB 0).data.toList
/-- A packet's bytes. -/
def Pkt.bytes (p : Pkt) : ByteArray := p.headB p.sum ++ p.data
theorem why_ok {p : Pkt} (h : p.why = 0) : p.bnd = true ∧ p.opts.size ≤ 40 ∧ p.opts.size % 4 = 0 ∧ (p.more = true → p.data.size ≠ 0 ∧ p.data.size % 8 = 0) ∧ 20 + p.opts.size + p.pl + p.data.size ≤ 65535 := by
  unfold Pkt.why Pkt.long at h
  cases hb : p.bnd
  · rw [hb, if_pos rfl] at h; cases h
  · rw [hb, if_neg (by simp)] at h
    by_cases h1 : 40 < p.opts.size ∨ p.opts.size % 4 ≠ 0
    · rw [if_pos h1] at h; cases h
    · rw [if_neg h1] at h
      by_cases h2 : p.more = true ∧ (p.data.size = 0 ∨ p.data.size % 8 ≠ 0)
      · rw [if_pos h2] at h; cases h
      · rw [if_neg h2] at h
        by_cases h3 : 65535 < 20 + p.opts.size + p.pl + p.data.size
        · rw [if_pos h3] at h; cases h
        · refine ⟨rfl, by omega, by omega, fun hm => ?_, by omega⟩
          have : ¬ (p.data.size = 0 ∨ p.data.size % 8 ≠ 0) := fun hh => h2 ⟨hm, hh⟩
          omega

set_option maxRecDepth 100000 in
set_option maxHeartbeats 400000 in
theorem bytes_bad (p : Pkt) (w : World) (hd : p.data.size ≤ 70000) (hy : (p.why != 0) = true) :
    Calls Try.prog 13 #[.agg p.vals.toArray] w (Bad (.string ⟨#[]⟩) p.why w) := by
  have HR := Lib.hid (fun W => refusal_any p W hd)
  have hP0 := PB.new w p
  have HP0 := Lib.hid hP0
  have hr := hP0.rng
  clear hP0 hd
  generalize p.why = c at HR hy
  go_enter Try.func13, Try.ntmps13
  go_wp2_with (refine wpList_load_mid rfl 29 _ rfl _ 0 rfl p.vals _ hr Try.underlying29 rfl (Try.infoIp p) ?_)
  refine (HR.out _).mono ?_
  rintro e w1 ⟨rfl, b1⟩
  have HP := Lib.hid (HP0.out.below b1 (Nat.le_refl _))
  clear b1 hr HP0
  go_wp2_with fail
  go_ret2
  exact ⟨_, rfl, Flt.new _ _ _, HP.out.2.2, HP.out.2.1.alloc HP.out.2.2 _⟩

set_option maxRecDepth 100000 in
set_option maxHeartbeats 1000000 in
theorem bytes_ok (p : Pkt) (w : World) (hy : p.why = 0) :
    Calls Try.prog 13 #[.agg p.vals.toArray] w fun e w' => e = .returned (.tuple #[.string p.bytes, .nilIface]) ∧ Below w.heap.size w w' := by
  obtain ⟨hb, ho, _, _, hl⟩ := why_ok hy
  obtain ⟨_, _, _, _, _, _, _, _, p0, p1, _⟩ := bnd_pl hb
  have hR : ∀ W, Calls Try.prog 25 #[.agg p.vals.toArray] W fun e w' => e = .returned (.int .i64 0) ∧ Below W.heap.size W w' := fun W => hy ▸ refusal_any p W (by omega)
  have HR := Lib.hid hR
  have hs := sumL_le (p.headB 0).data.toList
  have A1 := Lib.hid (fun W => head_any p 0 W hb ho (by omega) (by omega) (by omega))
  have A2 : Hid (∀ W, Calls Try.prog 26 #[.agg p.vals.toArray, .int .i64 (sumL (p.headB 0).data.toList : Nat)] W fun e w' => e = .returned (.string (p.headB (sumL (p.headB 0).data.toList : Nat))) ∧ Below W.heap.size W w') := Lib.hid (fun W => head_any p (sumL (p.headB 0).data.toList : Nat) W hb ho (by omega) (by omega) (by omega))
  have A3 : Hid ((p.headB 0).size ≤ 1099511627776) := Lib.hid (by rw [headB_size]; omega)
  have HBy : Hid (p.bytes = p.headB (sumL (p.headB 0).data.toList : Nat) ++ p.data) := Lib.hid rfl
  have hP0 := PB.new w p
  have HP0 := Lib.hid hP0
  have hr := hP0.rng
  clear hP0 hR hb hs hy p1
  go_enter Try.func13, Try.ntmps13
  go_wp2_with (refine wpList_load_mid rfl 29 _ rfl _ 0 rfl p.vals _ hr Try.underlying29 rfl (Try.infoIp p) ?_)
  refine (HR.out _).mono ?_
  rintro e w1 ⟨rfl, b1⟩
  have HP := Lib.hid (HP0.out.below b1 (Nat.le_refl _))
  clear b1 hr HP0 HR
  go_wp2_with fail
  have zb := headB_size p
  have zo : ¬ 9223372036854775807 < 20 + p.opts.size + p.data.size := by omega
  obtain ⟨B, hBd⟩ : ∃ B, B = w.heap.size := ⟨_, rfl⟩
  have hP' : PB w B w.heap.size p w1 := by rw [hBd]; exact HP.out
  have HBd := Lib.hid hBd
  clear HP hBd ho hl p0
  generalize w.heap.size = b at hP'
  refine wp_region_noPanic ?_
  refine wp_region_held_drew (S := fun w' => PB w B b p w' ∧ w'.rangeAt b 0 p.vals ∧ w'.cell? ⟨b, 16, none⟩ = some (.string p.data)) (by kernel_rfl) ((PB.below hP' ((Below.refl w1.heap.size w1).drew) (Nat.le_refl _)).loads3) (fun hHeld => ?_)
  refine wpAnyH_take (i := 0) (oi := { dst := some 13, op := Op.load 29 (Operand.tmp 1), type := 29, pos := "ip4.go:41", after := #[], guard := none }) (v := .agg (p.vals).toArray) rfl (by kernel_rfl) (by kernel_rfl) (by kernel_rfl) (fun _ _ _ h => h) (yieldsIf_load_mid (by rfl) _ _ rfl (b) 0 rfl (p.vals) _ (fun ww hSw => hSw.2.1) Try.underlying29 rfl (Try.infoIp p)) (by assumption) ?_
  (try simp only [Act.put, List.setIfInBounds_toArray, List.set_cons_zero, List.set_cons_succ])
  refine wpAnyH_take (i := 1) (oi := { dst := some 14, op := Op.load 29 (Operand.tmp 1), type := 29, pos := "ip4.go:41", after := #[], guard := none }) (v := .agg (p.vals).toArray) rfl (by kernel_rfl) (by kernel_rfl) (by kernel_rfl) (fun _ _ _ h => h) (yieldsIf_load_mid (by rfl) _ _ rfl (b) 0 rfl (p.vals) _ (fun ww hSw => hSw.2.1) Try.underlying29 rfl (Try.infoIp p)) (by assumption) ?_
  (try simp only [Act.put, List.setIfInBounds_toArray, List.set_cons_zero, List.set_cons_succ])
  refine wpAnyH_take (i := 6) (oi := { dst := some 19, op := Op.fieldAddr 29 (Operand.tmp 1) 10, type := 0, pos := "ip4.go:41", after := #[], guard := none }) (v := ?_) rfl (by kernel_rfl) (by kernel_rfl) (by kernel_rfl) (fun _ _ _ h => h) (Or.inl ⟨by rfl, ?_⟩) (by assumption) ?_
  rotate_left
  · (intro ww hSw; (try dsimp only at hSw); go_simp; try with_reducible rfl)
  (try simp only [Act.put, List.setIfInBounds_toArray, List.set_cons_zero, List.set_cons_succ])
  refine wpAnyH_take (i := 7) (oi := { dst := some 20, op := Op.load 9 (Operand.tmp 19), type := 9, pos := "ip4.go:41", after := #[{ on := 6, ground := Ground.data }], guard := none }) (v := ?_) rfl (by kernel_rfl) (by kernel_rfl) (by kernel_rfl) (fun _ _ _ h => h) (Or.inl ⟨by rfl, ?_⟩) (by assumption) ?_
  rotate_left
  · (intro ww hSw; (try dsimp only at hSw); go_simp; try with_reducible rfl)
  (try simp only [Act.put, List.setIfInBounds_toArray, List.set_cons_zero, List.set_cons_succ])
  refine wpAnyH_ready (rs := [2]) (by kernel_rfl) (by simp) ?_
  refine AllReadyH.cons (o := { dst := some 15, op := Op.call { callee := Callee.value (Operand.func 26), args := #[Operand.tmp 14, Operand.const (Value.int IntKind.i64 0)], argTypes := #[29, 3] }, type := 9, pos := "ip4.go:41", after := #[{ on := 1, ground := Ground.data }], guard := none }) rfl (fun K hK => ?_) AllReadyH.nil
  go_simp
  ((with_reducible refine (A1.out _).mono ?_); rintro e w9 ⟨rfl, hb9⟩)
  refine hK.out _ _ ((PB.below (And.left hHeld) hb9 (Nat.le_refl _)).loads3) (fun hHeld => ?_)
  clear hK K
  (try simp only [Act.put, List.setIfInBounds_toArray, List.set_cons_zero, List.set_cons_succ])
  have hH3 := And.left hHeld
  refine wpAnyH_ready (rs := [3]) (by kernel_rfl) (by simp) ?_
  refine AllReadyH.cons (o := { dst := some 16, op := Op.buildSlice 86 1 #[(0, Operand.tmp 15)], type := 86, pos := "ip4.go:41", after := #[{ on := 2, ground := Ground.data }], guard := none }) rfl (fun K hK => ?_) AllReadyH.nil
  go_simp
  refine hK.out _ _ ((PB.below (And.left hHeld) ((Below.refl _ _).alloc (Nat.le_refl _) _) (Nat.le_refl _)).loads3) (fun hHeld => ?_)
  clear hK K
  (try simp only [Act.put, List.setIfInBounds_toArray, List.set_cons_zero, List.set_cons_succ])
  refine wpAnyH_ready (rs := [4]) (by kernel_rfl) (by simp) ?_
  refine AllReadyH.cons (o := { dst := some 17, op := Op.call { callee := Callee.value (Operand.func 27), args := #[Operand.tmp 16], argTypes := #[86] }, type := 3, pos := "ip4.go:41", after := #[{ on := 3, ground := Ground.data }, { on := 2, ground := Ground.chain }], guard := none }) rfl (fun K hK => ?_) AllReadyH.nil
  go_simp
  ((with_reducible refine (of1 _ _ A3.out).mono ?_); rintro e w9 ⟨rfl, hb9⟩)
  refine hK.out _ _ ((PB.below hH3 hb9 (Nat.le_refl _)).loads3) (fun hHeld => ?_)
  clear hK K
  (try simp only [Act.put, List.setIfInBounds_toArray, List.set_cons_zero, List.set_cons_succ])
  refine wpAnyH_ready (rs := [5]) (by kernel_rfl) (by simp) ?_
  refine AllReadyH.cons (o := { dst := some 18, op := Op.call { callee := Callee.value (Operand.func 26), args := #[Operand.tmp 13, Operand.tmp 17], argTypes := #[29, 3] }, type := 9, pos := "ip4.go:41", after := #[{ on := 0, ground := Ground.data }, { on := 4, ground := Ground.data }, { on := 4, ground := Ground.chain }], guard := none }) rfl (fun K hK => ?_) AllReadyH.nil
  go_simp
  ((with_reducible refine (A2.out _).mono ?_); rintro e w9 ⟨rfl, hb9⟩)
  refine hK.out _ _ ((PB.below (And.left hHeld) hb9 (Nat.le_refl _)).loads3) (fun hHeld => ?_)
  clear hK K
  (try simp only [Act.put, List.setIfInBounds_toArray, List.set_cons_zero, List.set_cons_succ])
  refine wpAnyH_take (i := 8) (oi := { dst := some 21, op := Op.binOp BinOp.add 9 (Operand.tmp 18) (Operand.tmp 20) 9, type := 9, pos := "ip4.go:41", after := #[{ on := 5, ground := Ground.data }, { on := 7, ground := Ground.data }], guard := none }) (v := ?_) rfl (by kernel_rfl) (by kernel_rfl) (by kernel_rfl) (fun _ _ _ h => h) (Or.inl ⟨by rfl, ?_⟩) (by assumption) ?_
  rotate_left
  · (intro ww hSw; (try dsimp only at hSw); go_simp; try with_reducible rfl)
  (try simp only [Act.put, List.setIfInBounds_toArray, List.set_cons_zero, List.set_cons_succ])
  refine wpAnyH_take (i := 9) (oi := { dst := some 2, op := Op.assign (Operand.tmp 21), type := 9, pos := "ip4.go:41", after := #[{ on := 8, ground := Ground.data }, { on := 5, ground := Ground.chain }, { on := 0, ground := Ground.phase }, { on := 1, ground := Ground.phase }, { on := 2, ground := Ground.phase }, { on := 3, ground := Ground.phase }, { on := 4, ground := Ground.phase }, { on := 5, ground := Ground.phase }, { on := 6, ground := Ground.phase }, { on := 7, ground := Ground.phase }, { on := 8, ground := Ground.phase }], guard := none }) (v := ?_) rfl (by kernel_rfl) (by kernel_rfl) (by kernel_rfl) (fun _ _ _ h => h) (Or.inl ⟨by rfl, ?_⟩) (by assumption) ?_
  rotate_left
  · (intro ww hSw; (try dsimp only at hSw); go_simp; try with_reducible rfl)
  (try simp only [Act.put, List.setIfInBounds_toArray, List.set_cons_zero, List.set_cons_succ])
  refine wpAnyH_take (i := 10) (oi := { dst := some 3, op := Op.assign (Operand.const Value.nilIface), type := 23, pos := "ip4.go:41", after := #[{ on := 9, ground := Ground.chain }, { on := 0, ground := Ground.phase }, { on := 1, ground := Ground.phase }, { on := 2, ground := Ground.phase }, { on := 3, ground := Ground.phase }, { on := 4, ground := Ground.phase }, { on := 5, ground := Ground.phase }, { on := 6, ground := Ground.phase }, { on := 7, ground := Ground.phase }, { on := 8, ground := Ground.phase }, { on := 9, ground := Ground.phase }], guard := none }) (v := ?_) rfl (by kernel_rfl) (by kernel_rfl) (by kernel_rfl) (fun _ _ _ h => h) (Or.inl ⟨by rfl, ?_⟩) (by assumption) ?_
  rotate_left
  · (intro ww hSw; (try dsimp only at hSw); go_simp; try with_reducible rfl)
  (try simp only [Act.put, List.setIfInBounds_toArray, List.set_cons_zero, List.set_cons_succ])
  refine wpAnyH_done (by kernel_rfl) ?_ _
  refine NoPanic.normal ?_
  have hf2 := (And.left hHeld).2.1
  rw [HBd.out] at hf2
  have HE := Lib.hid hf2
  clear hf2 hHeld hH3 zb zo hP'
  go_wp2_with fail
  go_ret2
  rw [HBy.out]
  exact ⟨rfl, HE.out⟩
end Go.Proofs.Ytjfkfeobmcnonaa
