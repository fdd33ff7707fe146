/-
  Proved here: what ip4.refusal answers; how a packet's block is kept.
  Conditions: texts of at most 70000 bytes.
-/
import Derived.Test.YtdljjcnihajchaaFPkt
import Derived.Test.YtdljjcnihajchaaFArr
import Derived.Deep.MidRow
namespace Go.Proofs.Ytdljjcnihajchaa.P4
open Go.RowKit

/-- A block that is known whole. -/
def Bk (w : World) (b : Nat) (T : TypeId) (A : Array Value) : Prop := w.heap[b]? = some (.cells A T (0, 0))
section
variable {w w' : World} {b : Nat} {T : TypeId} {A : Array Value}
theorem Bk.lt (h : Bk w b T A) : b < w.heap.size := by
  rcases Nat.lt_or_ge b w.heap.size with hl | hg
  · exact hl
  · unfold Bk at h; rw [Array.getElem?_eq_none hg] at h; cases h
theorem Bk.below {B : Nat} (h : Bk w b T A) (hb : Below B w w') (hB : b < B) : Bk w' b T A := (hb.block b hB).trans h
theorem Bk.grown {row : Option Nat} (h : Bk w b T A) (g : w.grownBy w' row) (hne : some b ≠ row) : Bk w' b T A := (g.block b h.lt hne).trans h
theorem Bk.alloc (h : Bk w b T A) (o : Obj) : Bk (w.alloc o) b T A := (Below.heap_alloc w o b h.lt).trans h
theorem Bk.range (h : Bk w b T A) : w.rangeAt b 0 A.toList := by
  intro j v hv
  unfold Bk at h
  simp only [World.cell?, h, Nat.zero_add]
  simpa using hv
theorem Bk.c (h : Bk w b T A) (i : Nat) (v : Value) (hv : A[i]? = some v) : w.cell? ⟨b, i, none⟩ = some v := by
  have := h.range i v (by simpa using hv)
  simpa using this
theorem Bk.z (h : Bk w b T A) (o : Nat) : w.frozen? ⟨b, o, none⟩ = false := by unfold Bk at h; simp [World.frozen?, h]
theorem bk_new (w : World) (T : TypeId) (A : Array Value) : Bk (w.alloc (.cells A T)) w.heap.size T A := heap_alloc_new w _
end
theorem Try.infoIp (p : Pkt) : (Try.prog.info? 35).map (·.size) = some p.vals.length := by
  show _ = some 17
  kernel_rfl
/-- What is kept: the packet's block, and all that was. -/
def PB (w0 : World) (B b : Nat) (p : Pkt) (w : World) : Prop := Bk w b 35 p.vals.toArray ∧ Below B w0 w ∧ B ≤ w.heap.size
theorem PB.below {w0 w w' : World} {B C b : Nat} {p : Pkt} (h : PB w0 B b p w) (hb : Below C w w') (hC : w.heap.size ≤ C) : PB w0 B b p w' := by
  obtain ⟨h1, h2, h3⟩ := h
  exact ⟨h1.below hb (Nat.lt_of_lt_of_le h1.lt hC), h2.trans (hb.mono (Nat.le_trans h3 hC)), Nat.le_trans h3 hb.size⟩
theorem PB.new (w : World) (p : Pkt) : PB w w.heap.size w.heap.size p (w.alloc (.cells p.vals.toArray 35)) := ⟨bk_new _ _ _, (Below.refl _ _).alloc (Nat.le_refl _) _, by simp⟩
theorem PB.rng {w0 w : World} {B b : Nat} {p : Pkt} (h : PB w0 B b p w) : w.rangeAt b 0 p.vals := h.1.range
theorem PB.cs {w0 w : World} {B b : Nat} {p : Pkt} (h : PB w0 B b p w) : w.cell? ⟨b, 0, none⟩ = some (.int .i64 p.tos) ∧ w.cell? ⟨b, 1, none⟩ = some (.int .i64 p.id) ∧ w.cell? ⟨b, 2, none⟩ = some (.int .i64 p.ttl) ∧ w.cell? ⟨b, 3, none⟩ = some (.int .i64 p.proto) ∧ w.cell? ⟨b, 4, none⟩ = some (.int .i64 p.pl) ∧ w.cell? ⟨b, 5, none⟩ = some (.bool p.df) ∧ w.cell? ⟨b, 6, none⟩ = some (.bool p.more) ∧ w.cell? ⟨b, 7, none⟩ = some (.int .u8 p.a0) ∧ w.cell? ⟨b, 8, none⟩ = some (.int .u8 p.a1) ∧ w.cell? ⟨b, 9, none⟩ = some (.int .u8 p.a2) ∧ w.cell? ⟨b, 10, none⟩ = some (.int .u8 p.a3) ∧ w.cell? ⟨b, 11, none⟩ = some (.int .u8 p.b0) ∧ w.cell? ⟨b, 12, none⟩ = some (.int .u8 p.b1) ∧ w.cell? ⟨b, 13, none⟩ = some (.int .u8 p.b2) ∧ w.cell? ⟨b, 14, none⟩ = some (.int .u8 p.b3) ∧ w.cell? ⟨b, 15, none⟩ = some (.string p.opts) ∧ w.cell? ⟨b, 16, none⟩ = some (.string p.data) := by
  have h1 := h.1
  exact ⟨h1.c 0 _ rfl, h1.c 1 _ rfl, h1.c 2 _ rfl, h1.c 3 _ rfl, h1.c 4 _ rfl, h1.c 5 _ rfl, h1.c 6 _ rfl, h1.c 7 _ rfl, h1.c 8 _ rfl, h1.c 9 _ rfl, h1.c 10 _ rfl, h1.c 11 _ rfl, h1.c 12 _ rfl, h1.c 13 _ rfl, h1.c 14 _ rfl, h1.c 15 _ rfl, h1.c 16 _ rfl⟩
theorem PB.loads {w0 w : World} {B b : Nat} {p : Pkt} (h : PB w0 B b p w) : PB w0 B b p w ∧ w.rangeAt b 0 p.vals ∧ w.cell? ⟨b, 0, none⟩ = some (.int .i64 p.tos) ∧ w.cell? ⟨b, 1, none⟩ = some (.int .i64 p.id) ∧ w.cell? ⟨b, 2, none⟩ = some (.int .i64 p.ttl) ∧ w.cell? ⟨b, 3, none⟩ = some (.int .i64 p.proto) ∧ w.cell? ⟨b, 4, none⟩ = some (.int .i64 p.pl) ∧ w.cell? ⟨b, 5, none⟩ = some (.bool p.df) ∧ w.cell? ⟨b, 6, none⟩ = some (.bool p.more) ∧ w.cell? ⟨b, 7, none⟩ = some (.int .u8 p.a0) ∧ w.cell? ⟨b, 8, none⟩ = some (.int .u8 p.a1) ∧ w.cell? ⟨b, 9, none⟩ = some (.int .u8 p.a2) ∧ w.cell? ⟨b, 10, none⟩ = some (.int .u8 p.a3) ∧ w.cell? ⟨b, 11, none⟩ = some (.int .u8 p.b0) ∧ w.cell? ⟨b, 12, none⟩ = some (.int .u8 p.b1) ∧ w.cell? ⟨b, 13, none⟩ = some (.int .u8 p.b2) ∧ w.cell? ⟨b, 14, none⟩ = some (.int .u8 p.b3) ∧ w.cell? ⟨b, 15, none⟩ = some (.string p.opts) ∧ w.cell? ⟨b, 16, none⟩ = some (.string p.data) := ⟨h, h.rng, h.cs⟩

/-- Is it too long? -/
def Pkt.long (p : Pkt) : Int := if 65535 < 20 + p.opts.size + p.pl + p.data.size then 3 else 0
/-- Why a packet may not be: a code, or 0. -/
def Pkt.why (p : Pkt) : Int :=
  if p.bnd = false then 13
  else if 40 < p.opts.size ∨ p.opts.size % 4 ≠ 0 then 8
  else if p.more = true ∧ (p.data.size = 0 ∨ p.data.size % 8 ≠ 0) then 8
  else p.long

theorem bounded_at (p : Pkt) (b : Bool) (h : p.bnd = b) (w : World) :
    Calls Try.prog 34 #[.agg p.vals.toArray] w fun e w' => e = .returned (.bool b) ∧ Below w.heap.size w w' := h ▸ bounded_any p w
theorem bnd_pl {p : Pkt} (h : p.bnd = true) : 0 ≤ p.tos ∧ p.tos ≤ 255 ∧ 0 ≤ p.ttl ∧ p.ttl ≤ 255 ∧ 0 ≤ p.proto ∧ p.proto ≤ 255 ∧ 0 ≤ p.id ∧ p.id ≤ 65535 ∧ 0 ≤ p.pl ∧ p.pl ≤ 65528 ∧ p.pl % 8 = 0 := by
  unfold Pkt.bnd at h
  simp only [Bool.and_eq_true, inB_iff, beq_iff_eq] at h
  obtain ⟨⟨h1, h2⟩, ⟨h3, h4⟩, ⟨h5, h6⟩, ⟨h7, h8⟩, ⟨h9, h10⟩, h11⟩ := h
  exact ⟨h1, h2, h3, h4, h5, h6, h7, h8, h9, h10, h11⟩

set_option maxRecDepth 100000 in
theorem refusal_range (p : Pkt) (w : World) (hb : p.bnd = false) :
    Calls Try.prog 20 #[.agg p.vals.toArray] w fun e w' => e = .returned (.int .i64 13) ∧ Below w.heap.size w w' := by
  have HB := Lib.hid hb
  clear hb
  have hP0 := PB.new w p
  have HP0 := Lib.hid hP0
  have hr := hP0.rng
  clear hP0
  go_enter Try.func20, Try.ntmps20
  go_wp2_with (refine wpList_load_mid rfl 35 _ rfl _ 0 rfl p.vals _ hr Try.underlying35 rfl (Try.infoIp p) ?_)
  refine (bounded_at p _ HB.out _).mono ?_
  rintro e w1 ⟨rfl, b1⟩
  have HP := Lib.hid (HP0.out.below b1 (Nat.le_refl _))
  clear b1 hr HP0
  go_wp2_with fail
  go_ret
  exact ⟨rfl, HP.out.2.1⟩
set_option maxRecDepth 100000 in
set_option maxHeartbeats 400000 in
theorem refusal_many (p : Pkt) (w : World) (hb : p.bnd = true) (h : 40 < p.opts.size) :
    Calls Try.prog 20 #[.agg p.vals.toArray] w fun e w' => e = .returned (.int .i64 8) ∧ Below w.heap.size w w' := by
  have HB := Lib.hid hb
  clear hb
  have hP0 := PB.new w p
  have HP0 := Lib.hid hP0
  have hr := hP0.rng
  clear hP0
  go_enter Try.func20, Try.ntmps20
  go_wp2_with (refine wpList_load_mid rfl 35 _ rfl _ 0 rfl p.vals _ hr Try.underlying35 rfl (Try.infoIp p) ?_)
  refine (bounded_at p _ HB.out _).mono ?_
  rintro e w1 ⟨rfl, b1⟩
  have hP := HP0.out.below b1 (Nat.le_refl _)
  have HP := Lib.hid hP
  obtain ⟨_, _, _, _, c4, _, c6, _, _, _, _, _, _, _, _, c15, c16⟩ := hP.cs
  clear b1 hr HP0 hP
  go_wp2_with fail
  go_ret
  exact ⟨rfl, HP.out.2.1⟩
set_option maxRecDepth 100000 in
set_option maxHeartbeats 400000 in
theorem refusal_odd (p : Pkt) (w : World) (hb : p.bnd = true) (h : p.opts.size ≤ 40) (h4 : ((p.opts.size : Int) % 4 != 0) = true) :
    Calls Try.prog 20 #[.agg p.vals.toArray] w fun e w' => e = .returned (.int .i64 8) ∧ Below w.heap.size w w' := by
  have HB := Lib.hid hb
  clear hb
  have hP0 := PB.new w p
  have HP0 := Lib.hid hP0
  have hr := hP0.rng
  clear hP0
  go_enter Try.func20, Try.ntmps20
  go_wp2_with (refine wpList_load_mid rfl 35 _ rfl _ 0 rfl p.vals _ hr Try.underlying35 rfl (Try.infoIp p) ?_)
  refine (bounded_at p _ HB.out _).mono ?_
  rintro e w1 ⟨rfl, b1⟩
  have hP := HP0.out.below b1 (Nat.le_refl _)
  have HP := Lib.hid hP
  obtain ⟨_, _, _, _, c4, _, c6, _, _, _, _, _, _, _, _, c15, c16⟩ := hP.cs
  clear b1 hr HP0 hP
  go_wp2_with fail
  go_ret
  exact ⟨rfl, HP.out.2.1⟩
set_option maxRecDepth 100000 in
set_option maxHeartbeats 400000 in
theorem refusal_none (p : Pkt) (w : World) (hb : p.bnd = true) (h : p.opts.size ≤ 40) (h4 : ((p.opts.size : Int) % 4 != 0) = false) (hm : p.more = true) (h0 : ((p.data.size : Int) == 0) = true) :
    Calls Try.prog 20 #[.agg p.vals.toArray] w fun e w' => e = .returned (.int .i64 8) ∧ Below w.heap.size w w' := by
  have HB := Lib.hid hb
  clear hb
  have HM := Lib.hid hm
  clear hm
  have hP0 := PB.new w p
  have HP0 := Lib.hid hP0
  have hr := hP0.rng
  clear hP0
  go_enter Try.func20, Try.ntmps20
  go_wp2_with (refine wpList_load_mid rfl 35 _ rfl _ 0 rfl p.vals _ hr Try.underlying35 rfl (Try.infoIp p) ?_)
  refine (bounded_at p _ HB.out _).mono ?_
  rintro e w1 ⟨rfl, b1⟩
  have hP := HP0.out.below b1 (Nat.le_refl _)
  have HP := Lib.hid hP
  obtain ⟨_, _, _, _, c4, _, c6, _, _, _, _, _, _, _, _, c15, c16⟩ := hP.cs
  clear b1 hr HP0 hP
  have hm := HM.out
  go_wp2_with fail
  go_ret
  exact ⟨rfl, HP.out.2.1⟩
set_option maxRecDepth 100000 in
set_option maxHeartbeats 400000 in
theorem refusal_eight (p : Pkt) (w : World) (hb : p.bnd = true) (h : p.opts.size ≤ 40) (h4 : ((p.opts.size : Int) % 4 != 0) = false) (hm : p.more = true) (h0 : ((p.data.size : Int) == 0) = false) (h8 : ((p.data.size : Int) % 8 != 0) = true) :
    Calls Try.prog 20 #[.agg p.vals.toArray] w fun e w' => e = .returned (.int .i64 8) ∧ Below w.heap.size w w' := by
  have HB := Lib.hid hb
  clear hb
  have HM := Lib.hid hm
  clear hm
  have hP0 := PB.new w p
  have HP0 := Lib.hid hP0
  have hr := hP0.rng
  clear hP0
  go_enter Try.func20, Try.ntmps20
  go_wp2_with (refine wpList_load_mid rfl 35 _ rfl _ 0 rfl p.vals _ hr Try.underlying35 rfl (Try.infoIp p) ?_)
  refine (bounded_at p _ HB.out _).mono ?_
  rintro e w1 ⟨rfl, b1⟩
  have hP := HP0.out.below b1 (Nat.le_refl _)
  have HP := Lib.hid hP
  obtain ⟨_, _, _, _, c4, _, c6, _, _, _, _, _, _, _, _, c15, c16⟩ := hP.cs
  clear b1 hr HP0 hP
  have hm := HM.out
  go_wp2_with fail
  go_ret
  exact ⟨rfl, HP.out.2.1⟩
set_option maxRecDepth 100000 in
set_option maxHeartbeats 400000 in
theorem refusal_end1 (p : Pkt) (w : World) (hb : p.bnd = true) (h : p.opts.size ≤ 40) (h4 : ((p.opts.size : Int) % 4 != 0) = false) (hm : p.more = false) (hd : p.data.size ≤ 70000) :
    Calls Try.prog 20 #[.agg p.vals.toArray] w fun e w' => e = .returned (.int .i64 p.long) ∧ Below w.heap.size w w' := by
  have HB := Lib.hid hb
  obtain ⟨_, _, _, _, _, _, _, _, hp0, hp1, _⟩ := bnd_pl hb
  clear hb
  have HM := Lib.hid hm
  clear hm
  have hP0 := PB.new w p
  have HP0 := Lib.hid hP0
  have hr := hP0.rng
  clear hP0
  go_enter Try.func20, Try.ntmps20
  go_wp2_with (refine wpList_load_mid rfl 35 _ rfl _ 0 rfl p.vals _ hr Try.underlying35 rfl (Try.infoIp p) ?_)
  refine (bounded_at p _ HB.out _).mono ?_
  rintro e w1 ⟨rfl, b1⟩
  have hP := HP0.out.below b1 (Nat.le_refl _)
  have HP := Lib.hid hP
  obtain ⟨_, _, _, _, c4, _, c6, _, _, _, _, _, _, _, _, c15, c16⟩ := hP.cs
  clear b1 hr HP0 hP
  have hm := HM.out
  go_wp2_with fail
  clear hm c4 c6 c15 c16
  have k1 : IntKind.i64.wrap (20 + (p.opts.size : Int) + p.pl) = 20 + (p.opts.size : Int) + p.pl := IntWalk.i64_in _ (by omega)
  have k2 : IntKind.i64.wrap (20 + (p.opts.size : Int) + p.pl + (p.data.size : Int)) = 20 + (p.opts.size : Int) + p.pl + (p.data.size : Int) := IntWalk.i64_in _ (by omega)
  obtain ⟨B, hBd⟩ : ∃ B, B = w.heap.size := ⟨_, rfl⟩
  have hP' : PB w B w.heap.size p w1 := by rw [hBd]; exact HP.out
  have HBd := Lib.hid hBd
  clear HP hBd
  have hz : p.opts.size ≤ 70000 := by omega
  generalize w.heap.size = b at hP'
  refine wp_region_noPanic ?_
  refine wp_region_held_drew (S := fun w' => PB w B b p w' ∧ w'.rangeAt b 0 p.vals ∧ w'.cell? ⟨b, 0, none⟩ = some (.int .i64 p.tos) ∧ w'.cell? ⟨b, 1, none⟩ = some (.int .i64 p.id) ∧ w'.cell? ⟨b, 2, none⟩ = some (.int .i64 p.ttl) ∧ w'.cell? ⟨b, 3, none⟩ = some (.int .i64 p.proto) ∧ w'.cell? ⟨b, 4, none⟩ = some (.int .i64 p.pl) ∧ w'.cell? ⟨b, 5, none⟩ = some (.bool p.df) ∧ w'.cell? ⟨b, 6, none⟩ = some (.bool p.more) ∧ w'.cell? ⟨b, 7, none⟩ = some (.int .u8 p.a0) ∧ w'.cell? ⟨b, 8, none⟩ = some (.int .u8 p.a1) ∧ w'.cell? ⟨b, 9, none⟩ = some (.int .u8 p.a2) ∧ w'.cell? ⟨b, 10, none⟩ = some (.int .u8 p.a3) ∧ w'.cell? ⟨b, 11, none⟩ = some (.int .u8 p.b0) ∧ w'.cell? ⟨b, 12, none⟩ = some (.int .u8 p.b1) ∧ w'.cell? ⟨b, 13, none⟩ = some (.int .u8 p.b2) ∧ w'.cell? ⟨b, 14, none⟩ = some (.int .u8 p.b3) ∧ w'.cell? ⟨b, 15, none⟩ = some (.string p.opts) ∧ w'.cell? ⟨b, 16, none⟩ = some (.string p.data)) (by kernel_rfl) ((PB.below hP' ((Below.refl w1.heap.size w1).drew) (Nat.le_refl _)).loads) (fun hHeld => ?_)
  refine wpAnyH_take (i := 0) (oi := { dst := some 36, op := Op.load 35 (Operand.tmp 1), type := 35, pos := "ip4.go:53", after := #[], guard := none }) (v := .agg (p.vals).toArray) rfl (by kernel_rfl) (by kernel_rfl) (by kernel_rfl) (fun _ _ _ h => h) (yieldsIf_load_mid (by rfl) _ _ rfl (b) 0 rfl (p.vals) _ (fun ww hSw => hSw.2.1) Try.underlying35 rfl (Try.infoIp p)) (by assumption) ?_
  (try simp only [Act.put, List.setIfInBounds_toArray, List.set_cons_zero, List.set_cons_succ])
  refine wpAnyH_take (i := 2) (oi := { dst := some 38, op := Op.fieldAddr 35 (Operand.tmp 1) 4, type := 0, pos := "ip4.go:53", after := #[], guard := none }) (v := ?_) rfl (by kernel_rfl) (by kernel_rfl) (by kernel_rfl) (fun _ _ _ h => h) (Or.inl ⟨by rfl, ?_⟩) (by assumption) ?_
  rotate_left
  · (intro ww hSw; (try dsimp only at hSw); go_simp; try with_reducible rfl)
  (try simp only [Act.put, List.setIfInBounds_toArray, List.set_cons_zero, List.set_cons_succ])
  refine wpAnyH_take (i := 3) (oi := { dst := some 39, op := Op.load 3 (Operand.tmp 38), type := 3, pos := "ip4.go:53", after := #[{ on := 2, ground := Ground.data }], guard := none }) (v := ?_) rfl (by kernel_rfl) (by kernel_rfl) (by kernel_rfl) (fun _ _ _ h => h) (Or.inl ⟨by rfl, ?_⟩) (by assumption) ?_
  rotate_left
  · (intro ww hSw; (try dsimp only at hSw); go_simp; try with_reducible rfl)
  (try simp only [Act.put, List.setIfInBounds_toArray, List.set_cons_zero, List.set_cons_succ])
  refine wpAnyH_take (i := 5) (oi := { dst := some 41, op := Op.fieldAddr 35 (Operand.tmp 1) 10, type := 0, pos := "ip4.go:53", after := #[], guard := none }) (v := ?_) rfl (by kernel_rfl) (by kernel_rfl) (by kernel_rfl) (fun _ _ _ h => h) (Or.inl ⟨by rfl, ?_⟩) (by assumption) ?_
  rotate_left
  · (intro ww hSw; (try dsimp only at hSw); go_simp; try with_reducible rfl)
  (try simp only [Act.put, List.setIfInBounds_toArray, List.set_cons_zero, List.set_cons_succ])
  refine wpAnyH_take (i := 6) (oi := { dst := some 42, op := Op.load 9 (Operand.tmp 41), type := 9, pos := "ip4.go:53", after := #[{ on := 5, ground := Ground.data }], guard := none }) (v := ?_) rfl (by kernel_rfl) (by kernel_rfl) (by kernel_rfl) (fun _ _ _ h => h) (Or.inl ⟨by rfl, ?_⟩) (by assumption) ?_
  rotate_left
  · (intro ww hSw; (try dsimp only at hSw); go_simp; try with_reducible rfl)
  (try simp only [Act.put, List.setIfInBounds_toArray, List.set_cons_zero, List.set_cons_succ])
  refine wpAnyH_take (i := 7) (oi := { dst := some 43, op := Op.call { callee := Callee.builtin Builtin.len, args := #[Operand.tmp 42], argTypes := #[9] }, type := 3, pos := "ip4.go:53", after := #[{ on := 6, ground := Ground.data }], guard := none }) (v := ?_) rfl (by kernel_rfl) (by kernel_rfl) (by kernel_rfl) (fun _ _ _ h => h) (Or.inl ⟨by rfl, ?_⟩) (by assumption) ?_
  rotate_left
  · (intro ww hSw; (try dsimp only at hSw); go_simp; try with_reducible rfl)
  (try simp only [Act.put, List.setIfInBounds_toArray, List.set_cons_zero, List.set_cons_succ])
  refine wpAnyH_ready (rs := [1]) (by kernel_rfl) (by simp) ?_
  refine AllReadyH.cons (o := { dst := some 37, op := Op.call { callee := Callee.value (Operand.func 35), args := #[Operand.tmp 36], argTypes := #[35] }, type := 3, pos := "ip4.go:53", after := #[{ on := 0, ground := Ground.data }], guard := none }) rfl (fun K hK => ?_) AllReadyH.nil
  go_simp
  ((with_reducible refine (headLength_any p _ hz).mono ?_); rintro e w9 ⟨rfl, hb9⟩)
  refine hK.out _ _ ((PB.below (And.left hHeld) hb9 (Nat.le_refl _)).loads) (fun hHeld => ?_)
  clear hK K
  (try simp only [Act.put, List.setIfInBounds_toArray, List.set_cons_zero, List.set_cons_succ])
  refine wpAnyH_take (i := 4) (oi := { dst := some 40, op := Op.binOp BinOp.add 3 (Operand.tmp 37) (Operand.tmp 39) 3, type := 3, pos := "ip4.go:53", after := #[{ on := 1, ground := Ground.data }, { on := 3, ground := Ground.data }], guard := none }) (v := ?_) rfl (by kernel_rfl) (by kernel_rfl) (by kernel_rfl) (fun _ _ _ h => h) (Or.inl ⟨by rfl, ?_⟩) (by assumption) ?_
  rotate_left
  · (intro ww hSw; (try dsimp only at hSw); go_simp; try with_reducible rfl)
  (try simp only [Act.put, List.setIfInBounds_toArray, List.set_cons_zero, List.set_cons_succ])
  refine wpAnyH_take (i := 8) (oi := { dst := some 44, op := Op.binOp BinOp.add 3 (Operand.tmp 40) (Operand.tmp 43) 3, type := 3, pos := "ip4.go:53", after := #[{ on := 4, ground := Ground.data }, { on := 7, ground := Ground.data }], guard := none }) (v := ?_) rfl (by kernel_rfl) (by kernel_rfl) (by kernel_rfl) (fun _ _ _ h => h) (Or.inl ⟨by rfl, ?_⟩) (by assumption) ?_
  rotate_left
  · (intro ww hSw; (try dsimp only at hSw); go_simp; try with_reducible rfl)
  (try simp only [Act.put, List.setIfInBounds_toArray, List.set_cons_zero, List.set_cons_succ])
  refine wpAnyH_take (i := 9) (oi := { dst := some 45, op := Op.binOp BinOp.gtr 3 (Operand.tmp 44) (Operand.const (Value.int IntKind.i64 65535)) 3, type := 4, pos := "ip4.go:53", after := #[{ on := 8, ground := Ground.data }], guard := none }) (v := ?_) rfl (by kernel_rfl) (by kernel_rfl) (by kernel_rfl) (fun _ _ _ h => h) (Or.inl ⟨by rfl, ?_⟩) (by assumption) ?_
  rotate_left
  · (intro ww hSw; (try dsimp only at hSw); go_simp; try with_reducible rfl)
  (try simp only [Act.put, List.setIfInBounds_toArray, List.set_cons_zero, List.set_cons_succ])
  refine wpAnyH_take (i := 10) (oi := { dst := some 35, op := Op.assign (Operand.tmp 45), type := 4, pos := "ip4.go:53", after := #[{ on := 9, ground := Ground.data }, { on := 1, ground := Ground.chain }], guard := none }) (v := ?_) rfl (by kernel_rfl) (by kernel_rfl) (by kernel_rfl) (fun _ _ _ h => h) (Or.inl ⟨by rfl, ?_⟩) (by assumption) ?_
  rotate_left
  · (intro ww hSw; (try dsimp only at hSw); go_simp; try with_reducible rfl)
  (try simp only [Act.put, List.setIfInBounds_toArray, List.set_cons_zero, List.set_cons_succ])
  refine wpAnyH_done (by kernel_rfl) ?_ _
  refine NoPanic.normal ?_
  have hf2 := (And.left hHeld).2.1
  rw [HBd.out] at hf2
  have HF := Lib.hid hf2
  clear hf2 hHeld k1 k2 hP'
  by_cases hl : 65535 < 20 + p.opts.size + p.pl + p.data.size
  · have HL : Hid (p.long = 3) := Lib.hid (if_pos hl)
    go_wp2_with fail
    go_ret
    rw [HL.out]
    exact ⟨rfl, HF.out⟩
  · have HL : Hid (p.long = 0) := Lib.hid (if_neg hl)
    go_wp2_with fail
    go_ret
    rw [HL.out]
    exact ⟨rfl, HF.out⟩
set_option maxRecDepth 100000 in
set_option maxHeartbeats 400000 in
theorem refusal_end2 (p : Pkt) (w : World) (hb : p.bnd = true) (h : p.opts.size ≤ 40) (h4 : ((p.opts.size : Int) % 4 != 0) = false) (hm : p.more = true) (h0 : ((p.data.size : Int) == 0) = false) (h8 : ((p.data.size : Int) % 8 != 0) = false) (hd : p.data.size ≤ 70000) :
    Calls Try.prog 20 #[.agg p.vals.toArray] w fun e w' => e = .returned (.int .i64 p.long) ∧ Below w.heap.size w w' := by
  have HB := Lib.hid hb
  obtain ⟨_, _, _, _, _, _, _, _, hp0, hp1, _⟩ := bnd_pl hb
  clear hb
  have HM := Lib.hid hm
  clear hm
  have hP0 := PB.new w p
  have HP0 := Lib.hid hP0
  have hr := hP0.rng
  clear hP0
  go_enter Try.func20, Try.ntmps20
  go_wp2_with (refine wpList_load_mid rfl 35 _ rfl _ 0 rfl p.vals _ hr Try.underlying35 rfl (Try.infoIp p) ?_)
  refine (bounded_at p _ HB.out _).mono ?_
  rintro e w1 ⟨rfl, b1⟩
  have hP := HP0.out.below b1 (Nat.le_refl _)
  have HP := Lib.hid hP
  obtain ⟨_, _, _, _, c4, _, c6, _, _, _, _, _, _, _, _, c15, c16⟩ := hP.cs
  clear b1 hr HP0 hP
  have hm := HM.out
  go_wp2_with fail
  clear hm c4 c6 c15 c16
  have k1 : IntKind.i64.wrap (20 + (p.opts.size : Int) + p.pl) = 20 + (p.opts.size : Int) + p.pl := IntWalk.i64_in _ (by omega)
  have k2 : IntKind.i64.wrap (20 + (p.opts.size : Int) + p.pl + (p.data.size : Int)) = 20 + (p.opts.size : Int) + p.pl + (p.data.size : Int) := IntWalk.i64_in _ (by omega)
  obtain ⟨B, hBd⟩ : ∃ B, B = w.heap.size := ⟨_, rfl⟩
  have hP' : PB w B w.heap.size p w1 := by rw [hBd]; exact HP.out
  have HBd := Lib.hid hBd
  clear HP hBd
  have hz : p.opts.size ≤ 70000 := by omega
  generalize w.heap.size = b at hP'
  refine wp_region_noPanic ?_
  refine wp_region_held_drew (S := fun w' => PB w B b p w' ∧ w'.rangeAt b 0 p.vals ∧ w'.cell? ⟨b, 0, none⟩ = some (.int .i64 p.tos) ∧ w'.cell? ⟨b, 1, none⟩ = some (.int .i64 p.id) ∧ w'.cell? ⟨b, 2, none⟩ = some (.int .i64 p.ttl) ∧ w'.cell? ⟨b, 3, none⟩ = some (.int .i64 p.proto) ∧ w'.cell? ⟨b, 4, none⟩ = some (.int .i64 p.pl) ∧ w'.cell? ⟨b, 5, none⟩ = some (.bool p.df) ∧ w'.cell? ⟨b, 6, none⟩ = some (.bool p.more) ∧ w'.cell? ⟨b, 7, none⟩ = some (.int .u8 p.a0) ∧ w'.cell? ⟨b, 8, none⟩ = some (.int .u8 p.a1) ∧ w'.cell? ⟨b, 9, none⟩ = some (.int .u8 p.a2) ∧ w'.cell? ⟨b, 10, none⟩ = some (.int .u8 p.a3) ∧ w'.cell? ⟨b, 11, none⟩ = some (.int .u8 p.b0) ∧ w'.cell? ⟨b, 12, none⟩ = some (.int .u8 p.b1) ∧ w'.cell? ⟨b, 13, none⟩ = some (.int .u8 p.b2) ∧ w'.cell? ⟨b, 14, none⟩ = some (.int .u8 p.b3) ∧ w'.cell? ⟨b, 15, none⟩ = some (.string p.opts) ∧ w'.cell? ⟨b, 16, none⟩ = some (.string p.data)) (by kernel_rfl) ((PB.below hP' ((Below.refl w1.heap.size w1).drew) (Nat.le_refl _)).loads) (fun hHeld => ?_)
  refine wpAnyH_take (i := 0) (oi := { dst := some 36, op := Op.load 35 (Operand.tmp 1), type := 35, pos := "ip4.go:53", after := #[], guard := none }) (v := .agg (p.vals).toArray) rfl (by kernel_rfl) (by kernel_rfl) (by kernel_rfl) (fun _ _ _ h => h) (yieldsIf_load_mid (by rfl) _ _ rfl (b) 0 rfl (p.vals) _ (fun ww hSw => hSw.2.1) Try.underlying35 rfl (Try.infoIp p)) (by assumption) ?_
  (try simp only [Act.put, List.setIfInBounds_toArray, List.set_cons_zero, List.set_cons_succ])
  refine wpAnyH_take (i := 2) (oi := { dst := some 38, op := Op.fieldAddr 35 (Operand.tmp 1) 4, type := 0, pos := "ip4.go:53", after := #[], guard := none }) (v := ?_) rfl (by kernel_rfl) (by kernel_rfl) (by kernel_rfl) (fun _ _ _ h => h) (Or.inl ⟨by rfl, ?_⟩) (by assumption) ?_
  rotate_left
  · (intro ww hSw; (try dsimp only at hSw); go_simp; try with_reducible rfl)
  (try simp only [Act.put, List.setIfInBounds_toArray, List.set_cons_zero, List.set_cons_succ])
  refine wpAnyH_take (i := 3) (oi := { dst := some 39, op := Op.load 3 (Operand.tmp 38), type := 3, pos := "ip4.go:53", after := #[{ on := 2, ground := Ground.data }], guard := none }) (v := ?_) rfl (by kernel_rfl) (by kernel_rfl) (by kernel_rfl) (fun _ _ _ h => h) (Or.inl ⟨by rfl, ?_⟩) (by assumption) ?_
  rotate_left
  · (intro ww hSw; (try dsimp only at hSw); go_simp; try with_reducible rfl)
  (try simp only [Act.put, List.setIfInBounds_toArray, List.set_cons_zero, List.set_cons_succ])
  refine wpAnyH_take (i := 5) (oi := { dst := some 41, op := Op.fieldAddr 35 (Operand.tmp 1) 10, type := 0, pos := "ip4.go:53", after := #[], guard := none }) (v := ?_) rfl (by kernel_rfl) (by kernel_rfl) (by kernel_rfl) (fun _ _ _ h => h) (Or.inl ⟨by rfl, ?_⟩) (by assumption) ?_
  rotate_left
  · (intro ww hSw; (try dsimp only at hSw); go_simp; try with_reducible rfl)
  (try simp only [Act.put, List.setIfInBounds_toArray, List.set_cons_zero, List.set_cons_succ])
  refine wpAnyH_take (i := 6) (oi := { dst := some 42, op := Op.load 9 (Operand.tmp 41), type := 9, pos := "ip4.go:53", after := #[{ on := 5, ground := Ground.data }], guard := none }) (v := ?_) rfl (by kernel_rfl) (by kernel_rfl) (by kernel_rfl) (fun _ _ _ h => h) (Or.inl ⟨by rfl, ?_⟩) (by assumption) ?_
  rotate_left
  · (intro ww hSw; (try dsimp only at hSw); go_simp; try with_reducible rfl)
  (try simp only [Act.put, List.setIfInBounds_toArray, List.set_cons_zero, List.set_cons_succ])
  refine wpAnyH_take (i := 7) (oi := { dst := some 43, op := Op.call { callee := Callee.builtin Builtin.len, args := #[Operand.tmp 42], argTypes := #[9] }, type := 3, pos := "ip4.go:53", after := #[{ on := 6, ground := Ground.data }], guard := none }) (v := ?_) rfl (by kernel_rfl) (by kernel_rfl) (by kernel_rfl) (fun _ _ _ h => h) (Or.inl ⟨by rfl, ?_⟩) (by assumption) ?_
  rotate_left
  · (intro ww hSw; (try dsimp only at hSw); go_simp; try with_reducible rfl)
  (try simp only [Act.put, List.setIfInBounds_toArray, List.set_cons_zero, List.set_cons_succ])
  refine wpAnyH_ready (rs := [1]) (by kernel_rfl) (by simp) ?_
  refine AllReadyH.cons (o := { dst := some 37, op := Op.call { callee := Callee.value (Operand.func 35), args := #[Operand.tmp 36], argTypes := #[35] }, type := 3, pos := "ip4.go:53", after := #[{ on := 0, ground := Ground.data }], guard := none }) rfl (fun K hK => ?_) AllReadyH.nil
  go_simp
  ((with_reducible refine (headLength_any p _ hz).mono ?_); rintro e w9 ⟨rfl, hb9⟩)
  refine hK.out _ _ ((PB.below (And.left hHeld) hb9 (Nat.le_refl _)).loads) (fun hHeld => ?_)
  clear hK K
  (try simp only [Act.put, List.setIfInBounds_toArray, List.set_cons_zero, List.set_cons_succ])
  refine wpAnyH_take (i := 4) (oi := { dst := some 40, op := Op.binOp BinOp.add 3 (Operand.tmp 37) (Operand.tmp 39) 3, type := 3, pos := "ip4.go:53", after := #[{ on := 1, ground := Ground.data }, { on := 3, ground := Ground.data }], guard := none }) (v := ?_) rfl (by kernel_rfl) (by kernel_rfl) (by kernel_rfl) (fun _ _ _ h => h) (Or.inl ⟨by rfl, ?_⟩) (by assumption) ?_
  rotate_left
  · (intro ww hSw; (try dsimp only at hSw); go_simp; try with_reducible rfl)
  (try simp only [Act.put, List.setIfInBounds_toArray, List.set_cons_zero, List.set_cons_succ])
  refine wpAnyH_take (i := 8) (oi := { dst := some 44, op := Op.binOp BinOp.add 3 (Operand.tmp 40) (Operand.tmp 43) 3, type := 3, pos := "ip4.go:53", after := #[{ on := 4, ground := Ground.data }, { on := 7, ground := Ground.data }], guard := none }) (v := ?_) rfl (by kernel_rfl) (by kernel_rfl) (by kernel_rfl) (fun _ _ _ h => h) (Or.inl ⟨by rfl, ?_⟩) (by assumption) ?_
  rotate_left
  · (intro ww hSw; (try dsimp only at hSw); go_simp; try with_reducible rfl)
  (try simp only [Act.put, List.setIfInBounds_toArray, List.set_cons_zero, List.set_cons_succ])
  refine wpAnyH_take (i := 9) (oi := { dst := some 45, op := Op.binOp BinOp.gtr 3 (Operand.tmp 44) (Operand.const (Value.int IntKind.i64 65535)) 3, type := 4, pos := "ip4.go:53", after := #[{ on := 8, ground := Ground.data }], guard := none }) (v := ?_) rfl (by kernel_rfl) (by kernel_rfl) (by kernel_rfl) (fun _ _ _ h => h) (Or.inl ⟨by rfl, ?_⟩) (by assumption) ?_
  rotate_left
  · (intro ww hSw; (try dsimp only at hSw); go_simp; try with_reducible rfl)
  (try simp only [Act.put, List.setIfInBounds_toArray, List.set_cons_zero, List.set_cons_succ])
  refine wpAnyH_take (i := 10) (oi := { dst := some 35, op := Op.assign (Operand.tmp 45), type := 4, pos := "ip4.go:53", after := #[{ on := 9, ground := Ground.data }, { on := 1, ground := Ground.chain }], guard := none }) (v := ?_) rfl (by kernel_rfl) (by kernel_rfl) (by kernel_rfl) (fun _ _ _ h => h) (Or.inl ⟨by rfl, ?_⟩) (by assumption) ?_
  rotate_left
  · (intro ww hSw; (try dsimp only at hSw); go_simp; try with_reducible rfl)
  (try simp only [Act.put, List.setIfInBounds_toArray, List.set_cons_zero, List.set_cons_succ])
  refine wpAnyH_done (by kernel_rfl) ?_ _
  refine NoPanic.normal ?_
  have hf2 := (And.left hHeld).2.1
  rw [HBd.out] at hf2
  have HF := Lib.hid hf2
  clear hf2 hHeld k1 k2 hP'
  by_cases hl : 65535 < 20 + p.opts.size + p.pl + p.data.size
  · have HL : Hid (p.long = 3) := Lib.hid (if_pos hl)
    go_wp2_with fail
    go_ret
    rw [HL.out]
    exact ⟨rfl, HF.out⟩
  · have HL : Hid (p.long = 0) := Lib.hid (if_neg hl)
    go_wp2_with fail
    go_ret
    rw [HL.out]
    exact ⟨rfl, HF.out⟩
theorem refusal_any (p : Pkt) (w : World) (hd : p.data.size ≤ 70000) :
    Calls Try.prog 20 #[.agg p.vals.toArray] w fun e w' => e = .returned (.int .i64 p.why) ∧ Below w.heap.size w w' := by
  unfold Pkt.why
  cases hb : p.bnd
  · rw [if_pos rfl]
    exact refusal_range p w hb
  · rw [if_neg (by simp)]
    by_cases h40 : 40 < p.opts.size
    · rw [if_pos (.inl h40)]
      exact refusal_many p w hb h40
    · by_cases h4 : p.opts.size % 4 = 0
      · rw [if_neg (by omega)]
        have g4 : ((p.opts.size : Int) % 4 != 0) = false := by rw [show (p.opts.size : Int) % 4 = 0 by omega]; rfl
        cases hm : p.more
        · rw [if_neg (by simp)]
          exact refusal_end1 p w hb (by omega) g4 hm hd
        · by_cases h0 : p.data.size = 0
          · rw [if_pos ⟨rfl, .inl h0⟩]
            exact refusal_none p w hb (by omega) g4 hm (by rw [h0]; rfl)
          · have g0 : ((p.data.size : Int) == 0) = false := by rw [beq_eq_false_iff_ne]; omega
            by_cases h8 : p.data.size % 8 = 0
            · rw [if_neg (by omega)]
              exact refusal_end2 p w hb (by omega) g4 hm g0 (by rw [show (p.data.size : Int) % 8 = 0 by omega]; rfl) hd
            · rw [if_pos ⟨rfl, .inr h8⟩]
              exact refusal_eight p w hb (by omega) g4 hm g0 (by rw [bne_iff_ne]; omega)
      · rw [if_pos (.inr h4)]
        exact refusal_odd p w hb (by omega) (by rw [bne_iff_ne]; omega)
end Go.Proofs.Ytdljjcnihajchaa.P4
