/-
  Proved here: what ip6.Bytes answers.
  Conditions: the slice's cells hold the extensions; small packets.
-/
import Derived.Test.YtdljjcnihajchaaRefusal
namespace Go.Proofs.Ytdljjcnihajchaa
open Go.RowKit

/-- Bytes as a text. -/
def strB (l : List UInt8) : ByteArray := strOfNums (l.map fun c => (c.toNat : Int))
theorem strB_list (l : List UInt8) : (strB l).data.toList = l := by
  have e : ((fun n : Int => UInt8.ofNat n.toNat) ∘ fun c : UInt8 => (c.toNat : Int)) = id := by
    funext c
    simp
  unfold strB strOfNums
  simp [e]
theorem strB_size (l : List UInt8) : (strB l).size = l.length := by
  rw [← ba_size, strB_list]
theorem Bk.conv {w : World} {b : Nat} {T : TypeId} {V : List Value} (h : Bk w b T V.toArray) (o : Nat) (l : List UInt8) (n : Nat) (hl : l.length = n) (hv : ∀ i x, (bytV l)[i]? = some x → V[o + i]? = some x) :
    (convert 72 9 (.slice (some ⟨b, o, none⟩) n n)).run Try.prog w = .ok (.string (strB l)) w := by
  refine run_convert_bytes_arg _ 72 5 Try.underlying72 Try.underlying5 b o n n (l.map fun c => (c.toNat : Int)) (by rw [List.length_map, hl]) (fun i hi => ?_) 9 Try.underlying9
  have hi2 : i < l.length := by omega
  rw [h.at (hv i _ (by unfold bytV; rw [List.getElem?_map, List.getElem?_eq_getElem hi2]; rfl)), List.getD_eq_getElem?_getD, List.getElem?_map, List.getElem?_eq_getElem hi2]
  rfl
/-- A call that answers v and a fault of code c at place 0. -/
def Bad (v : Value) (c : Int) (w : World) (e : Ending) (w' : World) : Prop :=
  ∃ b, e = .returned (.tuple #[v, .iface 50 (.pointer (some ⟨b, 0, none⟩))]) ∧ Flt w' b c 0 ∧ w.heap.size ≤ b ∧ Below w.heap.size w w'
/-- The first four bytes, as a number. -/
def Pk6.word (p : Pk6) : Int := 1610612736 + p.cls * 1048576 + p.flow
theorem or_i (x k m : Nat) (hk : k ≤ 32) (hm : m < 65536) (hx : x < 2 ^ k) : bits .or .i64 ((2 ^ k * m : Nat) : Int) ((x : Nat) : Int) = ((2 ^ k * m + x : Nat) : Int) := by
  have hp : 2 ^ k ≤ 2 ^ 32 := Nat.pow_le_pow_right (by omega) hk
  have hq : 2 ^ k * m ≤ 2 ^ 32 * 65536 := Nat.mul_le_mul hp (by omega)
  have hor : 2 ^ k * m ||| x = 2 ^ k * m + x := (Nat.two_pow_add_eq_or_of_lt hx m).symm
  have h1 : (BitVec.ofInt 64 ((x : Nat) : Int)).toNat = x := by
    rw [BitVec.ofInt_natCast, BitVec.toNat_ofNat]; exact Nat.mod_eq_of_lt (by omega)
  have h2 : (BitVec.ofInt 64 ((2 ^ k * m : Nat) : Int)).toNat = 2 ^ k * m := by
    rw [BitVec.ofInt_natCast, BitVec.toNat_ofNat]; exact Nat.mod_eq_of_lt (by omega)
  show IntKind.i64.wrap ((BitVec.ofInt 64 ((2 ^ k * m : Nat) : Int) ||| BitVec.ofInt 64 ((x : Nat) : Int)).toNat : Int) = _
  rw [BitVec.toNat_or, h1, h2, hor, IntKind.wrap_i64]
  omega
theorem or_cls (x : Int) (h0 : 0 ≤ x) (h1 : x ≤ 255) : bits .or .i64 1610612736 (x * 1048576) = 1610612736 + x * 1048576 := by
  obtain ⟨n, rfl⟩ : ∃ n : Nat, x = n := ⟨x.toNat, by omega⟩
  have := or_i (n * 1048576) 28 6 (by decide) (by decide) (by omega)
  rw [show ((2 ^ 28 * 6 : Nat) : Int) = 1610612736 by decide] at this
  rw [show ((n : Int) * 1048576) = ((n * 1048576 : Nat) : Int) by omega, this]
  omega
theorem or_flow (x y : Int) (h0 : 0 ≤ x) (h1 : x ≤ 255) (g0 : 0 ≤ y) (g1 : y ≤ 1048575) : bits .or .i64 (1610612736 + x * 1048576) y = 1610612736 + x * 1048576 + y := by
  obtain ⟨n, rfl⟩ : ∃ n : Nat, x = n := ⟨x.toNat, by omega⟩
  obtain ⟨m, rfl⟩ : ∃ m : Nat, y = m := ⟨y.toNat, by omega⟩
  have := or_i m 20 (1536 + n) (by decide) (by omega) (by omega)
  rw [show ((2 ^ 20 * (1536 + n) : Nat) : Int) = 1610612736 + (n : Int) * 1048576 by omega] at this
  rw [this]
  omega
theorem heads_size_of (s0 : Int × ByteArray) (l : List (Int × ByteArray)) : (l.foldr (fun e st => hstep st e) s0).2.size = s0.2.size + esum l := by
  induction l with
  | nil => rfl
  | cons e r ih =>
    rw [List.foldr_cons, hstep_size, ih]
    unfold esum
    rw [List.map_cons, List.sum_cons]
    omega
theorem heads_size (p : Pk6) : p.heads.2.size + p.data.size = p.behind := by
  unfold Pk6.heads
  rw [heads_size_of]
  unfold Pk6.st0 Pk6.behind
  cases p.frag
  · show (0 : Nat) + _ + _ = _ + 0 + _
    omega
  · show p.fragB.size + _ + _ = _ + 8 + _
    rw [fragB_size]
    omega
theorem heads_next {p : Pk6} (hp : 0 ≤ p.proto ∧ p.proto < 256) (hge : ∀ e ∈ p.exts, isEx e.1 ∧ e.2.size ≤ 2046 ∧ e.2.size % 8 = 6) : 0 ≤ p.heads.1 ∧ p.heads.1 < 256 := by
  unfold Pk6.heads
  cases h : p.exts with
  | nil =>
    show 0 ≤ p.st0.1 ∧ p.st0.1 < 256
    unfold Pk6.st0
    split
    · exact ⟨by show (0 : Int) ≤ 44; omega, by show (44 : Int) < 256; omega⟩
    · exact hp
  | cons e r =>
    rw [List.foldr_cons]
    exact isEx_range (hge e (by rw [h]; simp)).1
/-- A packet's bytes. -/
def Pk6.bytes (p : Pk6) : ByteArray :=
  strOfNums [p.word / 16777216, p.word / 65536 % 256, p.word / 256 % 256, p.word % 256] ++ strOfNums [((p.heads.2.size : Int) + (p.data.size : Int)) / 256, ((p.heads.2.size : Int) + (p.data.size : Int)) % 256] ++ strOfNums [p.heads.1] ++ strOfNums [p.hop] ++ strB p.fr ++ strB p.dst ++ p.heads.2 ++ p.data
set_option maxRecDepth 100000 in
set_option maxHeartbeats 400000 in
theorem bytes_bad (p : Pk6) (v : Value) (w : World) (hx : Exs w v p.exts) (hs : Sm p) (hy : (p.why != 0) = true) :
    Calls Try.prog 15 #[.agg (p.vals v).toArray] w (Bad (.string ⟨#[]⟩) p.why w) := by
  obtain ⟨V, hV, hVl, hD, hK⟩ := boxed6 p v w
  have HIv : Hid ((Try.prog.info? 27).map (·.size) = some V.length) := Lib.hid (by rw [hV]; exact Try.info6 p _)
  have HR : Hid (∀ W, Below w.heap.size w W → Calls Try.prog 21 #[.agg V.toArray] W fun e w' => e = .returned (.int .i64 p.why) ∧ Below W.heap.size W w') := Lib.hid (fun W hW => by rw [hV]; exact refusal_any p _ W (hx.below hW (Nat.le_refl _)) hs)
  generalize p.why = c at HR hy ⊢
  rw [← hV]
  clear hV
  have HK0 := Lib.hid hK
  have hrg := hK.hd.range
  clear hK hD hs hx
  generalize hw1 : w.alloc (.cells V.toArray 27) = w1 at *
  go_enter Try.func15, Try.ntmps15
  go_upto_region 1 with (fail)
  clear hw1
  go_wp2_with (refine wpList_load_mid rfl 27 _ rfl _ 0 rfl V _ hrg Try.underlying27 rfl HIv.out ?_)
  refine (HR.out _ HK0.out.2.1).mono ?_
  rintro e w2 ⟨rfl, b1⟩
  have HK1 := Lib.hid (HK0.out.below b1 (Nat.le_refl _))
  clear b1 hrg HK0
  go_wp2_with fail
  refine (fault_any _ _).mono ?_
  rintro e w3 ⟨rfl, rfl⟩
  go_wp2_with fail
  go_ret2
  exact ⟨_, rfl, Flt.new _ _ _, HK1.out.2.2, HK1.out.2.1.alloc HK1.out.2.2 _⟩
/-- What a region of Bytes keeps and reads. -/
theorem kb_loads {p : Pk6} {w0 w : World} {B b : Nat} {V : List Value} (hv0 : V[0]? = some (.int .i64 p.cls)) (hv1 : V[1]? = some (.int .i64 p.flow)) (hv2 : V[2]? = some (.int .i64 p.hop)) (hv41 : V[41]? = some (.string p.data))
    (hf : ∀ i x, (bytV p.fr)[i]? = some x → V[3 + i]? = some x) (hd : ∀ i x, (bytV p.dst)[i]? = some x → V[19 + i]? = some x) (h : Kp w0 B [(b, 27, V)] w) :
    Kp w0 B [(b, 27, V)] w ∧ w.cell? ⟨b, 0, none⟩ = some (.int .i64 p.cls) ∧ w.cell? ⟨b, 1, none⟩ = some (.int .i64 p.flow) ∧ w.cell? ⟨b, 2, none⟩ = some (.int .i64 p.hop) ∧ w.cell? ⟨b, 41, none⟩ = some (.string p.data) ∧
    (convert 72 9 (.slice (some ⟨b, 3, none⟩) 16 16)).run Try.prog w = .ok (.string (strB p.fr)) w ∧ (convert 72 9 (.slice (some ⟨b, 19, none⟩) 16 16)).run Try.prog w = .ok (.string (strB p.dst)) w :=
  ⟨h, h.hd.at hv0, h.hd.at hv1, h.hd.at hv2, h.hd.at hv41, h.hd.conv 3 p.fr 16 p.hfr hf, h.hd.conv 19 p.dst 16 p.hdst hd⟩
set_option maxRecDepth 100000 in
set_option maxHeartbeats 1000000 in
theorem bytes_ok (p : Pk6) (v : Value) (w : World) (hx : Exs w v p.exts) (hs : Sm p) (hy : p.why = 0) (hid : 0 ≤ p.id ∧ p.id < 4294967296) :
    Calls Try.prog 15 #[.agg (p.vals v).toArray] w fun e w' => e = .returned (.tuple #[.string p.bytes, .nilIface]) ∧ Below w.heap.size w w' := by
  have ho := why_ok hy
  obtain ⟨c0, c1, f0, f1, h0, h1, r0, r1, p0, p1, p8⟩ := bnd_pl ho.bnd
  have hge := ge_all ho.kinds ho.form
  have hnx := heads_next ⟨r0, by omega⟩ hge
  have hzz := heads_size p
  have hzb := ho.behind
  obtain ⟨V, hV, hVl, hD, hK⟩ := boxed6 p v w
  have HIv : Hid ((Try.prog.info? 27).map (·.size) = some V.length) := Lib.hid (by rw [hV]; exact Try.info6 p _)
  have HR : Hid (∀ W, Below w.heap.size w W → Calls Try.prog 21 #[.agg V.toArray] W fun e w' => e = .returned (.int .i64 0) ∧ Below W.heap.size W w') := Lib.hid (fun W hW => by rw [hV, ← hy]; exact refusal_any p _ W (hx.below hW (Nat.le_refl _)) hs)
  have HH : Hid (∀ W, Below w.heap.size w W → Calls Try.prog 23 #[.agg V.toArray] W fun e w' => e = .returned (.tuple #[.int .i64 p.heads.1, .string p.heads.2]) ∧ Below W.heap.size W w') := Lib.hid (fun W hW => by
    rw [hV]
    cases hf : p.frag
    · exact heads_plain p _ W (hx.below hW (Nat.le_refl _)) hs.len ⟨r0, by omega⟩ hge hf
    · exact heads_frag p _ W (hx.below hW (Nat.le_refl _)) hs.len ⟨r0, by omega⟩ p0 p1 p8 hid hge hf)
  have A1 := Lib.hid (fun W => bigc4 p.word W (by unfold Pk6.word; omega) (by unfold Pk6.word; omega))
  have A2 := Lib.hid (fun W => bigc2 ((p.heads.2.size : Int) + (p.data.size : Int)) W (by omega) (by omega))
  have A3 := Lib.hid (fun W => bigc1 p.heads.1 W hnx.1 hnx.2)
  have A4 := Lib.hid (fun W => bigc1 p.hop W h0 (by omega))
  have HBy : Hid (p.bytes = strOfNums [p.word / 16777216, p.word / 65536 % 256, p.word / 256 % 256, p.word % 256] ++ strOfNums [((p.heads.2.size : Int) + (p.data.size : Int)) / 256, ((p.heads.2.size : Int) + (p.data.size : Int)) % 256] ++ strOfNums [p.heads.1] ++ strOfNums [p.hop] ++ strB p.fr ++ strB p.dst ++ p.heads.2 ++ p.data) := Lib.hid rfl
  have hw : p.word = 1610612736 + p.cls * 1048576 + p.flow := rfl
  have o1 := or_cls p.cls c0 c1
  have o2 := or_flow p.cls p.flow c0 c1 f0 f1
  rw [← hw] at o2
  have hv0 : V[0]? = some (.int .i64 p.cls) := by rw [hV]; rfl
  have hv1 : V[1]? = some (.int .i64 p.flow) := by rw [hV]; rfl
  have hv2 : V[2]? = some (.int .i64 p.hop) := by rw [hV]; rfl
  have hv41 : V[41]? = some (.string p.data) := by rw [hV]; exact vals_tail p _ 6
  have hvf : ∀ i x, (bytV p.fr)[i]? = some x → V[3 + i]? = some x := fun i x hh => by rw [hV]; exact vals_fr p _ i x hh
  have hvd : ∀ i x, (bytV p.dst)[i]? = some x → V[19 + i]? = some x := fun i x hh => by rw [hV]; exact vals_dst p _ i x hh
  rw [← hV]
  clear hV
  have HK0 := Lib.hid hK
  have hrg := hK.hd.range
  have HV := Lib.hid (fun (W : World) (h : Kp w w.heap.size [(w.heap.size, 27, V)] W) => kb_loads hv0 hv1 hv2 hv41 hvf hvd h)
  have zf := strB_size p.fr
  have zt := strB_size p.dst
  rw [p.hfr] at zf
  rw [p.hdst] at zt
  have hz1 : p.heads.2.size ≤ 65535 := by omega
  have hz2 : p.data.size ≤ 65535 := by omega
  have hcl : p.cls * 1048576 ≤ 267386880 := by omega
  have hc0 : 0 ≤ p.cls * 1048576 := by omega
  clear hK hD hs hx hy ho c1 f0 f1 h0 h1 r0 r1 p0 p1 p8 hge hnx hzz hzb hv0 hv1 hv2 hv41 hvf hvd hw hid
  generalize p.heads.2 = hb at *
  generalize p.heads.1 = nx at *
  generalize hw1 : w.alloc (.cells V.toArray 27) = w1 at *
  go_enter Try.func15, Try.ntmps15
  go_upto_region 1 with (fail)
  clear hw1
  go_wp2_with (refine wpList_load_mid rfl 27 _ rfl _ 0 rfl V _ hrg Try.underlying27 rfl HIv.out ?_)
  refine (HR.out _ HK0.out.2.1).mono ?_
  rintro e w2 ⟨rfl, b1⟩
  have HK1 := Lib.hid (HK0.out.below b1 (Nat.le_refl _))
  have hrg := HK1.out.hd.range
  clear b1 HK0
  go_wp2_with (refine wpList_load_mid rfl 27 _ rfl _ 0 rfl V _ hrg Try.underlying27 rfl HIv.out ?_)
  refine (HH.out _ HK1.out.2.1).mono ?_
  rintro e w3 ⟨rfl, b1⟩
  have HK2 := Lib.hid (HK1.out.below b1 (Nat.le_refl _))
  clear b1 HK1 hrg HR HH
  go_wp2_with fail
  have ks : IntKind.i64.wrap (p.cls * 1048576) = p.cls * 1048576 := IntWalk.i64_in _ (by omega)
  have kl : IntKind.i64.wrap ((hb.size : Int) + (p.data.size : Int)) = (hb.size : Int) + (p.data.size : Int) := IntWalk.i64_in _ (by omega)
  have zc := cat_len
  have zs := fun x : Int => (show (strOfNums [x]).size = 1 from rfl)
  have zd := fun x y : Int => (show (strOfNums [x, y]).size = 2 from rfl)
  have zq := fun x y z t : Int => (show (strOfNums [x, y, z, t]).size = 4 from rfl)
  have zo1 : ¬ 9223372036854775807 < 40 + hb.size := by omega
  have zo2 : ¬ 9223372036854775807 < 40 + hb.size + p.data.size := by omega
  refine wp_region_noPanic ?_
  refine wp_region_held_drew (S := fun w' => Kp w w.heap.size [(w.heap.size, 27, V)] w' ∧ w'.cell? ⟨w.heap.size, 0, none⟩ = some (.int .i64 p.cls) ∧ w'.cell? ⟨w.heap.size, 1, none⟩ = some (.int .i64 p.flow) ∧ w'.cell? ⟨w.heap.size, 2, none⟩ = some (.int .i64 p.hop) ∧ w'.cell? ⟨w.heap.size, 41, none⟩ = some (.string p.data) ∧ (convert 72 9 (.slice (some ⟨w.heap.size, 3, none⟩) 16 16)).run Try.prog w' = .ok (.string (strB p.fr)) w' ∧ (convert 72 9 (.slice (some ⟨w.heap.size, 19, none⟩) 16 16)).run Try.prog w' = .ok (.string (strB p.dst)) w') (by kernel_rfl) (HV.out _ HK2.out.drew) (fun hHeld => ?_)
  refine wpAnyH_take (i := 0) (oi := { dst := some 18, op := Op.fieldAddr 27 (Operand.tmp 1) 0, type := 0, pos := "ip6.go:48", after := #[], guard := none }) (v := ?_) rfl (by kernel_rfl) (by kernel_rfl) (by kernel_rfl) (fun _ _ _ h => h) (Or.inl ⟨by rfl, ?_⟩) (by assumption) ?_
  rotate_left
  · (intro ww hSw; (try dsimp only at hSw); go_simp; try with_reducible rfl)
  (try simp only [Act.put, List.setIfInBounds_toArray, List.set_cons_zero, List.set_cons_succ])
  refine wpAnyH_take (i := 1) (oi := { dst := some 19, op := Op.load 3 (Operand.tmp 18), type := 3, pos := "ip6.go:48", after := #[{ on := 0, ground := Ground.data }], guard := none }) (v := ?_) rfl (by kernel_rfl) (by kernel_rfl) (by kernel_rfl) (fun _ _ _ h => h) (Or.inl ⟨by rfl, ?_⟩) (by assumption) ?_
  rotate_left
  · (intro ww hSw; (try dsimp only at hSw); go_simp; try with_reducible rfl)
  (try simp only [Act.put, List.setIfInBounds_toArray, List.set_cons_zero, List.set_cons_succ])
  refine wpAnyH_take (i := 2) (oi := { dst := some 20, op := Op.binOp BinOp.shl 3 (Operand.tmp 19) (Operand.const (Value.int IntKind.u64 20)) 71, type := 3, pos := "ip6.go:48", after := #[{ on := 1, ground := Ground.data }], guard := none }) (v := ?_) rfl (by kernel_rfl) (by kernel_rfl) (by kernel_rfl) (fun _ _ _ h => h) (Or.inl ⟨by rfl, ?_⟩) (by assumption) ?_
  rotate_left
  · (intro ww hSw; (try dsimp only at hSw); go_simp; try with_reducible rfl)
  (try simp only [Act.put, List.setIfInBounds_toArray, List.set_cons_zero, List.set_cons_succ])
  refine wpAnyH_take (i := 3) (oi := { dst := some 21, op := Op.binOp BinOp.or 3 (Operand.const (Value.int IntKind.i64 1610612736)) (Operand.tmp 20) 3, type := 3, pos := "ip6.go:48", after := #[{ on := 2, ground := Ground.data }], guard := none }) (v := ?_) rfl (by kernel_rfl) (by kernel_rfl) (by kernel_rfl) (fun _ _ _ h => h) (Or.inl ⟨by rfl, ?_⟩) (by assumption) ?_
  rotate_left
  · (intro ww hSw; (try dsimp only at hSw); go_simp; try with_reducible rfl)
  (try simp only [Act.put, List.setIfInBounds_toArray, List.set_cons_zero, List.set_cons_succ])
  refine wpAnyH_take (i := 4) (oi := { dst := some 22, op := Op.fieldAddr 27 (Operand.tmp 1) 1, type := 0, pos := "ip6.go:48", after := #[], guard := none }) (v := ?_) rfl (by kernel_rfl) (by kernel_rfl) (by kernel_rfl) (fun _ _ _ h => h) (Or.inl ⟨by rfl, ?_⟩) (by assumption) ?_
  rotate_left
  · (intro ww hSw; (try dsimp only at hSw); go_simp; try with_reducible rfl)
  (try simp only [Act.put, List.setIfInBounds_toArray, List.set_cons_zero, List.set_cons_succ])
  refine wpAnyH_take (i := 5) (oi := { dst := some 23, op := Op.load 3 (Operand.tmp 22), type := 3, pos := "ip6.go:48", after := #[{ on := 4, ground := Ground.data }], guard := none }) (v := ?_) rfl (by kernel_rfl) (by kernel_rfl) (by kernel_rfl) (fun _ _ _ h => h) (Or.inl ⟨by rfl, ?_⟩) (by assumption) ?_
  rotate_left
  · (intro ww hSw; (try dsimp only at hSw); go_simp; try with_reducible rfl)
  (try simp only [Act.put, List.setIfInBounds_toArray, List.set_cons_zero, List.set_cons_succ])
  refine wpAnyH_take (i := 6) (oi := { dst := some 24, op := Op.binOp BinOp.or 3 (Operand.tmp 21) (Operand.tmp 23) 3, type := 3, pos := "ip6.go:48", after := #[{ on := 3, ground := Ground.data }, { on := 5, ground := Ground.data }], guard := none }) (v := ?_) rfl (by kernel_rfl) (by kernel_rfl) (by kernel_rfl) (fun _ _ _ h => h) (Or.inl ⟨by rfl, ?_⟩) (by assumption) ?_
  rotate_left
  · (intro ww hSw; (try dsimp only at hSw); go_simp; try with_reducible rfl)
  (try simp only [Act.put, List.setIfInBounds_toArray, List.set_cons_zero, List.set_cons_succ])
  refine wpAnyH_take (i := 8) (oi := { dst := some 26, op := Op.move (Operand.tmp 6), type := 9, pos := "ip6.go:48", after := #[], guard := none }) (v := ?_) rfl (by kernel_rfl) (by kernel_rfl) (by kernel_rfl) (fun _ _ _ h => h) (Or.inl ⟨by rfl, ?_⟩) (by assumption) ?_
  rotate_left
  · (intro ww hSw; (try dsimp only at hSw); go_simp; try with_reducible rfl)
  (try simp only [Act.put, List.setIfInBounds_toArray, List.set_cons_zero, List.set_cons_succ])
  refine wpAnyH_take (i := 9) (oi := { dst := some 27, op := Op.call { callee := Callee.builtin Builtin.len, args := #[Operand.tmp 26], argTypes := #[9] }, type := 3, pos := "ip6.go:48", after := #[{ on := 8, ground := Ground.data }], guard := none }) (v := ?_) rfl (by kernel_rfl) (by kernel_rfl) (by kernel_rfl) (fun _ _ _ h => h) (Or.inl ⟨by rfl, ?_⟩) (by assumption) ?_
  rotate_left
  · (intro ww hSw; (try dsimp only at hSw); go_simp; try with_reducible rfl)
  (try simp only [Act.put, List.setIfInBounds_toArray, List.set_cons_zero, List.set_cons_succ])
  refine wpAnyH_take (i := 10) (oi := { dst := some 28, op := Op.fieldAddr 27 (Operand.tmp 1) 11, type := 0, pos := "ip6.go:48", after := #[], guard := none }) (v := ?_) rfl (by kernel_rfl) (by kernel_rfl) (by kernel_rfl) (fun _ _ _ h => h) (Or.inl ⟨by rfl, ?_⟩) (by assumption) ?_
  rotate_left
  · (intro ww hSw; (try dsimp only at hSw); go_simp; try with_reducible rfl)
  (try simp only [Act.put, List.setIfInBounds_toArray, List.set_cons_zero, List.set_cons_succ])
  refine wpAnyH_take (i := 11) (oi := { dst := some 29, op := Op.load 9 (Operand.tmp 28), type := 9, pos := "ip6.go:48", after := #[{ on := 10, ground := Ground.data }], guard := none }) (v := ?_) rfl (by kernel_rfl) (by kernel_rfl) (by kernel_rfl) (fun _ _ _ h => h) (Or.inl ⟨by rfl, ?_⟩) (by assumption) ?_
  rotate_left
  · (intro ww hSw; (try dsimp only at hSw); go_simp; try with_reducible rfl)
  (try simp only [Act.put, List.setIfInBounds_toArray, List.set_cons_zero, List.set_cons_succ])
  refine wpAnyH_take (i := 12) (oi := { dst := some 30, op := Op.call { callee := Callee.builtin Builtin.len, args := #[Operand.tmp 29], argTypes := #[9] }, type := 3, pos := "ip6.go:48", after := #[{ on := 11, ground := Ground.data }], guard := none }) (v := ?_) rfl (by kernel_rfl) (by kernel_rfl) (by kernel_rfl) (fun _ _ _ h => h) (Or.inl ⟨by rfl, ?_⟩) (by assumption) ?_
  rotate_left
  · (intro ww hSw; (try dsimp only at hSw); go_simp; try with_reducible rfl)
  (try simp only [Act.put, List.setIfInBounds_toArray, List.set_cons_zero, List.set_cons_succ])
  refine wpAnyH_take (i := 13) (oi := { dst := some 31, op := Op.binOp BinOp.add 3 (Operand.tmp 27) (Operand.tmp 30) 3, type := 3, pos := "ip6.go:48", after := #[{ on := 9, ground := Ground.data }, { on := 12, ground := Ground.data }], guard := none }) (v := ?_) rfl (by kernel_rfl) (by kernel_rfl) (by kernel_rfl) (fun _ _ _ h => h) (Or.inl ⟨by rfl, ?_⟩) (by assumption) ?_
  rotate_left
  · (intro ww hSw; (try dsimp only at hSw); go_simp; try with_reducible rfl)
  (try simp only [Act.put, List.setIfInBounds_toArray, List.set_cons_zero, List.set_cons_succ])
  refine wpAnyH_take (i := 16) (oi := { dst := some 34, op := Op.move (Operand.tmp 5), type := 3, pos := "ip6.go:48", after := #[], guard := none }) (v := ?_) rfl (by kernel_rfl) (by kernel_rfl) (by kernel_rfl) (fun _ _ _ h => h) (Or.inl ⟨by rfl, ?_⟩) (by assumption) ?_
  rotate_left
  · (intro ww hSw; (try dsimp only at hSw); go_simp; try with_reducible rfl)
  (try simp only [Act.put, List.setIfInBounds_toArray, List.set_cons_zero, List.set_cons_succ])
  refine wpAnyH_take (i := 19) (oi := { dst := some 37, op := Op.fieldAddr 27 (Operand.tmp 1) 2, type := 0, pos := "ip6.go:48", after := #[], guard := none }) (v := ?_) rfl (by kernel_rfl) (by kernel_rfl) (by kernel_rfl) (fun _ _ _ h => h) (Or.inl ⟨by rfl, ?_⟩) (by assumption) ?_
  rotate_left
  · (intro ww hSw; (try dsimp only at hSw); go_simp; try with_reducible rfl)
  (try simp only [Act.put, List.setIfInBounds_toArray, List.set_cons_zero, List.set_cons_succ])
  refine wpAnyH_take (i := 20) (oi := { dst := some 38, op := Op.load 3 (Operand.tmp 37), type := 3, pos := "ip6.go:48", after := #[{ on := 19, ground := Ground.data }], guard := none }) (v := ?_) rfl (by kernel_rfl) (by kernel_rfl) (by kernel_rfl) (fun _ _ _ h => h) (Or.inl ⟨by rfl, ?_⟩) (by assumption) ?_
  rotate_left
  · (intro ww hSw; (try dsimp only at hSw); go_simp; try with_reducible rfl)
  (try simp only [Act.put, List.setIfInBounds_toArray, List.set_cons_zero, List.set_cons_succ])
  refine wpAnyH_take (i := 23) (oi := { dst := some 41, op := Op.fieldAddr 27 (Operand.tmp 1) 3, type := 0, pos := "ip6.go:48", after := #[], guard := none }) (v := ?_) rfl (by kernel_rfl) (by kernel_rfl) (by kernel_rfl) (fun _ _ _ h => h) (Or.inl ⟨by rfl, ?_⟩) (by assumption) ?_
  rotate_left
  · (intro ww hSw; (try dsimp only at hSw); go_simp; try with_reducible rfl)
  (try simp only [Act.put, List.setIfInBounds_toArray, List.set_cons_zero, List.set_cons_succ])
  refine wpAnyH_take (i := 24) (oi := { dst := some 42, op := Op.slice 23 (Operand.tmp 41) none none none, type := 72, pos := "ip6.go:48", after := #[{ on := 23, ground := Ground.data }], guard := none }) (v := ?_) rfl (by kernel_rfl) (by kernel_rfl) (by kernel_rfl) (fun _ _ _ h => h) (Or.inl ⟨by rfl, ?_⟩) (by assumption) ?_
  rotate_left
  · (intro ww hSw; (try dsimp only at hSw); go_simp; try with_reducible rfl)
  (try simp only [Act.put, List.setIfInBounds_toArray, List.set_cons_zero, List.set_cons_succ])
  refine wpAnyH_take (i := 25) (oi := { dst := some 43, op := Op.convert 72 9 (Operand.tmp 42), type := 9, pos := "ip6.go:48", after := #[{ on := 24, ground := Ground.data }], guard := none }) (v := ?_) rfl (by kernel_rfl) (by kernel_rfl) (by kernel_rfl) (fun _ _ _ h => h) (Or.inl ⟨by rfl, ?_⟩) (by assumption) ?_
  rotate_left
  · (intro ww hSw; (try dsimp only at hSw); go_simp; try with_reducible rfl)
  (try simp only [Act.put, List.setIfInBounds_toArray, List.set_cons_zero, List.set_cons_succ])
  refine wpAnyH_take (i := 27) (oi := { dst := some 45, op := Op.fieldAddr 27 (Operand.tmp 1) 4, type := 0, pos := "ip6.go:48", after := #[], guard := none }) (v := ?_) rfl (by kernel_rfl) (by kernel_rfl) (by kernel_rfl) (fun _ _ _ h => h) (Or.inl ⟨by rfl, ?_⟩) (by assumption) ?_
  rotate_left
  · (intro ww hSw; (try dsimp only at hSw); go_simp; try with_reducible rfl)
  (try simp only [Act.put, List.setIfInBounds_toArray, List.set_cons_zero, List.set_cons_succ])
  refine wpAnyH_take (i := 28) (oi := { dst := some 46, op := Op.slice 23 (Operand.tmp 45) none none none, type := 72, pos := "ip6.go:48", after := #[{ on := 27, ground := Ground.data }], guard := none }) (v := ?_) rfl (by kernel_rfl) (by kernel_rfl) (by kernel_rfl) (fun _ _ _ h => h) (Or.inl ⟨by rfl, ?_⟩) (by assumption) ?_
  rotate_left
  · (intro ww hSw; (try dsimp only at hSw); go_simp; try with_reducible rfl)
  (try simp only [Act.put, List.setIfInBounds_toArray, List.set_cons_zero, List.set_cons_succ])
  refine wpAnyH_take (i := 29) (oi := { dst := some 47, op := Op.convert 72 9 (Operand.tmp 46), type := 9, pos := "ip6.go:48", after := #[{ on := 28, ground := Ground.data }], guard := none }) (v := ?_) rfl (by kernel_rfl) (by kernel_rfl) (by kernel_rfl) (fun _ _ _ h => h) (Or.inl ⟨by rfl, ?_⟩) (by assumption) ?_
  rotate_left
  · (intro ww hSw; (try dsimp only at hSw); go_simp; try with_reducible rfl)
  (try simp only [Act.put, List.setIfInBounds_toArray, List.set_cons_zero, List.set_cons_succ])
  refine wpAnyH_take (i := 31) (oi := { dst := some 49, op := Op.move (Operand.tmp 6), type := 9, pos := "ip6.go:48", after := #[], guard := none }) (v := ?_) rfl (by kernel_rfl) (by kernel_rfl) (by kernel_rfl) (fun _ _ _ h => h) (Or.inl ⟨by rfl, ?_⟩) (by assumption) ?_
  rotate_left
  · (intro ww hSw; (try dsimp only at hSw); go_simp; try with_reducible rfl)
  (try simp only [Act.put, List.setIfInBounds_toArray, List.set_cons_zero, List.set_cons_succ])
  refine wpAnyH_take (i := 33) (oi := { dst := some 51, op := Op.fieldAddr 27 (Operand.tmp 1) 11, type := 0, pos := "ip6.go:48", after := #[], guard := none }) (v := ?_) rfl (by kernel_rfl) (by kernel_rfl) (by kernel_rfl) (fun _ _ _ h => h) (Or.inl ⟨by rfl, ?_⟩) (by assumption) ?_
  rotate_left
  · (intro ww hSw; (try dsimp only at hSw); go_simp; try with_reducible rfl)
  (try simp only [Act.put, List.setIfInBounds_toArray, List.set_cons_zero, List.set_cons_succ])
  refine wpAnyH_take (i := 34) (oi := { dst := some 52, op := Op.load 9 (Operand.tmp 51), type := 9, pos := "ip6.go:48", after := #[{ on := 33, ground := Ground.data }], guard := none }) (v := ?_) rfl (by kernel_rfl) (by kernel_rfl) (by kernel_rfl) (fun _ _ _ h => h) (Or.inl ⟨by rfl, ?_⟩) (by assumption) ?_
  rotate_left
  · (intro ww hSw; (try dsimp only at hSw); go_simp; try with_reducible rfl)
  (try simp only [Act.put, List.setIfInBounds_toArray, List.set_cons_zero, List.set_cons_succ])
  refine wpAnyH_ready (rs := [7]) (by kernel_rfl) (by simp) ?_
  refine AllReadyH.cons (o := { dst := some 25, op := Op.call { callee := Callee.value (Operand.func 24), args := #[Operand.tmp 24, Operand.const (Value.int IntKind.i64 4)], argTypes := #[3, 3] }, type := 9, pos := "ip6.go:48", after := #[{ on := 6, ground := Ground.data }], guard := none }) rfl (fun K hK => ?_) AllReadyH.nil
  go_simp
  ((with_reducible refine (A1.out _).mono ?_); rintro e w9 ⟨rfl, hb9⟩)
  refine hK.out _ _ (HV.out _ ((And.left hHeld).below hb9 (Nat.le_refl _))) (fun hHeld => ?_)
  clear hK K
  (try simp only [Act.put, List.setIfInBounds_toArray, List.set_cons_zero, List.set_cons_succ])
  refine wpAnyH_ready (rs := [14]) (by kernel_rfl) (by simp) ?_
  refine AllReadyH.cons (o := { dst := some 32, op := Op.call { callee := Callee.value (Operand.func 24), args := #[Operand.tmp 31, Operand.const (Value.int IntKind.i64 2)], argTypes := #[3, 3] }, type := 9, pos := "ip6.go:48", after := #[{ on := 13, ground := Ground.data }, { on := 7, ground := Ground.chain }], guard := none }) rfl (fun K hK => ?_) AllReadyH.nil
  go_simp
  ((with_reducible refine (A2.out _).mono ?_); rintro e w9 ⟨rfl, hb9⟩)
  refine hK.out _ _ (HV.out _ ((And.left hHeld).below hb9 (Nat.le_refl _))) (fun hHeld => ?_)
  clear hK K
  (try simp only [Act.put, List.setIfInBounds_toArray, List.set_cons_zero, List.set_cons_succ])
  refine wpAnyH_take (i := 15) (oi := { dst := some 33, op := Op.binOp BinOp.add 9 (Operand.tmp 25) (Operand.tmp 32) 9, type := 9, pos := "ip6.go:48", after := #[{ on := 7, ground := Ground.data }, { on := 14, ground := Ground.data }], guard := none }) (v := ?_) rfl (by kernel_rfl) (by kernel_rfl) (by kernel_rfl) (fun _ _ _ h => h) (Or.inl ⟨by rfl, ?_⟩) (by assumption) ?_
  rotate_left
  · (intro ww hSw; (try dsimp only at hSw); go_simp; try with_reducible rfl)
  (try simp only [Act.put, List.setIfInBounds_toArray, List.set_cons_zero, List.set_cons_succ])
  refine wpAnyH_ready (rs := [17]) (by kernel_rfl) (by simp) ?_
  refine AllReadyH.cons (o := { dst := some 35, op := Op.call { callee := Callee.value (Operand.func 24), args := #[Operand.tmp 34, Operand.const (Value.int IntKind.i64 1)], argTypes := #[3, 3] }, type := 9, pos := "ip6.go:49", after := #[{ on := 16, ground := Ground.data }, { on := 14, ground := Ground.chain }], guard := none }) rfl (fun K hK => ?_) AllReadyH.nil
  go_simp
  ((with_reducible refine (A3.out _).mono ?_); rintro e w9 ⟨rfl, hb9⟩)
  refine hK.out _ _ (HV.out _ ((And.left hHeld).below hb9 (Nat.le_refl _))) (fun hHeld => ?_)
  clear hK K
  (try simp only [Act.put, List.setIfInBounds_toArray, List.set_cons_zero, List.set_cons_succ])
  refine wpAnyH_take (i := 18) (oi := { dst := some 36, op := Op.binOp BinOp.add 9 (Operand.tmp 33) (Operand.tmp 35) 9, type := 9, pos := "ip6.go:48", after := #[{ on := 15, ground := Ground.data }, { on := 17, ground := Ground.data }], guard := none }) (v := ?_) rfl (by kernel_rfl) (by kernel_rfl) (by kernel_rfl) (fun _ _ _ h => h) (Or.inl ⟨by rfl, ?_⟩) (by assumption) ?_
  rotate_left
  · (intro ww hSw; (try dsimp only at hSw); go_simp; try with_reducible rfl)
  (try simp only [Act.put, List.setIfInBounds_toArray, List.set_cons_zero, List.set_cons_succ])
  refine wpAnyH_ready (rs := [21]) (by kernel_rfl) (by simp) ?_
  refine AllReadyH.cons (o := { dst := some 39, op := Op.call { callee := Callee.value (Operand.func 24), args := #[Operand.tmp 38, Operand.const (Value.int IntKind.i64 1)], argTypes := #[3, 3] }, type := 9, pos := "ip6.go:49", after := #[{ on := 20, ground := Ground.data }, { on := 17, ground := Ground.chain }], guard := none }) rfl (fun K hK => ?_) AllReadyH.nil
  go_simp
  ((with_reducible refine (A4.out _).mono ?_); rintro e w9 ⟨rfl, hb9⟩)
  refine hK.out _ _ (HV.out _ ((And.left hHeld).below hb9 (Nat.le_refl _))) (fun hHeld => ?_)
  clear hK K
  (try simp only [Act.put, List.setIfInBounds_toArray, List.set_cons_zero, List.set_cons_succ])
  refine wpAnyH_take (i := 22) (oi := { dst := some 40, op := Op.binOp BinOp.add 9 (Operand.tmp 36) (Operand.tmp 39) 9, type := 9, pos := "ip6.go:48", after := #[{ on := 18, ground := Ground.data }, { on := 21, ground := Ground.data }], guard := none }) (v := ?_) rfl (by kernel_rfl) (by kernel_rfl) (by kernel_rfl) (fun _ _ _ h => h) (Or.inl ⟨by rfl, ?_⟩) (by assumption) ?_
  rotate_left
  · (intro ww hSw; (try dsimp only at hSw); go_simp; try with_reducible rfl)
  (try simp only [Act.put, List.setIfInBounds_toArray, List.set_cons_zero, List.set_cons_succ])
  refine wpAnyH_take (i := 26) (oi := { dst := some 44, op := Op.binOp BinOp.add 9 (Operand.tmp 40) (Operand.tmp 43) 9, type := 9, pos := "ip6.go:48", after := #[{ on := 22, ground := Ground.data }, { on := 25, ground := Ground.data }], guard := none }) (v := ?_) rfl (by kernel_rfl) (by kernel_rfl) (by kernel_rfl) (fun _ _ _ h => h) (Or.inl ⟨by rfl, ?_⟩) (by assumption) ?_
  rotate_left
  · (intro ww hSw; (try dsimp only at hSw); go_simp; try with_reducible rfl)
  (try simp only [Act.put, List.setIfInBounds_toArray, List.set_cons_zero, List.set_cons_succ])
  refine wpAnyH_take (i := 30) (oi := { dst := some 48, op := Op.binOp BinOp.add 9 (Operand.tmp 44) (Operand.tmp 47) 9, type := 9, pos := "ip6.go:48", after := #[{ on := 26, ground := Ground.data }, { on := 29, ground := Ground.data }], guard := none }) (v := ?_) rfl (by kernel_rfl) (by kernel_rfl) (by kernel_rfl) (fun _ _ _ h => h) (Or.inl ⟨by rfl, ?_⟩) (by assumption) ?_
  rotate_left
  · (intro ww hSw; (try dsimp only at hSw); go_simp; try with_reducible rfl)
  (try simp only [Act.put, List.setIfInBounds_toArray, List.set_cons_zero, List.set_cons_succ])
  refine wpAnyH_take (i := 32) (oi := { dst := some 50, op := Op.binOp BinOp.add 9 (Operand.tmp 48) (Operand.tmp 49) 9, type := 9, pos := "ip6.go:48", after := #[{ on := 30, ground := Ground.data }, { on := 31, ground := Ground.data }], guard := none }) (v := ?_) rfl (by kernel_rfl) (by kernel_rfl) (by kernel_rfl) (fun _ _ _ h => h) (Or.inl ⟨by rfl, ?_⟩) (by assumption) ?_
  rotate_left
  · (intro ww hSw; (try dsimp only at hSw); go_simp; try with_reducible rfl)
  (try simp only [Act.put, List.setIfInBounds_toArray, List.set_cons_zero, List.set_cons_succ])
  refine wpAnyH_take (i := 35) (oi := { dst := some 53, op := Op.binOp BinOp.add 9 (Operand.tmp 50) (Operand.tmp 52) 9, type := 9, pos := "ip6.go:48", after := #[{ on := 32, ground := Ground.data }, { on := 34, ground := Ground.data }], guard := none }) (v := ?_) rfl (by kernel_rfl) (by kernel_rfl) (by kernel_rfl) (fun _ _ _ h => h) (Or.inl ⟨by rfl, ?_⟩) (by assumption) ?_
  rotate_left
  · (intro ww hSw; (try dsimp only at hSw); go_simp; try with_reducible rfl)
  (try simp only [Act.put, List.setIfInBounds_toArray, List.set_cons_zero, List.set_cons_succ])
  refine wpAnyH_take (i := 36) (oi := { dst := some 2, op := Op.assign (Operand.tmp 53), type := 9, pos := "ip6.go:48", after := #[{ on := 35, ground := Ground.data }, { on := 21, ground := Ground.chain }, { on := 0, ground := Ground.phase }, { on := 1, ground := Ground.phase }, { on := 2, ground := Ground.phase }, { on := 3, ground := Ground.phase }, { on := 4, ground := Ground.phase }, { on := 5, ground := Ground.phase }, { on := 6, ground := Ground.phase }, { on := 7, ground := Ground.phase }, { on := 8, ground := Ground.phase }, { on := 9, ground := Ground.phase }, { on := 10, ground := Ground.phase }, { on := 11, ground := Ground.phase }, { on := 12, ground := Ground.phase }, { on := 13, ground := Ground.phase }, { on := 14, ground := Ground.phase }, { on := 15, ground := Ground.phase }, { on := 16, ground := Ground.phase }, { on := 17, ground := Ground.phase }, { on := 18, ground := Ground.phase }, { on := 19, ground := Ground.phase }, { on := 20, ground := Ground.phase }, { on := 21, ground := Ground.phase }, { on := 22, ground := Ground.phase }, { on := 23, ground := Ground.phase }, { on := 24, ground := Ground.phase }, { on := 25, ground := Ground.phase }, { on := 26, ground := Ground.phase }, { on := 27, ground := Ground.phase }, { on := 28, ground := Ground.phase }, { on := 29, ground := Ground.phase }, { on := 30, ground := Ground.phase }, { on := 31, ground := Ground.phase }, { on := 32, ground := Ground.phase }, { on := 33, ground := Ground.phase }, { on := 34, ground := Ground.phase }, { on := 35, ground := Ground.phase }], guard := none }) (v := ?_) rfl (by kernel_rfl) (by kernel_rfl) (by kernel_rfl) (fun _ _ _ h => h) (Or.inl ⟨by rfl, ?_⟩) (by assumption) ?_
  rotate_left
  · (intro ww hSw; (try dsimp only at hSw); go_simp; try with_reducible rfl)
  (try simp only [Act.put, List.setIfInBounds_toArray, List.set_cons_zero, List.set_cons_succ])
  refine wpAnyH_take (i := 37) (oi := { dst := some 3, op := Op.assign (Operand.const Value.nilIface), type := 29, pos := "ip6.go:48", after := #[{ on := 36, ground := Ground.chain }, { on := 0, ground := Ground.phase }, { on := 1, ground := Ground.phase }, { on := 2, ground := Ground.phase }, { on := 3, ground := Ground.phase }, { on := 4, ground := Ground.phase }, { on := 5, ground := Ground.phase }, { on := 6, ground := Ground.phase }, { on := 7, ground := Ground.phase }, { on := 8, ground := Ground.phase }, { on := 9, ground := Ground.phase }, { on := 10, ground := Ground.phase }, { on := 11, ground := Ground.phase }, { on := 12, ground := Ground.phase }, { on := 13, ground := Ground.phase }, { on := 14, ground := Ground.phase }, { on := 15, ground := Ground.phase }, { on := 16, ground := Ground.phase }, { on := 17, ground := Ground.phase }, { on := 18, ground := Ground.phase }, { on := 19, ground := Ground.phase }, { on := 20, ground := Ground.phase }, { on := 21, ground := Ground.phase }, { on := 22, ground := Ground.phase }, { on := 23, ground := Ground.phase }, { on := 24, ground := Ground.phase }, { on := 25, ground := Ground.phase }, { on := 26, ground := Ground.phase }, { on := 27, ground := Ground.phase }, { on := 28, ground := Ground.phase }, { on := 29, ground := Ground.phase }, { on := 30, ground := Ground.phase }, { on := 31, ground := Ground.phase }, { on := 32, ground := Ground.phase }, { on := 33, ground := Ground.phase }, { on := 34, ground := Ground.phase }, { on := 35, ground := Ground.phase }, { on := 36, ground := Ground.phase }], guard := none }) (v := ?_) rfl (by kernel_rfl) (by kernel_rfl) (by kernel_rfl) (fun _ _ _ h => h) (Or.inl ⟨by rfl, ?_⟩) (by assumption) ?_
  rotate_left
  · (intro ww hSw; (try dsimp only at hSw); go_simp; try with_reducible rfl)
  (try simp only [Act.put, List.setIfInBounds_toArray, List.set_cons_zero, List.set_cons_succ])
  refine wpAnyH_done (by kernel_rfl) ?_ _
  refine NoPanic.normal ?_
  have hf2 := (And.left hHeld).2.1
  have HE := Lib.hid hf2
  clear hf2 hHeld ks kl zc zs zd zq zo1 zo2 zf zt
  go_wp2_with fail
  go_ret2
  rw [HBy.out]
  exact ⟨rfl, HE.out⟩
end Go.Proofs.Ytdljjcnihajchaa
