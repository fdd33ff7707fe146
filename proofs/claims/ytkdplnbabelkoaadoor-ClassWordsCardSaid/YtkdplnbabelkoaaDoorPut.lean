/-
  Proved here: what the program's put does.
  Conditions: an address's block, at most eight groups.
-/
import Derived.Test.YtkdplnbabelkoaaDoorGrp
namespace Go.Proofs.YtkdplnbabelkoaaDoor
open Go.RowKit

/-- The first groups put from one of them on. -/
def gput (A : List Int) (fr : Nat) (N : List Int) : Nat → List Int
  | 0 => A
  | k + 1 => ((gput A fr N k).set (2 * (fr + k)) (N.getD k 0 / 256)).set (2 * (fr + k) + 1) (N.getD k 0 % 256)
theorem gput_len (A : List Int) (fr : Nat) (N : List Int) (k : Nat) : (gput A fr N k).length = A.length := by
  induction k with
  | zero => rfl
  | succ k ih => unfold gput; rw [List.length_set, List.length_set, ih]
/-- What is kept beside an address that is written. -/
def PS (w0 : World) (B : Nat) (l : List (Nat × TypeId × List Value)) (b : Nat) (w w' : World) : Prop := Kp w0 B l w' ∧ ∀ g x, g ≠ b → IntC g x w → IntC g x w'
theorem PS.start {w0 w : World} {B b : Nat} {l : List (Nat × TypeId × List Value)} (h : Kp w0 B l w) : PS w0 B l b w w := ⟨h, fun _ _ _ hx => hx⟩
theorem PS.drew {w0 w w' : World} {B b : Nat} {l : List (Nat × TypeId × List Value)} (h : PS w0 B l b w w') : PS w0 B l b w w'.drew := ⟨h.1.drew, h.2⟩
theorem PS.set9 {w0 w w' : World} {B b : Nat} {l : List (Nat × TypeId × List Value)} (h : PS w0 B l b w w'.drew) (hne : ∀ x ∈ l, x.1 ≠ b) (hB : B ≤ b) (i : Nat) (v : Value) : PS w0 B l b w (w'.setCell ⟨b, i, none⟩ v).drew :=
  ⟨(h.1.set hne hB i v : Kp w0 B l (w'.drew.setCell ⟨b, i, none⟩ v)), fun g x hg hx => ((h.2 g x hg hx).set hg i v : IntC g x (w'.drew.setCell ⟨b, i, none⟩ v))⟩
theorem bk_set9 {w : World} {b : Nat} {T : TypeId} {l : List Int} (h : Bk w.drew b T (b8 l).toArray) (i : Nat) (v : Int) : Bk (w.setCell ⟨b, i, none⟩ (.int .u8 v)).drew b T (b8 (l.set i v)).toArray := by
  have h2 := h.set i (.int .u8 v)
  rw [b8_set]
  rw [List.setIfInBounds_toArray] at h2
  exact h2
theorem u8_mod (x : Int) : IntKind.u8.wrap x = x % 256 := by
  unfold IntKind.wrap IntKind.bits IntKind.signed
  simp
theorem u8_wrap (x : Int) (h0 : 0 ≤ x) (h1 : x < 256) : IntKind.u8.wrap x = x := by
  unfold IntKind.wrap IntKind.bits IntKind.signed
  simp
  omega
set_option maxRecDepth 100000 in
set_option maxHeartbeats 4000000 in
theorem put_any (b : Nat) (A : List Int) (fr : Nat) (ns : List Nat) (v : Value) (w0 w : World) (B B1 : Nat) (l : List (Nat × TypeId × List Value)) (hK : Kp w0 B ((b, 24, b8 A) :: l) w) (hA : A.length = 16) (hne : ∀ x ∈ l, x.1 ≠ b) (hB : B ≤ b) (hfr : fr + ns.length ≤ 8) (hv : SlI B1 v ns w) (hgb : ∀ g cap, v = .slice (some ⟨g, 0, none⟩) ns.length cap → ns ≠ [] → g ≠ b) :
    Calls Tryd.prog 45 #[.pointer (some ⟨b, 0, none⟩), .int .i64 (fr : Int), v] w fun e w' => e = .returned (.tuple #[]) ∧ Kp w0 B ((b, 24, b8 (gput A fr (ints' ns) ns.length)) :: l) w' ∧ ∀ g x, g ≠ b → IntC g x w → IntC g x w' := by
  have HF := Lib.hid hfr
  have HA := Lib.hid hA
  have Hne := Lib.hid hne
  have HB := Lib.hid hB
  have HPS0 := Lib.hid (PS.start (b := b) hK.tl)
  have HBk0 := Lib.hid hK.hd
  clear hfr hA hne hB hK
  rcases hv with ⟨rfl, rfl⟩ | ⟨g, cap, rfl, hg, hic, hns⟩
  · have HX : Hid (∀ W, PS w0 B l b w W → Bk W b 24 (b8 A).toArray → Kp w0 B ((b, 24, b8 (gput A fr (ints' []) ([] : List Nat).length)) :: l) W ∧ ∀ g x, g ≠ b → IntC g x w → IntC g x W) := Lib.hid (fun W h1 h2 => ⟨kp_cons h2 h1.1, h1.2⟩)
    go_enter Tryd.func45, Tryd.ntmps45
    go_wp2_with fail
    go_loopw [11] (fun i wr => i = .int .i64 0 ∧ PS w0 B l b w wr ∧ Bk wr b 24 (b8 A).toArray) (fun _ _ => 0)
    case atStart => exact ⟨rfl, HPS0.out, HBk0.out⟩
    case round =>
      obtain ⟨rfl, hP, hk⟩ := hrel
      have HX2 := Lib.hid (HX.out wr hP hk)
      clear hP hk
      go_wp2_with fail
      go_end0
      exact ⟨rfl, HX2.out⟩
  · have hl : (ints' ns).length = ns.length := by simp [ints']
    have HGb : Hid (ns ≠ [] → g ≠ b) := Lib.hid (hgb g cap rfl)
    have HIn : Hid (∀ i, i < ns.length → 0 ≤ (ints' ns).getD i 0 ∧ (ints' ns).getD i 0 < 65536) := Lib.hid (fun i hi => by
      have hl2 : i < (ints' ns).length := by rw [hl]; exact hi
      rw [List.getD_eq_getElem?_getD, List.getElem?_eq_getElem hl2]
      have hm := List.getElem_mem hl2
      unfold ints' at hm
      rw [List.mem_map] at hm
      obtain ⟨n, hn, he⟩ := hm
      have := hns n hn
      show 0 ≤ (ints' ns)[i] ∧ (ints' ns)[i] < 65536
      have he2 : (ints' ns)[i] = (n : Int) := he.symm
      omega)
    have HIc := Lib.hid hic
    have HNl := Lib.hid hl
    clear hns hic hg hgb hl
    have hF := HF.out
    go_enter Tryd.func45, Tryd.ntmps45
    go_wp2_with fail
    go_loopw [11] (fun i wr => ∃ k : Nat, k ≤ ns.length ∧ i = .int .i64 k ∧ PS w0 B l b w wr ∧ Bk wr b 24 (b8 (gput A fr (ints' ns) k)).toArray) (fun i _ => ns.length - (intOf i).toNat)
    case atStart => exact ⟨0, Nat.zero_le _, rfl, HPS0.out, HBk0.out⟩
    case round =>
      obtain ⟨k, hk, rfl, hP, hb⟩ := hrel
      have HP := Lib.hid hP
      have HBk := Lib.hid hb
      clear hP hb HPS0 HBk0
      by_cases hlt : k < ns.length
      · have il : ((k : Nat) : Int) < (ns.length : Int) := by omega
        have ci := HP.out.2 g (ints' ns) (HGb.out (fun h => by rw [h] at hlt; exact absurd hlt (Nat.not_lt_zero _))) HIc.out k (by rw [HNl.out]; exact hlt)
        obtain ⟨hx0, hx9⟩ := HIn.out k hlt
        have HGp : Hid (gput A fr (ints' ns) (k + 1) = ((gput A fr (ints' ns) k).set (2 * (fr + k)) ((ints' ns).getD k 0 / 256)).set (2 * (fr + k) + 1) ((ints' ns).getD k 0 % 256)) := Lib.hid rfl
        have HGl := Lib.hid (gput_len A fr (ints' ns) k)
        generalize hG2 : gput A fr (ints' ns) (k + 1) = G2 at *
        have HG2 := Lib.hid hG2
        clear hG2
        generalize gput A fr (ints' ns) k = G at *
        generalize (ints' ns).getD k 0 = x at *
        have ku1 := u8_wrap (x / 256) (by omega) (by omega)
        have ku2 := u8_mod x
        have j16 : (fr : Int) + ((k : Nat) : Int) < 8 := by omega
        obtain ⟨p, hp⟩ : ∃ p, p = 2 * (fr + k) := ⟨_, rfl⟩
        have eq1 : 2 * ((fr : Int) + ((k : Nat) : Int)) = (p : Int) := by omega
        rw [← hp] at HGp
        obtain ⟨p1, hp1⟩ : ∃ p1, p1 = p + 1 := ⟨_, rfl⟩
        have hw1 : IntKind.i64.wrap ((p : Int) + 1) = (p1 : Int) := by unfold IntKind.wrap IntKind.bits IntKind.signed; simp; omega
        rw [← hp1] at HGp
        have p16 : (p : Int) < 16 := by omega
        have p17 : (p1 : Int) < 16 := by omega
        have HPp : Hid (p < 16 ∧ p1 < 16) := Lib.hid (by omega)
        have HAl : Hid (G.length = 16) := Lib.hid (HGl.out.trans HA.out)
        clear hp hF hp1
        go_upto_region 4 with (fail)
        have hy0 : Bk wr.drew b 24 (b8 G).toArray := HBk.out
        refine wp_region_noPanic ?_
        refine wp_region_held_drew (S := fun w' => PS w0 B l b w w') (by kernel_rfl) (HP.out.drew) (fun hHeld => ?_)
        refine wpAnyH_take (i := 0) (oi := { dst := some 20, op := Op.move (Operand.tmp 0), type := 72, pos := "class.go:155", after := #[], guard := none }) (v := ?_) rfl (by kernel_rfl) (by kernel_rfl) (by kernel_rfl) (fun _ _ _ h => h) (Or.inl ⟨by rfl, ?_⟩) (by assumption) ?_
        rotate_left
        · (intro ww hSw; (try dsimp only at hSw); go_simp; try with_reducible rfl)
        (try simp only [Act.put, List.setIfInBounds_toArray, List.set_cons_zero, List.set_cons_succ])
        refine wpAnyH_take (i := 1) (oi := { dst := some 21, op := Op.move (Operand.tmp 8), type := 3, pos := "class.go:155", after := #[], guard := none }) (v := ?_) rfl (by kernel_rfl) (by kernel_rfl) (by kernel_rfl) (fun _ _ _ h => h) (Or.inl ⟨by rfl, ?_⟩) (by assumption) ?_
        rotate_left
        · (intro ww hSw; (try dsimp only at hSw); go_simp; try with_reducible rfl)
        (try simp only [Act.put, List.setIfInBounds_toArray, List.set_cons_zero, List.set_cons_succ])
        refine wpAnyH_take (i := 2) (oi := { dst := some 22, op := Op.move (Operand.tmp 0), type := 72, pos := "class.go:155", after := #[{ on := 12, ground := Ground.gcOnly Departure.lateStores }], guard := none }) (v := ?_) rfl (by kernel_rfl) (by kernel_rfl) (by kernel_rfl) (fun _ _ _ h => h) (Or.inl ⟨by rfl, ?_⟩) (by assumption) ?_
        rotate_left
        · (intro ww hSw; (try dsimp only at hSw); go_simp; try with_reducible rfl)
        (try simp only [Act.put, List.setIfInBounds_toArray, List.set_cons_zero, List.set_cons_succ])
        refine wpAnyH_take (i := 3) (oi := { dst := some 23, op := Op.move (Operand.tmp 8), type := 3, pos := "class.go:155", after := #[{ on := 12, ground := Ground.gcOnly Departure.lateStores }], guard := none }) (v := ?_) rfl (by kernel_rfl) (by kernel_rfl) (by kernel_rfl) (fun _ _ _ h => h) (Or.inl ⟨by rfl, ?_⟩) (by assumption) ?_
        rotate_left
        · (intro ww hSw; (try dsimp only at hSw); go_simp; try with_reducible rfl)
        (try simp only [Act.put, List.setIfInBounds_toArray, List.set_cons_zero, List.set_cons_succ])
        refine wpAnyH_take (i := 4) (oi := { dst := some 24, op := Op.binOp BinOp.add 3 (Operand.tmp 23) (Operand.const (Value.int IntKind.i64 1)) 3, type := 3, pos := "class.go:155", after := #[{ on := 3, ground := Ground.data }, { on := 12, ground := Ground.gcOnly Departure.lateStores }], guard := none }) (v := ?_) rfl (by kernel_rfl) (by kernel_rfl) (by kernel_rfl) (fun _ _ _ h => h) (Or.inl ⟨by rfl, ?_⟩) (by assumption) ?_
        rotate_left
        · (intro ww hSw; (try dsimp only at hSw); go_simp; try with_reducible rfl)
        (try simp only [Act.put, List.setIfInBounds_toArray, List.set_cons_zero, List.set_cons_succ])
        refine wpAnyH_take (i := 5) (oi := { dst := some 25, op := Op.move (Operand.tmp 7), type := 3, pos := "class.go:155", after := #[], guard := none }) (v := ?_) rfl (by kernel_rfl) (by kernel_rfl) (by kernel_rfl) (fun _ _ _ h => h) (Or.inl ⟨by rfl, ?_⟩) (by assumption) ?_
        rotate_left
        · (intro ww hSw; (try dsimp only at hSw); go_simp; try with_reducible rfl)
        (try simp only [Act.put, List.setIfInBounds_toArray, List.set_cons_zero, List.set_cons_succ])
        refine wpAnyH_take (i := 6) (oi := { dst := some 26, op := Op.binOp BinOp.shr 3 (Operand.tmp 25) (Operand.const (Value.int IntKind.u64 8)) 47, type := 3, pos := "class.go:155", after := #[{ on := 5, ground := Ground.data }], guard := none }) (v := ?_) rfl (by kernel_rfl) (by kernel_rfl) (by kernel_rfl) (fun _ _ _ h => h) (Or.inl ⟨by rfl, ?_⟩) (by assumption) ?_
        rotate_left
        · (intro ww hSw; (try dsimp only at hSw); go_simp; try with_reducible rfl)
        (try simp only [Act.put, List.setIfInBounds_toArray, List.set_cons_zero, List.set_cons_succ])
        refine wpAnyH_take (i := 7) (oi := { dst := some 27, op := Op.convert 3 5 (Operand.tmp 26), type := 5, pos := "class.go:155", after := #[{ on := 6, ground := Ground.data }], guard := none }) (v := ?_) rfl (by kernel_rfl) (by kernel_rfl) (by kernel_rfl) (fun _ _ _ h => h) (Or.inl ⟨by rfl, ?_⟩) (by assumption) ?_
        rotate_left
        · (intro ww hSw; (try dsimp only at hSw); go_simp; try with_reducible rfl)
        (try simp only [Act.put, List.setIfInBounds_toArray, List.set_cons_zero, List.set_cons_succ])
        refine wpAnyH_take (i := 8) (oi := { dst := some 28, op := Op.move (Operand.tmp 7), type := 3, pos := "class.go:155", after := #[{ on := 12, ground := Ground.gcOnly Departure.lateStores }], guard := none }) (v := ?_) rfl (by kernel_rfl) (by kernel_rfl) (by kernel_rfl) (fun _ _ _ h => h) (Or.inl ⟨by rfl, ?_⟩) (by assumption) ?_
        rotate_left
        · (intro ww hSw; (try dsimp only at hSw); go_simp; try with_reducible rfl)
        (try simp only [Act.put, List.setIfInBounds_toArray, List.set_cons_zero, List.set_cons_succ])
        refine wpAnyH_take (i := 9) (oi := { dst := some 29, op := Op.convert 3 5 (Operand.tmp 28), type := 5, pos := "class.go:155", after := #[{ on := 8, ground := Ground.data }, { on := 12, ground := Ground.gcOnly Departure.lateStores }], guard := none }) (v := ?_) rfl (by kernel_rfl) (by kernel_rfl) (by kernel_rfl) (fun _ _ _ h => h) (Or.inl ⟨by rfl, ?_⟩) (by assumption) ?_
        rotate_left
        · (intro ww hSw; (try dsimp only at hSw); go_simp; try with_reducible rfl)
        (try simp only [Act.put, List.setIfInBounds_toArray, List.set_cons_zero, List.set_cons_succ])
        refine wpAnyH_take (i := 10) (oi := { dst := some 30, op := Op.nilCheck (Operand.tmp 20), type := 0, pos := "class.go:155", after := #[{ on := 0, ground := Ground.data }], guard := none }) (v := ?_) rfl (by kernel_rfl) (by kernel_rfl) (by kernel_rfl) (fun _ _ _ h => h) (Or.inl ⟨by rfl, ?_⟩) (by assumption) ?_
        rotate_left
        · (intro ww hSw; (try dsimp only at hSw); go_simp; try with_reducible rfl)
        (try simp only [Act.put, List.setIfInBounds_toArray, List.set_cons_zero, List.set_cons_succ])
        refine wpAnyH_take (i := 11) (oi := { dst := some 31, op := Op.indexAddr 24 (Operand.tmp 30) (Operand.tmp 21), type := 0, pos := "class.go:155", after := #[{ on := 10, ground := Ground.data }, { on := 1, ground := Ground.data }, { on := 0, ground := Ground.phase }, { on := 1, ground := Ground.phase }, { on := 2, ground := Ground.textOnly Departure.lateStores }, { on := 3, ground := Ground.textOnly Departure.lateStores }, { on := 4, ground := Ground.textOnly Departure.lateStores }, { on := 5, ground := Ground.phase }, { on := 6, ground := Ground.phase }, { on := 7, ground := Ground.phase }, { on := 8, ground := Ground.textOnly Departure.lateStores }, { on := 9, ground := Ground.textOnly Departure.lateStores }], guard := none }) (v := ?_) rfl (by kernel_rfl) (by kernel_rfl) (by kernel_rfl) (fun _ _ _ h => h) (Or.inl ⟨by rfl, ?_⟩) (by assumption) ?_
        rotate_left
        · (intro ww hSw; (try dsimp only at hSw); go_simp; try with_reducible rfl)
        (try simp only [Act.put, List.setIfInBounds_toArray, List.set_cons_zero, List.set_cons_succ])
        refine wpAnyH_take (i := 13) (oi := { dst := some 32, op := Op.nilCheck (Operand.tmp 22), type := 0, pos := "class.go:155", after := #[{ on := 2, ground := Ground.data }], guard := none }) (v := ?_) rfl (by kernel_rfl) (by kernel_rfl) (by kernel_rfl) (fun _ _ _ h => h) (Or.inl ⟨by rfl, ?_⟩) (by assumption) ?_
        rotate_left
        · (intro ww hSw; (try dsimp only at hSw); go_simp; try with_reducible rfl)
        (try simp only [Act.put, List.setIfInBounds_toArray, List.set_cons_zero, List.set_cons_succ])
        have cc := hy0.at (i := p) (b8_at _ (p) (by rw [HAl.out]; have := HPp.out; omega))
        have cz := hy0.z (p)
        refine wpAnyH_ready (rs := [12]) (by kernel_rfl) (by simp) ?_
        refine AllReadyH.cons (o := { dst := none, op := Op.store 5 (Operand.tmp 31) (Operand.tmp 27), type := 0, pos := "class.go:155", after := #[{ on := 11, ground := Ground.data }, { on := 7, ground := Ground.data }, { on := 0, ground := Ground.phase }, { on := 1, ground := Ground.phase }, { on := 2, ground := Ground.textOnly Departure.lateStores }, { on := 3, ground := Ground.textOnly Departure.lateStores }, { on := 4, ground := Ground.textOnly Departure.lateStores }, { on := 5, ground := Ground.phase }, { on := 6, ground := Ground.phase }, { on := 7, ground := Ground.phase }, { on := 8, ground := Ground.textOnly Departure.lateStores }, { on := 9, ground := Ground.textOnly Departure.lateStores }], guard := none }) rfl (fun K hK => ?_) AllReadyH.nil
        go_simp
        refine hK.out _ _ (hHeld.set9 Hne.out HB.out (p) (.int .u8 (x / 256))) (fun hHeld => ?_)
        clear hK K
        (try simp only [Act.put])
        refine wpAnyH_take (i := 14) (oi := { dst := some 33, op := Op.indexAddr 24 (Operand.tmp 32) (Operand.tmp 24), type := 0, pos := "class.go:155", after := #[{ on := 13, ground := Ground.data }, { on := 4, ground := Ground.data }, { on := 0, ground := Ground.phase }, { on := 1, ground := Ground.phase }, { on := 2, ground := Ground.phase }, { on := 3, ground := Ground.phase }, { on := 4, ground := Ground.phase }, { on := 5, ground := Ground.phase }, { on := 6, ground := Ground.phase }, { on := 7, ground := Ground.phase }, { on := 8, ground := Ground.phase }, { on := 9, ground := Ground.phase }, { on := 10, ground := Ground.phase }, { on := 11, ground := Ground.phase }, { on := 12, ground := Ground.phase }], guard := none }) (v := ?_) rfl (by kernel_rfl) (by kernel_rfl) (by kernel_rfl) (fun _ _ _ h => h) (Or.inl ⟨by rfl, ?_⟩) (by assumption) ?_
        rotate_left
        · (intro ww hSw; (try dsimp only at hSw); go_simp; try with_reducible rfl)
        (try simp only [Act.put, List.setIfInBounds_toArray, List.set_cons_zero, List.set_cons_succ])
        have hy1 := bk_set9 hy0 (p) (x / 256)
        have cc := hy1.at (i := p1) (b8_at _ (p1) (by rw [List.length_set, HAl.out]; have := HPp.out; omega))
        have cz := hy1.z (p1)
        refine wpAnyH_ready (rs := [15]) (by kernel_rfl) (by simp) ?_
        refine AllReadyH.cons (o := { dst := none, op := Op.store 5 (Operand.tmp 33) (Operand.tmp 29), type := 0, pos := "class.go:155", after := #[{ on := 14, ground := Ground.data }, { on := 9, ground := Ground.data }, { on := 12, ground := Ground.chain }, { on := 0, ground := Ground.phase }, { on := 1, ground := Ground.phase }, { on := 2, ground := Ground.phase }, { on := 3, ground := Ground.phase }, { on := 4, ground := Ground.phase }, { on := 5, ground := Ground.phase }, { on := 6, ground := Ground.phase }, { on := 7, ground := Ground.phase }, { on := 8, ground := Ground.phase }, { on := 9, ground := Ground.phase }, { on := 10, ground := Ground.phase }, { on := 11, ground := Ground.phase }, { on := 12, ground := Ground.phase }], guard := none }) rfl (fun K hK => ?_) AllReadyH.nil
        go_simp
        refine hK.out _ _ (hHeld.set9 Hne.out HB.out (p1) (.int .u8 (x % 256))) (fun hHeld => ?_)
        clear hK K
        (try simp only [Act.put])
        refine wpAnyH_done (by kernel_rfl) ?_ _
        refine NoPanic.normal ?_
        have hy2 := bk_set9 hy1 (p1) (x % 256)
        rw [← HGp.out] at hy2
        go_wp2_with fail
        go_roundw
        case rel => exact ⟨k + 1, hlt, by go_num, hHeld, by rw [HG2.out]; exact hy2⟩
        case measure => simp [intOf]; omega
      · obtain rfl : k = ns.length := by omega
        have HX2 := Lib.hid (show Kp w0 B ((b, 24, b8 (gput A fr (ints' ns) ns.length)) :: l) wr ∧ ∀ g x, g ≠ b → IntC g x w → IntC g x wr from ⟨kp_cons HBk.out HP.out.1, HP.out.2⟩)
        clear HBk HP
        go_wp2_with fail
        go_end0
        exact ⟨rfl, HX2.out⟩
end Go.Proofs.YtkdplnbabelkoaaDoor
