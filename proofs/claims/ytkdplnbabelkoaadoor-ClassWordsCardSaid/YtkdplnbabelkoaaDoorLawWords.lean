/-
  Proved here: the law ClassWords answers true.
  Conditions: an address of 16 bytes; any four bytes; what the library's variables hold.
-/
import Derived.Test.YtkdplnbabelkoaaDoorUpw
import Derived.Test.YtkdplnbabelkoaaDoorWdt
import Derived.Test.YtkdplnbabelkoaaDoorAwakec
import Derived.Test.YtkdplnbabelkoaaDoorHexw
import Derived.Deep.CutRange
import Derived.Deep.CutBlock
namespace Go.Proofs.YtkdplnbabelkoaaDoor
open Go.RowKit

theorem grp_set (y : List UInt8) (k : Nat) (hk : k < 8) (hy : y.length = 16) : grpN ((y.set (2 * k) 0).set (2 * k + 1) 0) k = 0 ∧ ∀ j, j ≠ k → grpN ((y.set (2 * k) 0).set (2 * k + 1) 0) j = grpN y j := by
  refine ⟨?_, fun j hj => ?_⟩
  · unfold grpN
    have e1 : ((y.set (2 * k) 0).set (2 * k + 1) 0)[2 * k]? = some 0 := by
      rw [List.getElem?_set_ne (by omega), List.getElem?_set_self (by omega)]
    have e2 : ((y.set (2 * k) 0).set (2 * k + 1) 0)[2 * k + 1]? = some 0 := by
      rw [List.getElem?_set_self (by rw [List.length_set]; omega)]
    rw [List.getD_eq_getElem?_getD, List.getD_eq_getElem?_getD, e1, e2]
    rfl
  · unfold grpN
    simp only [List.getD_eq_getElem?_getD]
    rw [List.getElem?_set_ne (by omega), List.getElem?_set_ne (by omega), List.getElem?_set_ne (by omega), List.getElem?_set_ne (by omega)]
theorem wrap_small (n : Nat) (h : n < 8) : wrap64 (n : Int) = (n : Int) := by unfold wrap64; omega
theorem min_small (a m b : Nat) (h : b = min 8 (a + m)) : min (8 : Int) ((a : Int) + (m : Int)) = (b : Int) := by omega
theorem wrap_two (k p : Nat) (h : p = 2 * k) (hk : k < 8) : IntKind.i64.wrap (2 * (k : Int)) = (p : Int) ∧ IntKind.i64.wrap ((p : Int) + 1) = ((p + 1 : Nat) : Int) := by unfold IntKind.wrap IntKind.bits IntKind.signed; simp; omega
theorem wrap_sm (n : Nat) (h : n < 70000) : IntKind.i64.wrap (n : Int) = (n : Int) := by unfold IntKind.wrap IntKind.bits IntKind.signed; simp; omega
theorem wrap_all (n m : Nat) (h : n < 256) (hm : m < 256) : IntKind.i64.wrap (IntKind.i64.wrap (IntKind.i64.wrap (n : Int) * 256) + IntKind.i64.wrap (m : Int)) = ((256 * n + m : Nat) : Int) := by unfold IntKind.wrap IntKind.bits IntKind.signed; simp; omega
theorem kpb {w0 w : World} {B : Nat} {l : List (Nat × TypeId × List Value)} (h : Kp w0 B l w) : Below B w0 w := h.2.1
/-- A bit of a byte, as the walk spells it. -/
def bitF (v : UInt8) (i : Nat) : Bool := bits .and .u8 ((v.toNat : Int) / 2 ^ i) 1 == 1
def strN (v : Value) : Nat := match v with
  | .string s => s.size
  | _ => 0
theorem wpList_skip {P : Program} {ops : Array Oper} {rest : List Oper} {op : Oper} {a : Act} {w : World} {Q : Exit → Act → World → Prop} (hw : Region.wanted op (yielded ops a.tmps) = false) (h : wpList P ops Q rest (a.put op.dst undef) w) : wpList P ops Q (op :: rest) a w :=
  wpList_step fun K hK => by rw [hw]; exact hK _ _ h
theorem no_list {S : ByteArray} {l : List UInt8} {c : UInt8} (h : bl S = l ++ [c]) : ¬ S.toList = [] := by
  rw [ByteArray.toList_eq]
  show ¬ bl S = []
  rw [h]
  simp
theorem no_list2 {S : ByteArray} {l : List UInt8} {c : UInt8} (h : bl S = l ++ [c]) : S.toList.isEmpty = false := by
  rw [ByteArray.toList_eq]
  show (bl S).isEmpty = false
  rw [h]
  simp
theorem no_text {S : ByteArray} (h : bl S = []) : S = ⟨#[]⟩ := by
  apply ByteArray.ext
  apply Array.toList_inj.1
  exact h
theorem c58 {c : UInt8} (h : c ≠ 58) : ((c.toNat : Int) != 58) = true := by
  rw [bne_iff_ne]
  intro e
  exact h (UInt8.toNat_inj.1 (by show c.toNat = 58; omega))
theorem shT_zero (W : List (List UInt8)) (a k : Nat) : shT W a k 0 = [] := by unfold shT; rw [if_pos (.inr (Nat.zero_le _))]; rfl
set_option maxRecDepth 100000 in
set_option maxHeartbeats 8000000 in
theorem classWords_any (x : List UInt8) (wide great fr many : UInt8) (w : World) (hx : x.length = 16) (h0 : Hw w) :
    Calls Tryd.prog 8 #[.agg (bu x).toArray, .int .u8 (wide.toNat), .int .u8 (great.toNat), .int .u8 (fr.toNat), .int .u8 (many.toNat)] w fun e w' => e = .returned (.bool true) ∧ Below w.heap.size w w' := by
  have HWb : Hid (∀ W, Below w.heap.size w W → Hw W) := Lib.hid (fun W hW => h0.below hW)
  have CA := Lib.hid (fun W (h : Hw W) => awakec_true W h)
  have CF := Lib.hid (fun n (hn : n < 65536) W (h : Hw W) => fmtint_any n hn W h.db)
  have HK1 := Lib.hid ((Kp.start w).new 24 (bu x))
  have HI_VX : Hid ((Tryd.prog.info? 24).map (·.size) = some (bu x).length) := Lib.hid (Tryd.infoU6 _ (hx))
  have HO_VX : Hid ((bu x).toArray.all (·.oneCell') = true) := Lib.hid (bu_one _)
  have HL_VX : Hid ((bu x).length = 16) := Lib.hid (by rw [bu_len]; exact hx)
  have HXl := Lib.hid hx
  obtain ⟨a, ha⟩ : ∃ a, a = fr.toNat % 8 := ⟨_, rfl⟩
  obtain ⟨m, hm⟩ : ∃ m, m = many.toNat % 8 := ⟨_, rfl⟩
  obtain ⟨b, hb⟩ : ∃ b, b = min 8 (a + m) := ⟨_, rfl⟩
  have ea : (fr.toNat : Int) % 8 = (a : Int) := by rw [ha]; rfl
  have em : (many.toNat : Int) % 8 = (m : Int) := by rw [hm]; rfl
  have hab : a ≤ b := by omega
  have hb8 : b ≤ 8 := by omega
  have ha8 : a < 8 := by omega
  have hm8 : m < 8 := by omega
  have wa : wrap64 (a : Int) = (a : Int) := wrap_small a ha8
  have wm : wrap64 (m : Int) = (m : Int) := wrap_small m hm8
  have eb : min (8 : Int) ((a : Int) + (m : Int)) = (b : Int) := min_small a m b hb
  clear ha hm hb h0 hx
  generalize hw1 : w.alloc (.cells (bu x).toArray 24) = w1 at *
  go_enter Tryd.func8, Tryd.ntmps8
  go_upto_region 1 with (fail)
  clear hw1
  go_wp2_with fail
  refine (CA.out _ (HWb.out _ HK1.out.2.1)).mono ?_
  rintro e w2 ⟨rfl, hb2⟩
  have HK2 := Lib.hid (HK1.out.below hb2 (Nat.le_refl _))
  clear hb2 HK1 CA
  go_wp2_with fail
  go_loopw [13] (fun i wr => ∃ (k : Nat) (y : List UInt8), a ≤ k ∧ k ≤ b ∧ i = .int .i64 k ∧ y.length = 16 ∧ (∀ j, a ≤ j → j < k → grpN y j = 0) ∧ Kp w w.heap.size [(w.heap.size, 24, bu y)] wr) (fun i _ => b - (intOf i).toNat)
  case atStart => exact ⟨a, x, Nat.le_refl _, hab, rfl, HXl.out, fun j h1 h2 => (Nat.lt_irrefl _ (Nat.lt_of_le_of_lt h1 h2)).elim, HK2.out⟩
  case round =>
    obtain ⟨k, y, hk1, hk2, rfl, hy, hz, hK⟩ := hrel
    have HK := Lib.hid hK
    have HY := Lib.hid hy
    have HZ := Lib.hid hz
    clear hK hy hz HK2 ea em eb wa wm
    by_cases hlt : k < b
    · have hlt2 : (k : Int) < (b : Int) := by omega
      obtain ⟨p, hp⟩ : ∃ p, p = 2 * k := ⟨_, rfl⟩
      obtain ⟨p1, hp1⟩ : ∃ p1, p1 = p + 1 := ⟨_, rfl⟩
      have e1 : 2 * (k : Int) = (p : Int) := by omega
      have e2 : (p : Int) + 1 = (p1 : Int) := by omega
      have k8 : (k : Int) < 8 := by omega
      have j0 : (p : Int) < 16 := by omega
      have j1 : (p1 : Int) < 16 := by omega
      have HG := Lib.hid (grp_set y k (by omega) HY.out)
      rw [← hp, ← hp1] at HG
      have cc := HK.out.hd.at (i := p) (bu_at y p (by rw [HY.out]; omega))
      have cz := HK.out.hd.z p
      have hks := HK.out.set1 (l := []) (by intro y hy; cases hy) (Nat.le_refl _) p (.int .u8 0)
      rw [show Value.int .u8 0 = .int .u8 (((0 : UInt8).toNat : Nat) : Int) from rfl, ← bu_set] at hks
      have HKs : Hid (Kp w w.heap.size [(w.heap.size, 24, bu (y.set p 0))] (wr.setCell ⟨w.heap.size, p, none⟩ (.int .u8 0))) := Lib.hid hks
      have HPp : Hid (p < 16 ∧ p1 < 16) := Lib.hid (by omega)
      have hk8 : k < 8 := by omega
      have HKb : Hid (k < b ∧ a ≤ k) := Lib.hid ⟨hlt, hk1⟩
      clear hks hp hp1
      go_upto_region 9 with (fail)
      clear cc cz HK
      generalize wr.setCell ⟨w.heap.size, p, none⟩ (.int .u8 0) = w3 at *
      have cc := HKs.out.hd.at (i := p1) (bu_at (y.set p 0) p1 (by rw [List.length_set, HY.out]; exact HPp.out.2))
      have cz := HKs.out.hd.z p1
      have hks := HKs.out.set1 (l := []) (by intro y hy; cases hy) (Nat.le_refl _) p1 (.int .u8 0)
      rw [show Value.int .u8 0 = .int .u8 (((0 : UInt8).toNat : Nat) : Int) from rfl, ← bu_set] at hks
      have HKt : Hid (Kp w w.heap.size [(w.heap.size, 24, bu ((y.set p 0).set p1 0))] (w3.setCell ⟨w.heap.size, p1, none⟩ (.int .u8 0))) := Lib.hid hks
      clear hks
      go_wp2_with fail
      go_roundw
      case rel => exact ⟨k + 1, _, by omega, by omega, by go_num, by rw [List.length_set, List.length_set]; exact HY.out, fun j h1 h2 => by
        by_cases hj : j = k
        · rw [hj]; exact HG.out.1
        · rw [HG.out.2 j hj]; exact HZ.out j h1 (by omega), HKt.out⟩
      case measure => simp [intOf]; omega
    · obtain rfl : k = b := by omega
      clear hlt hk1 hk2 HXl
      go_upto_region 10 with (fail)
      go_wp2_with fail
      go_loopw [14, 15, 16] (fun l s i wr => ∃ (k_ : Nat) (L S : ByteArray), k_ ≤ 8 ∧ l = .string L ∧ s = .string S ∧ i = .int .i64 k_ ∧ Hid (bl L = jn [58] ((wds y (bitF wide) (bitF great)).take k_)) ∧ Hid (bl S = shT (wds y (bitF wide) (bitF great)) a k k_) ∧ Kp w w.heap.size [(w.heap.size, 24, bu y)] wr) (fun _ _ i _ => 8 - (intOf i).toNat)
      case atStart => exact ⟨0, ⟨#[]⟩, ⟨#[]⟩, Nat.zero_le _, rfl, rfl, rfl, Lib.hid (by rw [List.take_zero]; rfl), Lib.hid (by unfold shT; rw [if_pos (.inr (Nat.zero_le _)), List.take_zero]; rfl), HK.out⟩
      case round =>
        obtain ⟨i, L, S, hi, rfl, rfl, rfl, hL, hS, hK⟩ := hrel
        have HKi := Lib.hid hK
        clear hK
        by_cases hlt : i < 8
        · obtain ⟨p, hp⟩ : ∃ p, p = 2 * i := ⟨_, rfl⟩
          obtain ⟨p1, hp1⟩ : ∃ p1, p1 = p + 1 := ⟨_, rfl⟩
          have e1 : 2 * (i : Int) = (p : Int) := by omega
          have e2 : (p : Int) + 1 = (p1 : Int) := by omega
          have j0 : (p : Int) < 16 := by omega
          have j1 : (p1 : Int) < 16 := by omega
          have h8 : (i : Int) < 8 := by omega
          have HGr : Hid (grpN y i = 256 * (y.getD p 0).toNat + (y.getD p1 0).toNat) := Lib.hid (by rw [hp1, hp]; rfl)
          have HGl : Hid (grpN y i < 65536) := Lib.hid (by have h1 := (y.getD (2 * i) 0).toNat_lt; have h2 := (y.getD (2 * i + 1) 0).toNat_lt; show 256 * (y.getD (2 * i) 0).toNat + (y.getD (2 * i + 1) 0).toNat < 65536; omega)
          have hp16 : p < 16 := by omega
          have hp17 : p1 < 16 := by omega
          have hu9 := (y.getD p 0).toNat_lt
          have hv9 := (y.getD p1 0).toNat_lt
          have HC : Hid (∀ W, Kp w w.heap.size [(w.heap.size, 24, bu y)] W → Kp w w.heap.size [(w.heap.size, 24, bu y)] W ∧ W.cell? ⟨w.heap.size, p, none⟩ = some (.int .u8 ((y.getD p 0).toNat : Int)) ∧ W.cell? ⟨w.heap.size, p1, none⟩ = some (.int .u8 ((y.getD p1 0).toNat : Int))) := Lib.hid (fun W k => ⟨k, k.hd.at (i := p) (bu_at y p (by rw [HY.out]; exact hp16)), k.hd.at (i := p1) (bu_at y p1 (by rw [HY.out]; exact hp17))⟩)
          clear hp hp1
          generalize (y.getD p 0).toNat = ua at *
          generalize (y.getD p1 0).toNat = ub at *
          obtain ⟨gr, hgr⟩ : ∃ gr, gr = grpN y i := ⟨_, rfl⟩
          rw [← hgr] at HGr HGl
          have HGe := Lib.hid hgr
          clear hgr
          have CFk : Hid (∀ W, Hw W → Calls Tryd.prog 34 #[.int .i64 (IntKind.i64.wrap (IntKind.i64.wrap (IntKind.i64.wrap (ua : Int) * 256) + IntKind.i64.wrap (ub : Int))), .int .i64 16] W fun e w' => e = .returned (.string ⟨(hexd gr).toArray⟩) ∧ Below W.heap.size W w') := Lib.hid (fun W h => by
            rw [wrap_all ua ub hu9 hv9, ← HGr.out]
            exact CF.out gr HGl.out W h)
          have hwp := wrap_sm p (by omega)
          have hwq := wrap_sm p1 (by omega)
          go_upto_region 15 with (fail)
          refine wp_region_noPanic ?_
          refine wp_region_held_drew (S := fun W => Kp w w.heap.size [(w.heap.size, 24, bu y)] W ∧ W.cell? ⟨w.heap.size, p, none⟩ = some (.int .u8 (ua : Int)) ∧ W.cell? ⟨w.heap.size, p1, none⟩ = some (.int .u8 (ub : Int))) (by kernel_rfl) (HC.out _ HKi.out.drew) (fun hHeld => ?_)
          refine wpAnyH_take (i := 0) (oi := { dst := some 50, op := Op.move (Operand.tmp 16), type := 3, pos := "outright.go:59", after := #[], guard := none }) (v := ?_) rfl (by kernel_rfl) (by kernel_rfl) (by kernel_rfl) (fun _ _ _ h => h) (Or.inl ⟨by rfl, ?_⟩) (by assumption) ?_
          rotate_left
          · (intro ww hSw; (try dsimp only at hSw); go_simp; try with_reducible rfl)
          (try simp only [Act.put, List.setIfInBounds_toArray, List.set_cons_zero, List.set_cons_succ])
          refine wpAnyH_take (i := 1) (oi := { dst := some 51, op := Op.binOp BinOp.mul 3 (Operand.const (Value.int IntKind.i64 2)) (Operand.tmp 50) 3, type := 3, pos := "outright.go:59", after := #[{ on := 0, ground := Ground.data }], guard := none }) (v := ?_) rfl (by kernel_rfl) (by kernel_rfl) (by kernel_rfl) (fun _ _ _ h => h) (Or.inl ⟨by rfl, ?_⟩) (by assumption) ?_
          rotate_left
          · (intro ww hSw; (try dsimp only at hSw); go_simp; try with_reducible rfl)
          (try simp only [Act.put, List.setIfInBounds_toArray, List.set_cons_zero, List.set_cons_succ])
          refine wpAnyH_take (i := 2) (oi := { dst := some 52, op := Op.indexAddr 24 (Operand.tmp 5) (Operand.tmp 51), type := 0, pos := "outright.go:59", after := #[{ on := 1, ground := Ground.data }], guard := none }) (v := ?_) rfl (by kernel_rfl) (by kernel_rfl) (by kernel_rfl) (fun _ _ _ h => h) (Or.inl ⟨by rfl, ?_⟩) (by assumption) ?_
          rotate_left
          · (intro ww hSw; (try dsimp only at hSw); go_simp; try with_reducible rfl)
          (try simp only [Act.put, List.setIfInBounds_toArray, List.set_cons_zero, List.set_cons_succ])
          refine wpAnyH_take (i := 3) (oi := { dst := some 53, op := Op.load 5 (Operand.tmp 52), type := 5, pos := "outright.go:59", after := #[{ on := 2, ground := Ground.data }], guard := none }) (v := ?_) rfl (by kernel_rfl) (by kernel_rfl) (by kernel_rfl) (fun _ _ _ h => h) (Or.inl ⟨by rfl, ?_⟩) (by assumption) ?_
          rotate_left
          · (intro ww hSw; (try dsimp only at hSw); go_simp; try with_reducible rfl)
          (try simp only [Act.put, List.setIfInBounds_toArray, List.set_cons_zero, List.set_cons_succ])
          refine wpAnyH_take (i := 4) (oi := { dst := some 54, op := Op.convert 5 2 (Operand.tmp 53), type := 2, pos := "outright.go:59", after := #[{ on := 3, ground := Ground.data }], guard := none }) (v := ?_) rfl (by kernel_rfl) (by kernel_rfl) (by kernel_rfl) (fun _ _ _ h => h) (Or.inl ⟨by rfl, ?_⟩) (by assumption) ?_
          rotate_left
          · (intro ww hSw; (try dsimp only at hSw); go_simp; try with_reducible rfl)
          (try simp only [Act.put, List.setIfInBounds_toArray, List.set_cons_zero, List.set_cons_succ])
          refine wpAnyH_take (i := 5) (oi := { dst := some 55, op := Op.binOp BinOp.mul 2 (Operand.tmp 54) (Operand.const (Value.int IntKind.i64 256)) 2, type := 2, pos := "outright.go:59", after := #[{ on := 4, ground := Ground.data }], guard := none }) (v := ?_) rfl (by kernel_rfl) (by kernel_rfl) (by kernel_rfl) (fun _ _ _ h => h) (Or.inl ⟨by rfl, ?_⟩) (by assumption) ?_
          rotate_left
          · (intro ww hSw; (try dsimp only at hSw); go_simp; try with_reducible rfl)
          (try simp only [Act.put, List.setIfInBounds_toArray, List.set_cons_zero, List.set_cons_succ])
          refine wpAnyH_take (i := 6) (oi := { dst := some 56, op := Op.move (Operand.tmp 16), type := 3, pos := "outright.go:59", after := #[], guard := none }) (v := ?_) rfl (by kernel_rfl) (by kernel_rfl) (by kernel_rfl) (fun _ _ _ h => h) (Or.inl ⟨by rfl, ?_⟩) (by assumption) ?_
          rotate_left
          · (intro ww hSw; (try dsimp only at hSw); go_simp; try with_reducible rfl)
          (try simp only [Act.put, List.setIfInBounds_toArray, List.set_cons_zero, List.set_cons_succ])
          refine wpAnyH_take (i := 7) (oi := { dst := some 57, op := Op.binOp BinOp.mul 3 (Operand.const (Value.int IntKind.i64 2)) (Operand.tmp 56) 3, type := 3, pos := "outright.go:59", after := #[{ on := 6, ground := Ground.data }], guard := none }) (v := ?_) rfl (by kernel_rfl) (by kernel_rfl) (by kernel_rfl) (fun _ _ _ h => h) (Or.inl ⟨by rfl, ?_⟩) (by assumption) ?_
          rotate_left
          · (intro ww hSw; (try dsimp only at hSw); go_simp; try with_reducible rfl)
          (try simp only [Act.put, List.setIfInBounds_toArray, List.set_cons_zero, List.set_cons_succ])
          refine wpAnyH_take (i := 8) (oi := { dst := some 58, op := Op.binOp BinOp.add 3 (Operand.tmp 57) (Operand.const (Value.int IntKind.i64 1)) 3, type := 3, pos := "outright.go:59", after := #[{ on := 7, ground := Ground.data }], guard := none }) (v := ?_) rfl (by kernel_rfl) (by kernel_rfl) (by kernel_rfl) (fun _ _ _ h => h) (Or.inl ⟨by rfl, ?_⟩) (by assumption) ?_
          rotate_left
          · (intro ww hSw; (try dsimp only at hSw); go_simp; try with_reducible rfl)
          (try simp only [Act.put, List.setIfInBounds_toArray, List.set_cons_zero, List.set_cons_succ])
          refine wpAnyH_take (i := 9) (oi := { dst := some 59, op := Op.indexAddr 24 (Operand.tmp 5) (Operand.tmp 58), type := 0, pos := "outright.go:59", after := #[{ on := 8, ground := Ground.data }], guard := none }) (v := ?_) rfl (by kernel_rfl) (by kernel_rfl) (by kernel_rfl) (fun _ _ _ h => h) (Or.inl ⟨by rfl, ?_⟩) (by assumption) ?_
          rotate_left
          · (intro ww hSw; (try dsimp only at hSw); go_simp; try with_reducible rfl)
          (try simp only [Act.put, List.setIfInBounds_toArray, List.set_cons_zero, List.set_cons_succ])
          refine wpAnyH_take (i := 10) (oi := { dst := some 60, op := Op.load 5 (Operand.tmp 59), type := 5, pos := "outright.go:59", after := #[{ on := 9, ground := Ground.data }], guard := none }) (v := ?_) rfl (by kernel_rfl) (by kernel_rfl) (by kernel_rfl) (fun _ _ _ h => h) (Or.inl ⟨by rfl, ?_⟩) (by assumption) ?_
          rotate_left
          · (intro ww hSw; (try dsimp only at hSw); go_simp; try with_reducible rfl)
          (try simp only [Act.put, List.setIfInBounds_toArray, List.set_cons_zero, List.set_cons_succ])
          refine wpAnyH_take (i := 11) (oi := { dst := some 61, op := Op.convert 5 2 (Operand.tmp 60), type := 2, pos := "outright.go:59", after := #[{ on := 10, ground := Ground.data }], guard := none }) (v := ?_) rfl (by kernel_rfl) (by kernel_rfl) (by kernel_rfl) (fun _ _ _ h => h) (Or.inl ⟨by rfl, ?_⟩) (by assumption) ?_
          rotate_left
          · (intro ww hSw; (try dsimp only at hSw); go_simp; try with_reducible rfl)
          (try simp only [Act.put, List.setIfInBounds_toArray, List.set_cons_zero, List.set_cons_succ])
          refine wpAnyH_take (i := 12) (oi := { dst := some 62, op := Op.binOp BinOp.add 2 (Operand.tmp 55) (Operand.tmp 61) 2, type := 2, pos := "outright.go:59", after := #[{ on := 5, ground := Ground.data }, { on := 11, ground := Ground.data }], guard := none }) (v := ?_) rfl (by kernel_rfl) (by kernel_rfl) (by kernel_rfl) (fun _ _ _ h => h) (Or.inl ⟨by rfl, ?_⟩) (by assumption) ?_
          rotate_left
          · (intro ww hSw; (try dsimp only at hSw); go_simp; try with_reducible rfl)
          (try simp only [Act.put, List.setIfInBounds_toArray, List.set_cons_zero, List.set_cons_succ])
          refine wpAnyH_ready (rs := [13]) (by kernel_rfl) (by simp) ?_
          refine AllReadyH.cons (o := { dst := some 63, op := Op.call { callee := Callee.value (Operand.func 34), args := #[Operand.tmp 62, Operand.const (Value.int IntKind.i64 16)], argTypes := #[2, 3] }, type := 9, pos := "outright.go:59", after := #[{ on := 12, ground := Ground.data }], guard := none }) rfl (fun K hK => ?_) AllReadyH.nil
          go_simp
          ((with_reducible refine (CFk.out _ (HWb.out _ (kpb hHeld.1))).mono ?_); rintro e w5 ⟨rfl, hb9⟩)
          refine hK.out _ _ (HC.out _ (hHeld.1.below hb9 (Nat.le_refl _))) (fun hHeld => ?_)
          clear hK K
          (try simp only [Act.put, List.setIfInBounds_toArray, List.set_cons_zero, List.set_cons_succ])
          refine wpAnyH_take (i := 14) (oi := { dst := some 17, op := Op.assign (Operand.tmp 63), type := 9, pos := "outright.go:59", after := #[{ on := 13, ground := Ground.data }, { on := 13, ground := Ground.chain }, { on := 0, ground := Ground.phase }, { on := 1, ground := Ground.phase }, { on := 2, ground := Ground.phase }, { on := 3, ground := Ground.phase }, { on := 4, ground := Ground.phase }, { on := 5, ground := Ground.phase }, { on := 6, ground := Ground.phase }, { on := 7, ground := Ground.phase }, { on := 8, ground := Ground.phase }, { on := 9, ground := Ground.phase }, { on := 10, ground := Ground.phase }, { on := 11, ground := Ground.phase }, { on := 12, ground := Ground.phase }, { on := 13, ground := Ground.phase }], guard := none }) (v := ?_) rfl (by kernel_rfl) (by kernel_rfl) (by kernel_rfl) (fun _ _ _ h => h) (Or.inl ⟨by rfl, ?_⟩) (by assumption) ?_
          rotate_left
          · (intro ww hSw; (try dsimp only at hSw); go_simp; try with_reducible rfl)
          (try simp only [Act.put, List.setIfInBounds_toArray, List.set_cons_zero, List.set_cons_succ])
          refine wpAnyH_done (by kernel_rfl) ?_ _
          refine NoPanic.normal ?_
          obtain ⟨H0, hH0⟩ : ∃ H0 : ByteArray, H0 = ⟨(hexd gr).toArray⟩ := ⟨_, rfl⟩
          rw [← hH0]
          have HKj := Lib.hid hHeld.1
          clear hHeld hwp hwq e1 e2 j0 j1 HC CFk
          go_upto_block 4 with (fail)
          have HH0 : Hid (bl H0 = hexd gr) := Lib.hid (by rw [hH0]; exact bl_mk _)
          clear hH0
          have HHl := Lib.hid (hexd_len gr HGl.out)
          go_cut [17] from 46 to 148 (fun t wc => ∃ Hs : ByteArray, t = .string Hs ∧ Hid (bl Hs = wdp gr (bitF wide i)) ∧ Kp w w.heap.size [(w.heap.size, 24, bu y)] wc)
          case first =>
            go_wp2_with fail
            go_loopw [17] (fun t wr2 => ∃ (Hs : ByteArray) (j : Nat), t = .string Hs ∧ Hid (bl Hs = List.replicate j 48 ++ hexd gr ∧ j + (hexd gr).length ≤ 4 ∧ (bitF wide i = false → j = 0)) ∧ Kp w w.heap.size [(w.heap.size, 24, bu y)] wr2) (fun t _ => 4 - strN t)
            case atStart => exact ⟨H0, 0, rfl, Lib.hid ⟨HH0.out, by have := HHl.out.2; omega, fun _ => rfl⟩, HKj.out⟩
            case round =>
              obtain ⟨Hs, j, rfl, HI, hK⟩ := hrel
              have HKh := Lib.hid hK
              clear hK
              have HSz : Hid (Hs.size = j + (hexd gr).length) := Lib.hid (by rw [← bl_len, HI.out.1, List.length_append, List.length_replicate])
              by_cases h4 : Hs.size < 4
              · have i4 : (Hs.size : Int) < 4 := by omega
                cases hB : bitF wide i
                · have hB2 : (bits .and .u8 ((wide.toNat : Int) / 2 ^ i) 1 == 1) = false := hB
                  have HR : Hid (bl Hs = wdp gr false) := Lib.hid (by rw [HI.out.1, HI.out.2.2 hB]; rfl)
                  go_wp2_with fail
                  go_meet
                  case rel => exact ⟨Hs, rfl, by rw [hB]; exact HR, HKh.out⟩
                · have hB2 : (bits .and .u8 ((wide.toNat : Int) / 2 ^ i) 1 == 1) = true := hB
                  have HN : Hid (bl (⟨#[48]⟩ ++ Hs) = List.replicate (j + 1) 48 ++ hexd gr ∧ (j + 1) + (hexd gr).length ≤ 4 ∧ (bitF wide i = false → j + 1 = 0)) := Lib.hid ⟨by rw [bl_app, HI.out.1]; rfl, by have := HSz.out; omega, fun h => by rw [hB] at h; cases h⟩
                  go_wp2_with fail
                  go_roundw
                  case rel => exact ⟨_, j + 1, rfl, Lib.hid ⟨HN.out.1, HN.out.2.1, fun h => by cases h⟩, HKh.out⟩
                  case measure =>
                    have e : (⟨#[48]⟩ ++ Hs : ByteArray).size = Hs.size + 1 := by rw [← bl_len, bl_app, List.length_append, bl_len, bl_len]; exact Nat.add_comm _ _
                    show 4 - (⟨#[48]⟩ ++ Hs : ByteArray).size < 4 - Hs.size
                    rw [e]
                    omega
              · have i4 : ¬ (Hs.size : Int) < 4 := by omega
                have HR : Hid (bl Hs = wdp gr (bitF wide i)) := Lib.hid (by
                  unfold wdp
                  have h1 := HSz.out
                  have h2 := HI.out.2.1
                  cases hB : bitF wide i
                  · rw [HI.out.1, HI.out.2.2 hB]; rfl
                  · rw [HI.out.1, if_pos rfl, show j = 4 - (hexd gr).length by omega])
                go_wp2_with fail
                go_meet
                case rel => exact ⟨Hs, rfl, HR, HKh.out⟩
          case rest =>
            obtain ⟨H1, rfl, HH1, hKc⟩ := hcut
            have HKc := Lib.hid hKc
            clear hKc HKj HH0
            go_upto_if 82 with fail
            go_cut [17] from 46 to 148 (fun t wc => ∃ Hs : ByteArray, t = .string Hs ∧ Hid (bl Hs = wd gr (bitF wide i) (bitF great i)) ∧ Kp w w.heap.size [(w.heap.size, 24, bu y)] wc)
            case first =>
              cases hB : bitF great i
              · have hB2 : (bits .and .u8 ((great.toNat : Int) / 2 ^ i) 1 == 1) = false := hB
                go_wp2_with fail
                go_meet
                case rel => exact ⟨H1, rfl, by rw [hB]; exact HH1, HKc.out⟩
              · have hB2 : (bits .and .u8 ((great.toNat : Int) / 2 ^ i) 1 == 1) = true := hB
                have CU := Lib.hid (upper_any H1 wc (by rw [← bl_len, HH1.out]; have := hok_len _ (wd_hok gr HGl.out (bitF wide i) false); have e : wd gr (bitF wide i) false = wdp gr (bitF wide i) := rfl; rw [e] at this; omega))
                go_wp2_with fail
                refine (CU.out).mono ?_
                rintro e w9 ⟨rfl, hb9⟩
                have HK9 := Lib.hid (HKc.out.below hb9 (Nat.le_refl _))
                clear hb9
                go_wp2_with fail
                go_meet
                case rel => exact ⟨_, rfl, Lib.hid (by rw [bl_mk, HH1.out, hB]; rfl), HK9.out⟩
            case rest =>
              obtain ⟨H2, rfl, HH2, hKd⟩ := hcut
              have HKd := Lib.hid hKd
              clear hKd HKc HH1
              have HWl := Lib.hid (wds_len y (bitF wide) (bitF great))
              have HWi : Hid ((wds y (bitF wide) (bitF great))[i]'(by rw [HWl.out]; exact hlt) = bl H2) := Lib.hid (by
                have h1 := wds_at y (bitF wide) (bitF great) i hlt
                rw [List.getElem?_eq_getElem (by rw [HWl.out]; exact hlt)] at h1
                rw [HH2.out, HGe.out]
                exact Option.some.inj h1)
              have HHk := Lib.hid (wds_hok y (bitF wide) (bitF great))
              have hLz : L.size ≤ 39 := by rw [← bl_len, hL.out]; exact jn_small _ (fun p hp => HHk.out p (List.mem_of_mem_take hp)) (by rw [List.length_take]; omega)
              have hSz : S.size ≤ 80 := by rw [← bl_len, hS.out]; exact sh_small (wds y (bitF wide) (bitF great)) a k i HHk.out HWl.out
              have hHz : H2.size ≤ 4 := by rw [← bl_len, ← HWi.out]; exact (hok_len _ (HHk.out _ (List.getElem_mem _))).2
              go_upto_if 86 with fail
              go_cut [14] from 46 to 148 (fun l wc => ∃ L1 : ByteArray, l = .string L1 ∧ Hid (bl L1 ++ bl H2 = jn [58] ((wds y (bitF wide) (bitF great)).take (i + 1))) ∧ Kp w w.heap.size [(w.heap.size, 24, bu y)] wc)
              case first =>
                by_cases hi0 : 0 < i
                · have i0 : (0 : Int) < (i : Int) := by omega
                  have HX : Hid (bl (L ++ ⟨#[58]⟩) ++ bl H2 = jn [58] ((wds y (bitF wide) (bitF great)).take (i + 1))) := Lib.hid (by rw [bl_app, hL.out, long_up hi0 (by rw [HWl.out]; exact hlt), HWi.out]; rfl)
                  go_wp2_with fail
                  go_meet
                  case rel => exact ⟨_, rfl, HX, HKd.out⟩
                · have i0 : ¬ (0 : Int) < (i : Int) := by omega
                  have HX : Hid (bl L ++ bl H2 = jn [58] ((wds y (bitF wide) (bitF great)).take (i + 1))) := Lib.hid (by
                    obtain rfl : i = 0 := by omega
                    rw [hL.out, List.take_zero, long_one (by rw [HWl.out]; exact hlt), HWi.out]
                    rfl)
                  go_wp2_with fail
                  go_meet
                  case rel => exact ⟨L, rfl, HX, HKd.out⟩
              case rest =>
                obtain ⟨L1, rfl, HL1, hKe⟩ := hcut
                have HKe := Lib.hid hKe
                clear hKe HKd hL hLz
                have hLz : L1.size ≤ 39 := by
                  have h1 := jn_small ((wds y (bitF wide) (bitF great)).take (i + 1)) (fun p hp => HHk.out p (List.mem_of_mem_take hp)) (by rw [List.length_take]; omega)
                  rw [← HL1.out, List.length_append, bl_len, bl_len] at h1
                  omega
                have HLn : Hid (bl (L1 ++ H2) = jn [58] ((wds y (bitF wide) (bitF great)).take (i + 1))) := Lib.hid (by rw [bl_app]; exact HL1.out)
                have hiW : i < (wds y (bitF wide) (bitF great)).length := by rw [HWl.out]; exact hlt
                by_cases hsk : a ≤ i ∧ i < k
                · have i1 : (a : Int) ≤ (i : Int) := by omega
                  have i2 : (i : Int) < (k : Int) := by omega
                  have HS2 : Hid (bl S = shT (wds y (bitF wide) (bitF great)) a k (i + 1)) := Lib.hid (by rw [sh_skip hsk.1 hsk.2]; exact hS.out)
                  go_wp2_with fail
                  go_roundw
                  case rel => exact ⟨i + 1, _, S, hlt, rfl, rfl, by go_num, HLn, HS2, HKe.out⟩
                  case measure => simp [intOf]; omega
                by_cases c1 : i < a
                · clear hsk
                  by_cases ez : i = 0
                  · as_aux_lemma =>
                      obtain rfl : S = ⟨#[]⟩ := no_text (by rw [hS.out, ez, shT_zero])
                      have f1 : ¬ a ≤ i := by omega
                      have g1 : ¬ (a : Int) ≤ (i : Int) := by omega
                      have f2 : i < k := by omega
                      have g2 : (i : Int) < (k : Int) := by omega
                      have f3 : ¬ i = k := by omega
                      have g3 : ((i : Int) == (k : Int)) = false := by rw [beq_eq_false_iff_ne]; omega
                      have h3 : (i == k) = false := by rw [beq_eq_false_iff_ne]; omega
                      go_upto_region 24 with (fail)
                      refine wp_region_list ?_
                      refine wpList_exec_if (op := { dst := some 100, op := Op.move (Operand.tmp 15), type := 9, pos := "outright.go:73", after := #[], guard := none }) (by kernel_rfl) ?_ ?_ ?_
                      rotate_left
                      · (go_simp; try with_reducible rfl)
                      (try simp only [Act.put, List.setIfInBounds_toArray, List.set_cons_zero, List.set_cons_succ])
                      refine wpList_exec_if (op := { dst := some 101, op := Op.binOp BinOp.neq 9 (Operand.tmp 100) (Operand.const (Value.string { data := #[] })) 9, type := 4, pos := "outright.go:73", after := #[{ on := 0, ground := Ground.data }], guard := none }) (by kernel_rfl) ?_ ?_ ?_
                      rotate_left
                      · (go_simp; try with_reducible rfl)
                      (try simp only [Act.put, List.setIfInBounds_toArray, List.set_cons_zero, List.set_cons_succ])
                      go_upto_region 26 with (fail)
                      refine wp_region_list ?_
                      refine wpList_exec_if (op := { dst := some 112, op := Op.move (Operand.tmp 16), type := 3, pos := "outright.go:76", after := #[], guard := none }) (by kernel_rfl) ?_ ?_ ?_
                      rotate_left
                      · (go_simp; try with_reducible rfl)
                      (try simp only [Act.put, List.setIfInBounds_toArray, List.set_cons_zero, List.set_cons_succ])
                      refine wpList_exec_if (op := { dst := some 113, op := Op.move (Operand.tmp 12), type := 3, pos := "outright.go:76", after := #[], guard := none }) (by kernel_rfl) ?_ ?_ ?_
                      rotate_left
                      · (go_simp; try with_reducible rfl)
                      (try simp only [Act.put, List.setIfInBounds_toArray, List.set_cons_zero, List.set_cons_succ])
                      refine wpList_exec_if (op := { dst := some 114, op := Op.binOp BinOp.eql 3 (Operand.tmp 112) (Operand.tmp 113) 3, type := 4, pos := "outright.go:76", after := #[{ on := 0, ground := Ground.data }, { on := 1, ground := Ground.data }], guard := none }) (by kernel_rfl) ?_ ?_ ?_
                      rotate_left
                      · (go_simp; try with_reducible rfl)
                      (try simp only [Act.put, List.setIfInBounds_toArray, List.set_cons_zero, List.set_cons_succ])
                      go_upto_region 28 with (fail)
                      refine wp_region_list ?_
                      refine wpList_exec_if (op := { dst := some 134, op := Op.move (Operand.tmp 16), type := 3, pos := "outright.go:79", after := #[], guard := none }) (by kernel_rfl) ?_ ?_ ?_
                      rotate_left
                      · (go_simp; try with_reducible rfl)
                      (try simp only [Act.put, List.setIfInBounds_toArray, List.set_cons_zero, List.set_cons_succ])
                      refine wpList_exec_if (op := { dst := some 135, op := Op.move (Operand.tmp 12), type := 3, pos := "outright.go:79", after := #[], guard := none }) (by kernel_rfl) ?_ ?_ ?_
                      rotate_left
                      · (go_simp; try with_reducible rfl)
                      (try simp only [Act.put, List.setIfInBounds_toArray, List.set_cons_zero, List.set_cons_succ])
                      refine wpList_exec_if (op := { dst := some 136, op := Op.binOp BinOp.eql 3 (Operand.tmp 134) (Operand.tmp 135) 3, type := 4, pos := "outright.go:79", after := #[{ on := 0, ground := Ground.data }, { on := 1, ground := Ground.data }], guard := none }) (by kernel_rfl) ?_ ?_ ?_
                      rotate_left
                      · (go_simp; try with_reducible rfl)
                      (try simp only [Act.put, List.setIfInBounds_toArray, List.set_cons_zero, List.set_cons_succ])
                      have HSn : Hid (bl ((⟨#[]⟩ : ByteArray) ++ H2) = shT (wds y (bitF wide) (bitF great)) a k (i + 1)) := Lib.hid (by
                        rw [(sh_plain (W := (wds y (bitF wide) (bitF great))) (a := a) (b := k) (i := i) (.inl c1)).1]
                        rw [bl_app, ez, long_one (by rw [HWl.out]; omega)]
                        have e0 := HWi.out
                        simp only [ez] at e0
                        rw [e0]
                        rfl)
                      go_wp2_with fail
                      go_roundw
                      case rel => exact ⟨i + 1, _, _, hlt, rfl, rfl, by go_num, HLn, HSn, HKe.out⟩
                      case measure => simp [intOf]; omega
                  · as_aux_lemma =>
                      obtain ⟨l9, c9, hlc, hc9⟩ := sh_last HHk.out hiW (.inl ⟨Nat.pos_of_ne_zero ez, .inl c1⟩)
                      have hix := ix_last S l9 c9 (by rw [hS.out]; exact hlc)
                      have hse := no_list (S := S) (by rw [hS.out]; exact hlc)
                      have hse2 := no_list2 (S := S) (by rw [hS.out]; exact hlc)
                      have hcn := c58 hc9
                      clear hlc hc9
                      have f4 : ¬ a ≤ i := by omega
                      have g4 : ¬ (a : Int) ≤ (i : Int) := by omega
                      have f5 : ¬ i = k := by omega
                      have g5 : ((i : Int) == (k : Int)) = false := by rw [beq_eq_false_iff_ne]; omega
                      have h5 : (i == k) = false := by rw [beq_eq_false_iff_ne]; omega
                      go_upto_region 24 with (fail)
                      have kws : IntKind.i64.wrap ((S.size : Int) - 1) = (S.size : Int) - 1 := IntWalk.i64_in _ (by omega)
                      refine wp_region_list ?_
                      refine wpList_exec_if (op := { dst := some 100, op := Op.move (Operand.tmp 15), type := 9, pos := "outright.go:73", after := #[], guard := none }) (by kernel_rfl) ?_ ?_ ?_
                      rotate_left
                      · (go_simp; try with_reducible rfl)
                      (try simp only [Act.put, List.setIfInBounds_toArray, List.set_cons_zero, List.set_cons_succ])
                      refine wpList_exec_if (op := { dst := some 101, op := Op.binOp BinOp.neq 9 (Operand.tmp 100) (Operand.const (Value.string { data := #[] })) 9, type := 4, pos := "outright.go:73", after := #[{ on := 0, ground := Ground.data }], guard := none }) (by kernel_rfl) ?_ ?_ ?_
                      rotate_left
                      · (go_simp; try with_reducible rfl)
                      (try simp only [Act.put, List.setIfInBounds_toArray, List.set_cons_zero, List.set_cons_succ])
                      refine wpList_exec_if (op := { dst := some 102, op := Op.move (Operand.tmp 101), type := 4, pos := "outright.go:73", after := #[{ on := 1, ground := Ground.data }], guard := none }) (by kernel_rfl) ?_ ?_ ?_
                      rotate_left
                      · (go_simp; try with_reducible rfl)
                      (try simp only [Act.put, List.setIfInBounds_toArray, List.set_cons_zero, List.set_cons_succ])
                      refine wpList_exec_if (op := { dst := some 103, op := Op.move (Operand.tmp 15), type := 9, pos := "outright.go:73", after := #[{ on := 2, ground := Ground.guard }], guard := some (2, true) }) (by kernel_rfl) ?_ ?_ ?_
                      rotate_left
                      · (go_simp; try with_reducible rfl)
                      (try simp only [Act.put, List.setIfInBounds_toArray, List.set_cons_zero, List.set_cons_succ])
                      refine wpList_exec_if (op := { dst := some 104, op := Op.move (Operand.tmp 15), type := 9, pos := "outright.go:73", after := #[{ on := 2, ground := Ground.guard }], guard := some (2, true) }) (by kernel_rfl) ?_ ?_ ?_
                      rotate_left
                      · (go_simp; try with_reducible rfl)
                      (try simp only [Act.put, List.setIfInBounds_toArray, List.set_cons_zero, List.set_cons_succ])
                      refine wpList_exec_if (op := { dst := some 105, op := Op.call { callee := Callee.builtin Builtin.len, args := #[Operand.tmp 104], argTypes := #[9] }, type := 3, pos := "outright.go:73", after := #[{ on := 4, ground := Ground.data }, { on := 2, ground := Ground.guard }], guard := some (2, true) }) (by kernel_rfl) ?_ ?_ ?_
                      rotate_left
                      · (go_simp; try with_reducible rfl)
                      (try simp only [Act.put, List.setIfInBounds_toArray, List.set_cons_zero, List.set_cons_succ])
                      refine wpList_exec_if (op := { dst := some 106, op := Op.binOp BinOp.sub 3 (Operand.tmp 105) (Operand.const (Value.int IntKind.i64 1)) 3, type := 3, pos := "outright.go:73", after := #[{ on := 5, ground := Ground.data }, { on := 2, ground := Ground.guard }], guard := some (2, true) }) (by kernel_rfl) ?_ ?_ ?_
                      rotate_left
                      · (go_simp; try with_reducible rfl)
                      (try simp only [Act.put, List.setIfInBounds_toArray, List.set_cons_zero, List.set_cons_succ])
                      refine wpList_exec_if (op := { dst := some 107, op := Op.index 9 (Operand.tmp 103) (Operand.tmp 106), type := 5, pos := "outright.go:73", after := #[{ on := 3, ground := Ground.data }, { on := 6, ground := Ground.data }, { on := 2, ground := Ground.guard }], guard := some (2, true) }) (by kernel_rfl) ?_ ?_ ?_
                      rotate_left
                      · (go_simp; try with_reducible rfl)
                      (try simp only [Act.put, List.setIfInBounds_toArray, List.set_cons_zero, List.set_cons_succ])
                      refine wpList_exec_if (op := { dst := some 108, op := Op.binOp BinOp.neq 5 (Operand.tmp 107) (Operand.const (Value.int IntKind.u8 58)) 5, type := 4, pos := "outright.go:73", after := #[{ on := 7, ground := Ground.data }, { on := 2, ground := Ground.guard }], guard := some (2, true) }) (by kernel_rfl) ?_ ?_ ?_
                      rotate_left
                      · (go_simp; try with_reducible rfl)
                      (try simp only [Act.put, List.setIfInBounds_toArray, List.set_cons_zero, List.set_cons_succ])
                      refine wpList_exec_if (op := { dst := some 109, op := Op.pick (Operand.tmp 102) (Operand.tmp 108) (Operand.const (Value.bool false)), type := 4, pos := "outright.go:73", after := #[{ on := 2, ground := Ground.data }, { on := 8, ground := Ground.data }], guard := none }) (by kernel_rfl) ?_ ?_ ?_
                      rotate_left
                      · (go_simp; try with_reducible rfl)
                      (try simp only [Act.put, List.setIfInBounds_toArray, List.set_cons_zero, List.set_cons_succ])
                      refine wpList_nil ?_
                      clear hix hse hse2 hcn kws
                      go_upto_region 26 with (fail)
                      generalize hS1 : S ++ (⟨#[58]⟩ : ByteArray) = S1 at *
                      have HB1 : Hid (bl S1 = bl S ++ [58]) := Lib.hid (by rw [← hS1, bl_app]; rfl)
                      have HZ1 : Hid (S1.size ≤ 81) := Lib.hid (by rw [← bl_len, HB1.out, List.length_append, bl_len]; show S.size + 1 ≤ 81; omega)
                      clear hS1
                      refine wp_region_list ?_
                      refine wpList_exec_if (op := { dst := some 112, op := Op.move (Operand.tmp 16), type := 3, pos := "outright.go:76", after := #[], guard := none }) (by kernel_rfl) ?_ ?_ ?_
                      rotate_left
                      · (go_simp; try with_reducible rfl)
                      (try simp only [Act.put, List.setIfInBounds_toArray, List.set_cons_zero, List.set_cons_succ])
                      refine wpList_exec_if (op := { dst := some 113, op := Op.move (Operand.tmp 12), type := 3, pos := "outright.go:76", after := #[], guard := none }) (by kernel_rfl) ?_ ?_ ?_
                      rotate_left
                      · (go_simp; try with_reducible rfl)
                      (try simp only [Act.put, List.setIfInBounds_toArray, List.set_cons_zero, List.set_cons_succ])
                      refine wpList_exec_if (op := { dst := some 114, op := Op.binOp BinOp.eql 3 (Operand.tmp 112) (Operand.tmp 113) 3, type := 4, pos := "outright.go:76", after := #[{ on := 0, ground := Ground.data }, { on := 1, ground := Ground.data }], guard := none }) (by kernel_rfl) ?_ ?_ ?_
                      rotate_left
                      · (go_simp; try with_reducible rfl)
                      (try simp only [Act.put, List.setIfInBounds_toArray, List.set_cons_zero, List.set_cons_succ])
                      go_upto_region 28 with (fail)
                      refine wp_region_list ?_
                      refine wpList_exec_if (op := { dst := some 134, op := Op.move (Operand.tmp 16), type := 3, pos := "outright.go:79", after := #[], guard := none }) (by kernel_rfl) ?_ ?_ ?_
                      rotate_left
                      · (go_simp; try with_reducible rfl)
                      (try simp only [Act.put, List.setIfInBounds_toArray, List.set_cons_zero, List.set_cons_succ])
                      refine wpList_exec_if (op := { dst := some 135, op := Op.move (Operand.tmp 12), type := 3, pos := "outright.go:79", after := #[], guard := none }) (by kernel_rfl) ?_ ?_ ?_
                      rotate_left
                      · (go_simp; try with_reducible rfl)
                      (try simp only [Act.put, List.setIfInBounds_toArray, List.set_cons_zero, List.set_cons_succ])
                      refine wpList_exec_if (op := { dst := some 136, op := Op.binOp BinOp.eql 3 (Operand.tmp 134) (Operand.tmp 135) 3, type := 4, pos := "outright.go:79", after := #[{ on := 0, ground := Ground.data }, { on := 1, ground := Ground.data }], guard := none }) (by kernel_rfl) ?_ ?_ ?_
                      rotate_left
                      · (go_simp; try with_reducible rfl)
                      (try simp only [Act.put, List.setIfInBounds_toArray, List.set_cons_zero, List.set_cons_succ])
                      have HSn : Hid (bl (S1 ++ H2) = shT (wds y (bitF wide) (bitF great)) a k (i + 1)) := Lib.hid (by
                        rw [(sh_plain (W := (wds y (bitF wide) (bitF great))) (a := a) (b := k) (i := i) (.inl c1)).1]
                        rw [bl_app, HB1.out, hS.out, (sh_plain (W := (wds y (bitF wide) (bitF great))) (a := a) (b := k) (i := i) (.inl c1)).2, long_up (Nat.pos_of_ne_zero ez) hiW, HWi.out])
                      have hz3 := HZ1.out
                      go_wp2_with fail
                      go_roundw
                      case rel => exact ⟨i + 1, _, _, hlt, rfl, rfl, by go_num, HLn, HSn, HKe.out⟩
                      case measure => simp [intOf]; omega
                · have c2 : k ≤ i := by omega
                  clear hsk
                  by_cases c3 : a < k
                  · by_cases c4 : i = k
                    · clear c1 c2
                      obtain rfl : i = k := c4
                      by_cases ea0 : a = 0
                      · as_aux_lemma =>
                          obtain rfl : S = ⟨#[]⟩ := no_text (by rw [hS.out, (sh_at (W := (wds y (bitF wide) (bitF great))) (a := a) (b := i) c3 hiW).1, ea0, List.take_zero]; rfl)
                          have HA0 := Lib.hid ea0
                          have z1 : ((a : Int) == 0) = true := by rw [beq_iff_eq]; omega
                          clear ea0
                          have f14 : a ≤ i := by omega
                          have g14 : (a : Int) ≤ (i : Int) := by omega
                          have f15 : a < i := by omega
                          have g15 : (a : Int) < (i : Int) := by omega
                          go_upto_region 24 with (fail)
                          refine wp_region_list ?_
                          refine wpList_exec_if (op := { dst := some 100, op := Op.move (Operand.tmp 15), type := 9, pos := "outright.go:73", after := #[], guard := none }) (by kernel_rfl) ?_ ?_ ?_
                          rotate_left
                          · (go_simp; try with_reducible rfl)
                          (try simp only [Act.put, List.setIfInBounds_toArray, List.set_cons_zero, List.set_cons_succ])
                          refine wpList_exec_if (op := { dst := some 101, op := Op.binOp BinOp.neq 9 (Operand.tmp 100) (Operand.const (Value.string { data := #[] })) 9, type := 4, pos := "outright.go:73", after := #[{ on := 0, ground := Ground.data }], guard := none }) (by kernel_rfl) ?_ ?_ ?_
                          rotate_left
                          · (go_simp; try with_reducible rfl)
                          (try simp only [Act.put, List.setIfInBounds_toArray, List.set_cons_zero, List.set_cons_succ])
                          go_upto_region 26 with (fail)
                          refine wp_region_list ?_
                          refine wpList_exec_if (op := { dst := some 112, op := Op.move (Operand.tmp 16), type := 3, pos := "outright.go:76", after := #[], guard := none }) (by kernel_rfl) ?_ ?_ ?_
                          rotate_left
                          · (go_simp; try with_reducible rfl)
                          (try simp only [Act.put, List.setIfInBounds_toArray, List.set_cons_zero, List.set_cons_succ])
                          refine wpList_exec_if (op := { dst := some 113, op := Op.move (Operand.tmp 12), type := 3, pos := "outright.go:76", after := #[], guard := none }) (by kernel_rfl) ?_ ?_ ?_
                          rotate_left
                          · (go_simp; try with_reducible rfl)
                          (try simp only [Act.put, List.setIfInBounds_toArray, List.set_cons_zero, List.set_cons_succ])
                          refine wpList_exec_if (op := { dst := some 114, op := Op.binOp BinOp.eql 3 (Operand.tmp 112) (Operand.tmp 113) 3, type := 4, pos := "outright.go:76", after := #[{ on := 0, ground := Ground.data }, { on := 1, ground := Ground.data }], guard := none }) (by kernel_rfl) ?_ ?_ ?_
                          rotate_left
                          · (go_simp; try with_reducible rfl)
                          (try simp only [Act.put, List.setIfInBounds_toArray, List.set_cons_zero, List.set_cons_succ])
                          refine wpList_exec_if (op := { dst := some 115, op := Op.move (Operand.tmp 114), type := 4, pos := "outright.go:76", after := #[{ on := 2, ground := Ground.data }], guard := none }) (by kernel_rfl) ?_ ?_ ?_
                          rotate_left
                          · (go_simp; try with_reducible rfl)
                          (try simp only [Act.put, List.setIfInBounds_toArray, List.set_cons_zero, List.set_cons_succ])
                          refine wpList_exec_if (op := { dst := some 116, op := Op.move (Operand.tmp 12), type := 3, pos := "outright.go:76", after := #[{ on := 3, ground := Ground.guard }], guard := some (3, true) }) (by kernel_rfl) ?_ ?_ ?_
                          rotate_left
                          · (go_simp; try with_reducible rfl)
                          (try simp only [Act.put, List.setIfInBounds_toArray, List.set_cons_zero, List.set_cons_succ])
                          refine wpList_exec_if (op := { dst := some 117, op := Op.move (Operand.tmp 11), type := 3, pos := "outright.go:76", after := #[{ on := 3, ground := Ground.guard }], guard := some (3, true) }) (by kernel_rfl) ?_ ?_ ?_
                          rotate_left
                          · (go_simp; try with_reducible rfl)
                          (try simp only [Act.put, List.setIfInBounds_toArray, List.set_cons_zero, List.set_cons_succ])
                          refine wpList_exec_if (op := { dst := some 118, op := Op.binOp BinOp.gtr 3 (Operand.tmp 116) (Operand.tmp 117) 3, type := 4, pos := "outright.go:76", after := #[{ on := 4, ground := Ground.data }, { on := 5, ground := Ground.data }, { on := 3, ground := Ground.guard }], guard := some (3, true) }) (by kernel_rfl) ?_ ?_ ?_
                          rotate_left
                          · (go_simp; try with_reducible rfl)
                          (try simp only [Act.put, List.setIfInBounds_toArray, List.set_cons_zero, List.set_cons_succ])
                          refine wpList_exec_if (op := { dst := some 119, op := Op.pick (Operand.tmp 115) (Operand.tmp 118) (Operand.const (Value.bool false)), type := 4, pos := "outright.go:76", after := #[{ on := 3, ground := Ground.data }, { on := 6, ground := Ground.data }], guard := none }) (by kernel_rfl) ?_ ?_ ?_
                          rotate_left
                          · (go_simp; try with_reducible rfl)
                          (try simp only [Act.put, List.setIfInBounds_toArray, List.set_cons_zero, List.set_cons_succ])
                          refine wpList_exec_if (op := { dst := some 120, op := Op.move (Operand.tmp 119), type := 4, pos := "outright.go:76", after := #[{ on := 7, ground := Ground.data }, { on := 3, ground := Ground.chain }], guard := none }) (by kernel_rfl) ?_ ?_ ?_
                          rotate_left
                          · (go_simp; try with_reducible rfl)
                          (try simp only [Act.put, List.setIfInBounds_toArray, List.set_cons_zero, List.set_cons_succ])
                          refine wpList_exec_if (op := { dst := some 121, op := Op.move (Operand.tmp 15), type := 9, pos := "outright.go:76", after := #[{ on := 8, ground := Ground.guard }], guard := some (8, true) }) (by kernel_rfl) ?_ ?_ ?_
                          rotate_left
                          · (go_simp; try with_reducible rfl)
                          (try simp only [Act.put, List.setIfInBounds_toArray, List.set_cons_zero, List.set_cons_succ])
                          refine wpList_exec_if (op := { dst := some 122, op := Op.binOp BinOp.eql 9 (Operand.tmp 121) (Operand.const (Value.string { data := #[] })) 9, type := 4, pos := "outright.go:76", after := #[{ on := 9, ground := Ground.data }, { on := 8, ground := Ground.guard }], guard := some (8, true) }) (by kernel_rfl) ?_ ?_ ?_
                          rotate_left
                          · (go_simp; try with_reducible rfl)
                          (try simp only [Act.put, List.setIfInBounds_toArray, List.set_cons_zero, List.set_cons_succ])
                          go_upto_region 28 with (fail)
                          refine wp_region_list ?_
                          refine wpList_exec_if (op := { dst := some 134, op := Op.move (Operand.tmp 16), type := 3, pos := "outright.go:79", after := #[], guard := none }) (by kernel_rfl) ?_ ?_ ?_
                          rotate_left
                          · (go_simp; try with_reducible rfl)
                          (try simp only [Act.put, List.setIfInBounds_toArray, List.set_cons_zero, List.set_cons_succ])
                          refine wpList_exec_if (op := { dst := some 135, op := Op.move (Operand.tmp 12), type := 3, pos := "outright.go:79", after := #[], guard := none }) (by kernel_rfl) ?_ ?_ ?_
                          rotate_left
                          · (go_simp; try with_reducible rfl)
                          (try simp only [Act.put, List.setIfInBounds_toArray, List.set_cons_zero, List.set_cons_succ])
                          refine wpList_exec_if (op := { dst := some 136, op := Op.binOp BinOp.eql 3 (Operand.tmp 134) (Operand.tmp 135) 3, type := 4, pos := "outright.go:79", after := #[{ on := 0, ground := Ground.data }, { on := 1, ground := Ground.data }], guard := none }) (by kernel_rfl) ?_ ?_ ?_
                          rotate_left
                          · (go_simp; try with_reducible rfl)
                          (try simp only [Act.put, List.setIfInBounds_toArray, List.set_cons_zero, List.set_cons_succ])
                          refine wpList_exec_if (op := { dst := some 137, op := Op.move (Operand.tmp 136), type := 4, pos := "outright.go:79", after := #[{ on := 2, ground := Ground.data }], guard := none }) (by kernel_rfl) ?_ ?_ ?_
                          rotate_left
                          · (go_simp; try with_reducible rfl)
                          (try simp only [Act.put, List.setIfInBounds_toArray, List.set_cons_zero, List.set_cons_succ])
                          refine wpList_exec_if (op := { dst := some 138, op := Op.move (Operand.tmp 12), type := 3, pos := "outright.go:79", after := #[{ on := 3, ground := Ground.guard }], guard := some (3, true) }) (by kernel_rfl) ?_ ?_ ?_
                          rotate_left
                          · (go_simp; try with_reducible rfl)
                          (try simp only [Act.put, List.setIfInBounds_toArray, List.set_cons_zero, List.set_cons_succ])
                          refine wpList_exec_if (op := { dst := some 139, op := Op.move (Operand.tmp 11), type := 3, pos := "outright.go:79", after := #[{ on := 3, ground := Ground.guard }], guard := some (3, true) }) (by kernel_rfl) ?_ ?_ ?_
                          rotate_left
                          · (go_simp; try with_reducible rfl)
                          (try simp only [Act.put, List.setIfInBounds_toArray, List.set_cons_zero, List.set_cons_succ])
                          refine wpList_exec_if (op := { dst := some 140, op := Op.binOp BinOp.gtr 3 (Operand.tmp 138) (Operand.tmp 139) 3, type := 4, pos := "outright.go:79", after := #[{ on := 4, ground := Ground.data }, { on := 5, ground := Ground.data }, { on := 3, ground := Ground.guard }], guard := some (3, true) }) (by kernel_rfl) ?_ ?_ ?_
                          rotate_left
                          · (go_simp; try with_reducible rfl)
                          (try simp only [Act.put, List.setIfInBounds_toArray, List.set_cons_zero, List.set_cons_succ])
                          refine wpList_exec_if (op := { dst := some 141, op := Op.pick (Operand.tmp 137) (Operand.tmp 140) (Operand.const (Value.bool false)), type := 4, pos := "outright.go:79", after := #[{ on := 3, ground := Ground.data }, { on := 6, ground := Ground.data }], guard := none }) (by kernel_rfl) ?_ ?_ ?_
                          rotate_left
                          · (go_simp; try with_reducible rfl)
                          (try simp only [Act.put, List.setIfInBounds_toArray, List.set_cons_zero, List.set_cons_succ])
                          refine wpList_exec_if (op := { dst := some 142, op := Op.move (Operand.tmp 141), type := 4, pos := "outright.go:79", after := #[{ on := 7, ground := Ground.data }, { on := 3, ground := Ground.chain }], guard := none }) (by kernel_rfl) ?_ ?_ ?_
                          rotate_left
                          · (go_simp; try with_reducible rfl)
                          (try simp only [Act.put, List.setIfInBounds_toArray, List.set_cons_zero, List.set_cons_succ])
                          refine wpList_exec_if (op := { dst := some 143, op := Op.move (Operand.tmp 11), type := 3, pos := "outright.go:79", after := #[{ on := 8, ground := Ground.guard }], guard := some (8, true) }) (by kernel_rfl) ?_ ?_ ?_
                          rotate_left
                          · (go_simp; try with_reducible rfl)
                          (try simp only [Act.put, List.setIfInBounds_toArray, List.set_cons_zero, List.set_cons_succ])
                          refine wpList_exec_if (op := { dst := some 144, op := Op.binOp BinOp.eql 3 (Operand.tmp 143) (Operand.const (Value.int IntKind.i64 0)) 3, type := 4, pos := "outright.go:79", after := #[{ on := 9, ground := Ground.data }, { on := 8, ground := Ground.guard }], guard := some (8, true) }) (by kernel_rfl) ?_ ?_ ?_
                          rotate_left
                          · (go_simp; try with_reducible rfl)
                          (try simp only [Act.put, List.setIfInBounds_toArray, List.set_cons_zero, List.set_cons_succ])
                          refine wpList_exec_if (op := { dst := some 145, op := Op.pick (Operand.tmp 142) (Operand.tmp 144) (Operand.const (Value.bool false)), type := 4, pos := "outright.go:79", after := #[{ on := 8, ground := Ground.data }, { on := 10, ground := Ground.data }], guard := none }) (by kernel_rfl) ?_ ?_ ?_
                          rotate_left
                          · (go_simp; try with_reducible rfl)
                          (try simp only [Act.put, List.setIfInBounds_toArray, List.set_cons_zero, List.set_cons_succ])
                          refine wpList_nil ?_
                          have HSn : Hid (bl ((⟨#[58, 58]⟩ : ByteArray) ++ H2) = shT (wds y (bitF wide) (bitF great)) a i (i + 1)) := Lib.hid (by
                            rw [(sh_at (W := (wds y (bitF wide) (bitF great))) (a := a) (b := i) c3 hiW).2, bl_app, HA0.out, List.take_zero, HWi.out]
                            rfl)
                          go_wp2_with fail
                          go_roundw
                          case rel => exact ⟨i + 1, _, _, hlt, rfl, rfl, by go_num, HLn, HSn, HKe.out⟩
                          case measure => simp [intOf]; omega
                      · as_aux_lemma =>
                          obtain ⟨l9, c9, hlc, hc9⟩ := sh_last HHk.out hiW (.inr (.inl ⟨c3, rfl, Nat.pos_of_ne_zero ea0⟩))
                          have hix := ix_last S l9 c9 (by rw [hS.out]; exact hlc)
                          have hse := no_list (S := S) (by rw [hS.out]; exact hlc)
                          have hse2 := no_list2 (S := S) (by rw [hS.out]; exact hlc)
                          have hcn := c58 hc9
                          clear hlc hc9
                          have f12 : a ≤ i := by omega
                          have g12 : (a : Int) ≤ (i : Int) := by omega
                          have f13 : a < i := by omega
                          have g13 : (a : Int) < (i : Int) := by omega
                          have z1 : ((a : Int) == 0) = false := by rw [beq_eq_false_iff_ne]; omega
                          go_upto_region 24 with (fail)
                          have kws : IntKind.i64.wrap ((S.size : Int) - 1) = (S.size : Int) - 1 := IntWalk.i64_in _ (by omega)
                          refine wp_region_list ?_
                          refine wpList_exec_if (op := { dst := some 100, op := Op.move (Operand.tmp 15), type := 9, pos := "outright.go:73", after := #[], guard := none }) (by kernel_rfl) ?_ ?_ ?_
                          rotate_left
                          · (go_simp; try with_reducible rfl)
                          (try simp only [Act.put, List.setIfInBounds_toArray, List.set_cons_zero, List.set_cons_succ])
                          refine wpList_exec_if (op := { dst := some 101, op := Op.binOp BinOp.neq 9 (Operand.tmp 100) (Operand.const (Value.string { data := #[] })) 9, type := 4, pos := "outright.go:73", after := #[{ on := 0, ground := Ground.data }], guard := none }) (by kernel_rfl) ?_ ?_ ?_
                          rotate_left
                          · (go_simp; try with_reducible rfl)
                          (try simp only [Act.put, List.setIfInBounds_toArray, List.set_cons_zero, List.set_cons_succ])
                          refine wpList_exec_if (op := { dst := some 102, op := Op.move (Operand.tmp 101), type := 4, pos := "outright.go:73", after := #[{ on := 1, ground := Ground.data }], guard := none }) (by kernel_rfl) ?_ ?_ ?_
                          rotate_left
                          · (go_simp; try with_reducible rfl)
                          (try simp only [Act.put, List.setIfInBounds_toArray, List.set_cons_zero, List.set_cons_succ])
                          refine wpList_exec_if (op := { dst := some 103, op := Op.move (Operand.tmp 15), type := 9, pos := "outright.go:73", after := #[{ on := 2, ground := Ground.guard }], guard := some (2, true) }) (by kernel_rfl) ?_ ?_ ?_
                          rotate_left
                          · (go_simp; try with_reducible rfl)
                          (try simp only [Act.put, List.setIfInBounds_toArray, List.set_cons_zero, List.set_cons_succ])
                          refine wpList_exec_if (op := { dst := some 104, op := Op.move (Operand.tmp 15), type := 9, pos := "outright.go:73", after := #[{ on := 2, ground := Ground.guard }], guard := some (2, true) }) (by kernel_rfl) ?_ ?_ ?_
                          rotate_left
                          · (go_simp; try with_reducible rfl)
                          (try simp only [Act.put, List.setIfInBounds_toArray, List.set_cons_zero, List.set_cons_succ])
                          refine wpList_exec_if (op := { dst := some 105, op := Op.call { callee := Callee.builtin Builtin.len, args := #[Operand.tmp 104], argTypes := #[9] }, type := 3, pos := "outright.go:73", after := #[{ on := 4, ground := Ground.data }, { on := 2, ground := Ground.guard }], guard := some (2, true) }) (by kernel_rfl) ?_ ?_ ?_
                          rotate_left
                          · (go_simp; try with_reducible rfl)
                          (try simp only [Act.put, List.setIfInBounds_toArray, List.set_cons_zero, List.set_cons_succ])
                          refine wpList_exec_if (op := { dst := some 106, op := Op.binOp BinOp.sub 3 (Operand.tmp 105) (Operand.const (Value.int IntKind.i64 1)) 3, type := 3, pos := "outright.go:73", after := #[{ on := 5, ground := Ground.data }, { on := 2, ground := Ground.guard }], guard := some (2, true) }) (by kernel_rfl) ?_ ?_ ?_
                          rotate_left
                          · (go_simp; try with_reducible rfl)
                          (try simp only [Act.put, List.setIfInBounds_toArray, List.set_cons_zero, List.set_cons_succ])
                          refine wpList_exec_if (op := { dst := some 107, op := Op.index 9 (Operand.tmp 103) (Operand.tmp 106), type := 5, pos := "outright.go:73", after := #[{ on := 3, ground := Ground.data }, { on := 6, ground := Ground.data }, { on := 2, ground := Ground.guard }], guard := some (2, true) }) (by kernel_rfl) ?_ ?_ ?_
                          rotate_left
                          · (go_simp; try with_reducible rfl)
                          (try simp only [Act.put, List.setIfInBounds_toArray, List.set_cons_zero, List.set_cons_succ])
                          refine wpList_exec_if (op := { dst := some 108, op := Op.binOp BinOp.neq 5 (Operand.tmp 107) (Operand.const (Value.int IntKind.u8 58)) 5, type := 4, pos := "outright.go:73", after := #[{ on := 7, ground := Ground.data }, { on := 2, ground := Ground.guard }], guard := some (2, true) }) (by kernel_rfl) ?_ ?_ ?_
                          rotate_left
                          · (go_simp; try with_reducible rfl)
                          (try simp only [Act.put, List.setIfInBounds_toArray, List.set_cons_zero, List.set_cons_succ])
                          refine wpList_exec_if (op := { dst := some 109, op := Op.pick (Operand.tmp 102) (Operand.tmp 108) (Operand.const (Value.bool false)), type := 4, pos := "outright.go:73", after := #[{ on := 2, ground := Ground.data }, { on := 8, ground := Ground.data }], guard := none }) (by kernel_rfl) ?_ ?_ ?_
                          rotate_left
                          · (go_simp; try with_reducible rfl)
                          (try simp only [Act.put, List.setIfInBounds_toArray, List.set_cons_zero, List.set_cons_succ])
                          refine wpList_nil ?_
                          clear hix hse hse2 hcn kws
                          go_upto_region 26 with (fail)
                          generalize hS1 : S ++ (⟨#[58]⟩ : ByteArray) = S1 at *
                          have HB1 : Hid (bl S1 = bl S ++ [58]) := Lib.hid (by rw [← hS1, bl_app]; rfl)
                          have HZ1 : Hid (S1.size ≤ 81) := Lib.hid (by rw [← bl_len, HB1.out, List.length_append, bl_len]; show S.size + 1 ≤ 81; omega)
                          clear hS1
                          have hz1 := HZ1.out
                          have kws : IntKind.i64.wrap ((S1.size : Int) - 1) = (S1.size : Int) - 1 := IntWalk.i64_in _ (by omega)
                          have hix := ix_last S1 (bl S) 58 HB1.out
                          have hse := no_list HB1.out
                          have hse2 := no_list2 HB1.out
                          refine wp_region_list ?_
                          refine wpList_exec_if (op := { dst := some 112, op := Op.move (Operand.tmp 16), type := 3, pos := "outright.go:76", after := #[], guard := none }) (by kernel_rfl) ?_ ?_ ?_
                          rotate_left
                          · (go_simp; try with_reducible rfl)
                          (try simp only [Act.put, List.setIfInBounds_toArray, List.set_cons_zero, List.set_cons_succ])
                          refine wpList_exec_if (op := { dst := some 113, op := Op.move (Operand.tmp 12), type := 3, pos := "outright.go:76", after := #[], guard := none }) (by kernel_rfl) ?_ ?_ ?_
                          rotate_left
                          · (go_simp; try with_reducible rfl)
                          (try simp only [Act.put, List.setIfInBounds_toArray, List.set_cons_zero, List.set_cons_succ])
                          refine wpList_exec_if (op := { dst := some 114, op := Op.binOp BinOp.eql 3 (Operand.tmp 112) (Operand.tmp 113) 3, type := 4, pos := "outright.go:76", after := #[{ on := 0, ground := Ground.data }, { on := 1, ground := Ground.data }], guard := none }) (by kernel_rfl) ?_ ?_ ?_
                          rotate_left
                          · (go_simp; try with_reducible rfl)
                          (try simp only [Act.put, List.setIfInBounds_toArray, List.set_cons_zero, List.set_cons_succ])
                          refine wpList_exec_if (op := { dst := some 115, op := Op.move (Operand.tmp 114), type := 4, pos := "outright.go:76", after := #[{ on := 2, ground := Ground.data }], guard := none }) (by kernel_rfl) ?_ ?_ ?_
                          rotate_left
                          · (go_simp; try with_reducible rfl)
                          (try simp only [Act.put, List.setIfInBounds_toArray, List.set_cons_zero, List.set_cons_succ])
                          refine wpList_exec_if (op := { dst := some 116, op := Op.move (Operand.tmp 12), type := 3, pos := "outright.go:76", after := #[{ on := 3, ground := Ground.guard }], guard := some (3, true) }) (by kernel_rfl) ?_ ?_ ?_
                          rotate_left
                          · (go_simp; try with_reducible rfl)
                          (try simp only [Act.put, List.setIfInBounds_toArray, List.set_cons_zero, List.set_cons_succ])
                          refine wpList_exec_if (op := { dst := some 117, op := Op.move (Operand.tmp 11), type := 3, pos := "outright.go:76", after := #[{ on := 3, ground := Ground.guard }], guard := some (3, true) }) (by kernel_rfl) ?_ ?_ ?_
                          rotate_left
                          · (go_simp; try with_reducible rfl)
                          (try simp only [Act.put, List.setIfInBounds_toArray, List.set_cons_zero, List.set_cons_succ])
                          refine wpList_exec_if (op := { dst := some 118, op := Op.binOp BinOp.gtr 3 (Operand.tmp 116) (Operand.tmp 117) 3, type := 4, pos := "outright.go:76", after := #[{ on := 4, ground := Ground.data }, { on := 5, ground := Ground.data }, { on := 3, ground := Ground.guard }], guard := some (3, true) }) (by kernel_rfl) ?_ ?_ ?_
                          rotate_left
                          · (go_simp; try with_reducible rfl)
                          (try simp only [Act.put, List.setIfInBounds_toArray, List.set_cons_zero, List.set_cons_succ])
                          refine wpList_exec_if (op := { dst := some 119, op := Op.pick (Operand.tmp 115) (Operand.tmp 118) (Operand.const (Value.bool false)), type := 4, pos := "outright.go:76", after := #[{ on := 3, ground := Ground.data }, { on := 6, ground := Ground.data }], guard := none }) (by kernel_rfl) ?_ ?_ ?_
                          rotate_left
                          · (go_simp; try with_reducible rfl)
                          (try simp only [Act.put, List.setIfInBounds_toArray, List.set_cons_zero, List.set_cons_succ])
                          refine wpList_exec_if (op := { dst := some 120, op := Op.move (Operand.tmp 119), type := 4, pos := "outright.go:76", after := #[{ on := 7, ground := Ground.data }, { on := 3, ground := Ground.chain }], guard := none }) (by kernel_rfl) ?_ ?_ ?_
                          rotate_left
                          · (go_simp; try with_reducible rfl)
                          (try simp only [Act.put, List.setIfInBounds_toArray, List.set_cons_zero, List.set_cons_succ])
                          refine wpList_exec_if (op := { dst := some 121, op := Op.move (Operand.tmp 15), type := 9, pos := "outright.go:76", after := #[{ on := 8, ground := Ground.guard }], guard := some (8, true) }) (by kernel_rfl) ?_ ?_ ?_
                          rotate_left
                          · (go_simp; try with_reducible rfl)
                          (try simp only [Act.put, List.setIfInBounds_toArray, List.set_cons_zero, List.set_cons_succ])
                          refine wpList_exec_if (op := { dst := some 122, op := Op.binOp BinOp.eql 9 (Operand.tmp 121) (Operand.const (Value.string { data := #[] })) 9, type := 4, pos := "outright.go:76", after := #[{ on := 9, ground := Ground.data }, { on := 8, ground := Ground.guard }], guard := some (8, true) }) (by kernel_rfl) ?_ ?_ ?_
                          rotate_left
                          · (go_simp; try with_reducible rfl)
                          (try simp only [Act.put, List.setIfInBounds_toArray, List.set_cons_zero, List.set_cons_succ])
                          refine wpList_exec_if (op := { dst := some 123, op := Op.move (Operand.tmp 122), type := 4, pos := "outright.go:76", after := #[{ on := 10, ground := Ground.data }, { on := 8, ground := Ground.chain }, { on := 8, ground := Ground.guard }], guard := some (8, true) }) (by kernel_rfl) ?_ ?_ ?_
                          rotate_left
                          · (go_simp; try with_reducible rfl)
                          (try simp only [Act.put, List.setIfInBounds_toArray, List.set_cons_zero, List.set_cons_succ])
                          refine wpList_exec_if (op := { dst := some 124, op := Op.move (Operand.tmp 15), type := 9, pos := "outright.go:76", after := #[{ on := 11, ground := Ground.guard }], guard := some (11, false) }) (by kernel_rfl) ?_ ?_ ?_
                          rotate_left
                          · (go_simp; try with_reducible rfl)
                          (try simp only [Act.put, List.setIfInBounds_toArray, List.set_cons_zero, List.set_cons_succ])
                          refine wpList_exec_if (op := { dst := some 125, op := Op.move (Operand.tmp 15), type := 9, pos := "outright.go:76", after := #[{ on := 11, ground := Ground.guard }], guard := some (11, false) }) (by kernel_rfl) ?_ ?_ ?_
                          rotate_left
                          · (go_simp; try with_reducible rfl)
                          (try simp only [Act.put, List.setIfInBounds_toArray, List.set_cons_zero, List.set_cons_succ])
                          refine wpList_exec_if (op := { dst := some 126, op := Op.call { callee := Callee.builtin Builtin.len, args := #[Operand.tmp 125], argTypes := #[9] }, type := 3, pos := "outright.go:76", after := #[{ on := 13, ground := Ground.data }, { on := 11, ground := Ground.guard }], guard := some (11, false) }) (by kernel_rfl) ?_ ?_ ?_
                          rotate_left
                          · (go_simp; try with_reducible rfl)
                          (try simp only [Act.put, List.setIfInBounds_toArray, List.set_cons_zero, List.set_cons_succ])
                          refine wpList_exec_if (op := { dst := some 127, op := Op.binOp BinOp.sub 3 (Operand.tmp 126) (Operand.const (Value.int IntKind.i64 1)) 3, type := 3, pos := "outright.go:76", after := #[{ on := 14, ground := Ground.data }, { on := 11, ground := Ground.guard }], guard := some (11, false) }) (by kernel_rfl) ?_ ?_ ?_
                          rotate_left
                          · (go_simp; try with_reducible rfl)
                          (try simp only [Act.put, List.setIfInBounds_toArray, List.set_cons_zero, List.set_cons_succ])
                          refine wpList_exec_if (op := { dst := some 128, op := Op.index 9 (Operand.tmp 124) (Operand.tmp 127), type := 5, pos := "outright.go:76", after := #[{ on := 12, ground := Ground.data }, { on := 15, ground := Ground.data }, { on := 11, ground := Ground.guard }], guard := some (11, false) }) (by kernel_rfl) ?_ ?_ ?_
                          rotate_left
                          · (go_simp; try with_reducible rfl)
                          (try simp only [Act.put, List.setIfInBounds_toArray, List.set_cons_zero, List.set_cons_succ])
                          refine wpList_exec_if (op := { dst := some 129, op := Op.binOp BinOp.eql 5 (Operand.tmp 128) (Operand.const (Value.int IntKind.u8 58)) 5, type := 4, pos := "outright.go:76", after := #[{ on := 16, ground := Ground.data }, { on := 11, ground := Ground.guard }], guard := some (11, false) }) (by kernel_rfl) ?_ ?_ ?_
                          rotate_left
                          · (go_simp; try with_reducible rfl)
                          (try simp only [Act.put, List.setIfInBounds_toArray, List.set_cons_zero, List.set_cons_succ])
                          refine wpList_exec_if (op := { dst := some 130, op := Op.pick (Operand.tmp 123) (Operand.const (Value.bool true)) (Operand.tmp 129), type := 4, pos := "outright.go:76", after := #[{ on := 11, ground := Ground.data }, { on := 17, ground := Ground.data }, { on := 8, ground := Ground.guard }], guard := some (8, true) }) (by kernel_rfl) ?_ ?_ ?_
                          rotate_left
                          · (go_simp; try with_reducible rfl)
                          (try simp only [Act.put, List.setIfInBounds_toArray, List.set_cons_zero, List.set_cons_succ])
                          refine wpList_exec_if (op := { dst := some 131, op := Op.pick (Operand.tmp 120) (Operand.tmp 130) (Operand.const (Value.bool false)), type := 4, pos := "outright.go:76", after := #[{ on := 8, ground := Ground.data }, { on := 18, ground := Ground.data }], guard := none }) (by kernel_rfl) ?_ ?_ ?_
                          rotate_left
                          · (go_simp; try with_reducible rfl)
                          (try simp only [Act.put, List.setIfInBounds_toArray, List.set_cons_zero, List.set_cons_succ])
                          refine wpList_nil ?_
                          clear kws hix hse hse2
                          go_upto_region 28 with (fail)
                          generalize hS2 : S1 ++ (⟨#[58]⟩ : ByteArray) = S2 at *
                          have HB2 : Hid (bl S2 = bl S ++ [58, 58]) := Lib.hid (by rw [← hS2, bl_app, HB1.out, List.append_assoc]; rfl)
                          have HZ2 : Hid (S2.size ≤ 82) := Lib.hid (by rw [← bl_len, HB2.out, List.length_append, bl_len]; show S.size + 2 ≤ 82; omega)
                          clear hS2
                          refine wp_region_list ?_
                          refine wpList_exec_if (op := { dst := some 134, op := Op.move (Operand.tmp 16), type := 3, pos := "outright.go:79", after := #[], guard := none }) (by kernel_rfl) ?_ ?_ ?_
                          rotate_left
                          · (go_simp; try with_reducible rfl)
                          (try simp only [Act.put, List.setIfInBounds_toArray, List.set_cons_zero, List.set_cons_succ])
                          refine wpList_exec_if (op := { dst := some 135, op := Op.move (Operand.tmp 12), type := 3, pos := "outright.go:79", after := #[], guard := none }) (by kernel_rfl) ?_ ?_ ?_
                          rotate_left
                          · (go_simp; try with_reducible rfl)
                          (try simp only [Act.put, List.setIfInBounds_toArray, List.set_cons_zero, List.set_cons_succ])
                          refine wpList_exec_if (op := { dst := some 136, op := Op.binOp BinOp.eql 3 (Operand.tmp 134) (Operand.tmp 135) 3, type := 4, pos := "outright.go:79", after := #[{ on := 0, ground := Ground.data }, { on := 1, ground := Ground.data }], guard := none }) (by kernel_rfl) ?_ ?_ ?_
                          rotate_left
                          · (go_simp; try with_reducible rfl)
                          (try simp only [Act.put, List.setIfInBounds_toArray, List.set_cons_zero, List.set_cons_succ])
                          refine wpList_exec_if (op := { dst := some 137, op := Op.move (Operand.tmp 136), type := 4, pos := "outright.go:79", after := #[{ on := 2, ground := Ground.data }], guard := none }) (by kernel_rfl) ?_ ?_ ?_
                          rotate_left
                          · (go_simp; try with_reducible rfl)
                          (try simp only [Act.put, List.setIfInBounds_toArray, List.set_cons_zero, List.set_cons_succ])
                          refine wpList_exec_if (op := { dst := some 138, op := Op.move (Operand.tmp 12), type := 3, pos := "outright.go:79", after := #[{ on := 3, ground := Ground.guard }], guard := some (3, true) }) (by kernel_rfl) ?_ ?_ ?_
                          rotate_left
                          · (go_simp; try with_reducible rfl)
                          (try simp only [Act.put, List.setIfInBounds_toArray, List.set_cons_zero, List.set_cons_succ])
                          refine wpList_exec_if (op := { dst := some 139, op := Op.move (Operand.tmp 11), type := 3, pos := "outright.go:79", after := #[{ on := 3, ground := Ground.guard }], guard := some (3, true) }) (by kernel_rfl) ?_ ?_ ?_
                          rotate_left
                          · (go_simp; try with_reducible rfl)
                          (try simp only [Act.put, List.setIfInBounds_toArray, List.set_cons_zero, List.set_cons_succ])
                          refine wpList_exec_if (op := { dst := some 140, op := Op.binOp BinOp.gtr 3 (Operand.tmp 138) (Operand.tmp 139) 3, type := 4, pos := "outright.go:79", after := #[{ on := 4, ground := Ground.data }, { on := 5, ground := Ground.data }, { on := 3, ground := Ground.guard }], guard := some (3, true) }) (by kernel_rfl) ?_ ?_ ?_
                          rotate_left
                          · (go_simp; try with_reducible rfl)
                          (try simp only [Act.put, List.setIfInBounds_toArray, List.set_cons_zero, List.set_cons_succ])
                          refine wpList_exec_if (op := { dst := some 141, op := Op.pick (Operand.tmp 137) (Operand.tmp 140) (Operand.const (Value.bool false)), type := 4, pos := "outright.go:79", after := #[{ on := 3, ground := Ground.data }, { on := 6, ground := Ground.data }], guard := none }) (by kernel_rfl) ?_ ?_ ?_
                          rotate_left
                          · (go_simp; try with_reducible rfl)
                          (try simp only [Act.put, List.setIfInBounds_toArray, List.set_cons_zero, List.set_cons_succ])
                          refine wpList_exec_if (op := { dst := some 142, op := Op.move (Operand.tmp 141), type := 4, pos := "outright.go:79", after := #[{ on := 7, ground := Ground.data }, { on := 3, ground := Ground.chain }], guard := none }) (by kernel_rfl) ?_ ?_ ?_
                          rotate_left
                          · (go_simp; try with_reducible rfl)
                          (try simp only [Act.put, List.setIfInBounds_toArray, List.set_cons_zero, List.set_cons_succ])
                          refine wpList_exec_if (op := { dst := some 143, op := Op.move (Operand.tmp 11), type := 3, pos := "outright.go:79", after := #[{ on := 8, ground := Ground.guard }], guard := some (8, true) }) (by kernel_rfl) ?_ ?_ ?_
                          rotate_left
                          · (go_simp; try with_reducible rfl)
                          (try simp only [Act.put, List.setIfInBounds_toArray, List.set_cons_zero, List.set_cons_succ])
                          refine wpList_exec_if (op := { dst := some 144, op := Op.binOp BinOp.eql 3 (Operand.tmp 143) (Operand.const (Value.int IntKind.i64 0)) 3, type := 4, pos := "outright.go:79", after := #[{ on := 9, ground := Ground.data }, { on := 8, ground := Ground.guard }], guard := some (8, true) }) (by kernel_rfl) ?_ ?_ ?_
                          rotate_left
                          · (go_simp; try with_reducible rfl)
                          (try simp only [Act.put, List.setIfInBounds_toArray, List.set_cons_zero, List.set_cons_succ])
                          refine wpList_exec_if (op := { dst := some 145, op := Op.pick (Operand.tmp 142) (Operand.tmp 144) (Operand.const (Value.bool false)), type := 4, pos := "outright.go:79", after := #[{ on := 8, ground := Ground.data }, { on := 10, ground := Ground.data }], guard := none }) (by kernel_rfl) ?_ ?_ ?_
                          rotate_left
                          · (go_simp; try with_reducible rfl)
                          (try simp only [Act.put, List.setIfInBounds_toArray, List.set_cons_zero, List.set_cons_succ])
                          refine wpList_nil ?_
                          have HSn : Hid (bl (S2 ++ H2) = shT (wds y (bitF wide) (bitF great)) a i (i + 1)) := Lib.hid (by
                            rw [(sh_at (W := (wds y (bitF wide) (bitF great))) (a := a) (b := i) c3 hiW).2, bl_app, HB2.out, hS.out, (sh_at (W := (wds y (bitF wide) (bitF great))) (a := a) (b := i) c3 hiW).1, HWi.out])
                          have hz3 := HZ2.out
                          go_wp2_with fail
                          go_roundw
                          case rel => exact ⟨i + 1, _, _, hlt, rfl, rfl, by go_num, HLn, HSn, HKe.out⟩
                          case measure => simp [intOf]; omega
                    · have c5 : k < i := by omega
                      as_aux_lemma =>
                        obtain ⟨l9, c9, hlc, hc9⟩ := sh_last HHk.out hiW (.inr (.inr ⟨c3, c5⟩))
                        have hix := ix_last S l9 c9 (by rw [hS.out]; exact hlc)
                        have hse := no_list (S := S) (by rw [hS.out]; exact hlc)
                        have hse2 := no_list2 (S := S) (by rw [hS.out]; exact hlc)
                        have hcn := c58 hc9
                        clear hlc hc9
                        have f9 : a ≤ i := by omega
                        have g9 : (a : Int) ≤ (i : Int) := by omega
                        have f10 : ¬ i < k := by omega
                        have g10 : ¬ (i : Int) < (k : Int) := by omega
                        have f11 : ¬ i = k := by omega
                        have g11 : ((i : Int) == (k : Int)) = false := by rw [beq_eq_false_iff_ne]; omega
                        have h11 : (i == k) = false := by rw [beq_eq_false_iff_ne]; omega
                        go_upto_region 24 with (fail)
                        have kws : IntKind.i64.wrap ((S.size : Int) - 1) = (S.size : Int) - 1 := IntWalk.i64_in _ (by omega)
                        refine wp_region_list ?_
                        refine wpList_exec_if (op := { dst := some 100, op := Op.move (Operand.tmp 15), type := 9, pos := "outright.go:73", after := #[], guard := none }) (by kernel_rfl) ?_ ?_ ?_
                        rotate_left
                        · (go_simp; try with_reducible rfl)
                        (try simp only [Act.put, List.setIfInBounds_toArray, List.set_cons_zero, List.set_cons_succ])
                        refine wpList_exec_if (op := { dst := some 101, op := Op.binOp BinOp.neq 9 (Operand.tmp 100) (Operand.const (Value.string { data := #[] })) 9, type := 4, pos := "outright.go:73", after := #[{ on := 0, ground := Ground.data }], guard := none }) (by kernel_rfl) ?_ ?_ ?_
                        rotate_left
                        · (go_simp; try with_reducible rfl)
                        (try simp only [Act.put, List.setIfInBounds_toArray, List.set_cons_zero, List.set_cons_succ])
                        refine wpList_exec_if (op := { dst := some 102, op := Op.move (Operand.tmp 101), type := 4, pos := "outright.go:73", after := #[{ on := 1, ground := Ground.data }], guard := none }) (by kernel_rfl) ?_ ?_ ?_
                        rotate_left
                        · (go_simp; try with_reducible rfl)
                        (try simp only [Act.put, List.setIfInBounds_toArray, List.set_cons_zero, List.set_cons_succ])
                        refine wpList_exec_if (op := { dst := some 103, op := Op.move (Operand.tmp 15), type := 9, pos := "outright.go:73", after := #[{ on := 2, ground := Ground.guard }], guard := some (2, true) }) (by kernel_rfl) ?_ ?_ ?_
                        rotate_left
                        · (go_simp; try with_reducible rfl)
                        (try simp only [Act.put, List.setIfInBounds_toArray, List.set_cons_zero, List.set_cons_succ])
                        refine wpList_exec_if (op := { dst := some 104, op := Op.move (Operand.tmp 15), type := 9, pos := "outright.go:73", after := #[{ on := 2, ground := Ground.guard }], guard := some (2, true) }) (by kernel_rfl) ?_ ?_ ?_
                        rotate_left
                        · (go_simp; try with_reducible rfl)
                        (try simp only [Act.put, List.setIfInBounds_toArray, List.set_cons_zero, List.set_cons_succ])
                        refine wpList_exec_if (op := { dst := some 105, op := Op.call { callee := Callee.builtin Builtin.len, args := #[Operand.tmp 104], argTypes := #[9] }, type := 3, pos := "outright.go:73", after := #[{ on := 4, ground := Ground.data }, { on := 2, ground := Ground.guard }], guard := some (2, true) }) (by kernel_rfl) ?_ ?_ ?_
                        rotate_left
                        · (go_simp; try with_reducible rfl)
                        (try simp only [Act.put, List.setIfInBounds_toArray, List.set_cons_zero, List.set_cons_succ])
                        refine wpList_exec_if (op := { dst := some 106, op := Op.binOp BinOp.sub 3 (Operand.tmp 105) (Operand.const (Value.int IntKind.i64 1)) 3, type := 3, pos := "outright.go:73", after := #[{ on := 5, ground := Ground.data }, { on := 2, ground := Ground.guard }], guard := some (2, true) }) (by kernel_rfl) ?_ ?_ ?_
                        rotate_left
                        · (go_simp; try with_reducible rfl)
                        (try simp only [Act.put, List.setIfInBounds_toArray, List.set_cons_zero, List.set_cons_succ])
                        refine wpList_exec_if (op := { dst := some 107, op := Op.index 9 (Operand.tmp 103) (Operand.tmp 106), type := 5, pos := "outright.go:73", after := #[{ on := 3, ground := Ground.data }, { on := 6, ground := Ground.data }, { on := 2, ground := Ground.guard }], guard := some (2, true) }) (by kernel_rfl) ?_ ?_ ?_
                        rotate_left
                        · (go_simp; try with_reducible rfl)
                        (try simp only [Act.put, List.setIfInBounds_toArray, List.set_cons_zero, List.set_cons_succ])
                        refine wpList_exec_if (op := { dst := some 108, op := Op.binOp BinOp.neq 5 (Operand.tmp 107) (Operand.const (Value.int IntKind.u8 58)) 5, type := 4, pos := "outright.go:73", after := #[{ on := 7, ground := Ground.data }, { on := 2, ground := Ground.guard }], guard := some (2, true) }) (by kernel_rfl) ?_ ?_ ?_
                        rotate_left
                        · (go_simp; try with_reducible rfl)
                        (try simp only [Act.put, List.setIfInBounds_toArray, List.set_cons_zero, List.set_cons_succ])
                        refine wpList_exec_if (op := { dst := some 109, op := Op.pick (Operand.tmp 102) (Operand.tmp 108) (Operand.const (Value.bool false)), type := 4, pos := "outright.go:73", after := #[{ on := 2, ground := Ground.data }, { on := 8, ground := Ground.data }], guard := none }) (by kernel_rfl) ?_ ?_ ?_
                        rotate_left
                        · (go_simp; try with_reducible rfl)
                        (try simp only [Act.put, List.setIfInBounds_toArray, List.set_cons_zero, List.set_cons_succ])
                        refine wpList_nil ?_
                        clear hix hse hse2 hcn kws
                        go_upto_region 26 with (fail)
                        generalize hS1 : S ++ (⟨#[58]⟩ : ByteArray) = S1 at *
                        have HB1 : Hid (bl S1 = bl S ++ [58]) := Lib.hid (by rw [← hS1, bl_app]; rfl)
                        have HZ1 : Hid (S1.size ≤ 81) := Lib.hid (by rw [← bl_len, HB1.out, List.length_append, bl_len]; show S.size + 1 ≤ 81; omega)
                        clear hS1
                        refine wp_region_list ?_
                        refine wpList_exec_if (op := { dst := some 112, op := Op.move (Operand.tmp 16), type := 3, pos := "outright.go:76", after := #[], guard := none }) (by kernel_rfl) ?_ ?_ ?_
                        rotate_left
                        · (go_simp; try with_reducible rfl)
                        (try simp only [Act.put, List.setIfInBounds_toArray, List.set_cons_zero, List.set_cons_succ])
                        refine wpList_exec_if (op := { dst := some 113, op := Op.move (Operand.tmp 12), type := 3, pos := "outright.go:76", after := #[], guard := none }) (by kernel_rfl) ?_ ?_ ?_
                        rotate_left
                        · (go_simp; try with_reducible rfl)
                        (try simp only [Act.put, List.setIfInBounds_toArray, List.set_cons_zero, List.set_cons_succ])
                        refine wpList_exec_if (op := { dst := some 114, op := Op.binOp BinOp.eql 3 (Operand.tmp 112) (Operand.tmp 113) 3, type := 4, pos := "outright.go:76", after := #[{ on := 0, ground := Ground.data }, { on := 1, ground := Ground.data }], guard := none }) (by kernel_rfl) ?_ ?_ ?_
                        rotate_left
                        · (go_simp; try with_reducible rfl)
                        (try simp only [Act.put, List.setIfInBounds_toArray, List.set_cons_zero, List.set_cons_succ])
                        go_upto_region 28 with (fail)
                        refine wp_region_list ?_
                        refine wpList_exec_if (op := { dst := some 134, op := Op.move (Operand.tmp 16), type := 3, pos := "outright.go:79", after := #[], guard := none }) (by kernel_rfl) ?_ ?_ ?_
                        rotate_left
                        · (go_simp; try with_reducible rfl)
                        (try simp only [Act.put, List.setIfInBounds_toArray, List.set_cons_zero, List.set_cons_succ])
                        refine wpList_exec_if (op := { dst := some 135, op := Op.move (Operand.tmp 12), type := 3, pos := "outright.go:79", after := #[], guard := none }) (by kernel_rfl) ?_ ?_ ?_
                        rotate_left
                        · (go_simp; try with_reducible rfl)
                        (try simp only [Act.put, List.setIfInBounds_toArray, List.set_cons_zero, List.set_cons_succ])
                        refine wpList_exec_if (op := { dst := some 136, op := Op.binOp BinOp.eql 3 (Operand.tmp 134) (Operand.tmp 135) 3, type := 4, pos := "outright.go:79", after := #[{ on := 0, ground := Ground.data }, { on := 1, ground := Ground.data }], guard := none }) (by kernel_rfl) ?_ ?_ ?_
                        rotate_left
                        · (go_simp; try with_reducible rfl)
                        (try simp only [Act.put, List.setIfInBounds_toArray, List.set_cons_zero, List.set_cons_succ])
                        have HSn : Hid (bl (S1 ++ H2) = shT (wds y (bitF wide) (bitF great)) a k (i + 1)) := Lib.hid (by
                          rw [(sh_on c3 c5 hiW).2.2, bl_app, HB1.out, hS.out, HWi.out])
                        have hz3 := HZ1.out
                        go_wp2_with fail
                        go_roundw
                        case rel => exact ⟨i + 1, _, _, hlt, rfl, rfl, by go_num, HLn, HSn, HKe.out⟩
                        case measure => simp [intOf]; omega
                  · obtain rfl : a = k := by omega
                    by_cases c4 : i = a
                    · clear c1 c2 c3
                      obtain rfl : i = a := c4
                      by_cases ez : i = 0
                      · as_aux_lemma =>
                          obtain rfl : S = ⟨#[]⟩ := no_text (by rw [hS.out, ez, shT_zero])
                          go_upto_region 24 with (fail)
                          refine wp_region_list ?_
                          refine wpList_exec_if (op := { dst := some 100, op := Op.move (Operand.tmp 15), type := 9, pos := "outright.go:73", after := #[], guard := none }) (by kernel_rfl) ?_ ?_ ?_
                          rotate_left
                          · (go_simp; try with_reducible rfl)
                          (try simp only [Act.put, List.setIfInBounds_toArray, List.set_cons_zero, List.set_cons_succ])
                          refine wpList_exec_if (op := { dst := some 101, op := Op.binOp BinOp.neq 9 (Operand.tmp 100) (Operand.const (Value.string { data := #[] })) 9, type := 4, pos := "outright.go:73", after := #[{ on := 0, ground := Ground.data }], guard := none }) (by kernel_rfl) ?_ ?_ ?_
                          rotate_left
                          · (go_simp; try with_reducible rfl)
                          (try simp only [Act.put, List.setIfInBounds_toArray, List.set_cons_zero, List.set_cons_succ])
                          go_upto_region 26 with (fail)
                          refine wp_region_list ?_
                          refine wpList_exec_if (op := { dst := some 112, op := Op.move (Operand.tmp 16), type := 3, pos := "outright.go:76", after := #[], guard := none }) (by kernel_rfl) ?_ ?_ ?_
                          rotate_left
                          · (go_simp; try with_reducible rfl)
                          (try simp only [Act.put, List.setIfInBounds_toArray, List.set_cons_zero, List.set_cons_succ])
                          refine wpList_exec_if (op := { dst := some 113, op := Op.move (Operand.tmp 12), type := 3, pos := "outright.go:76", after := #[], guard := none }) (by kernel_rfl) ?_ ?_ ?_
                          rotate_left
                          · (go_simp; try with_reducible rfl)
                          (try simp only [Act.put, List.setIfInBounds_toArray, List.set_cons_zero, List.set_cons_succ])
                          refine wpList_exec_if (op := { dst := some 114, op := Op.binOp BinOp.eql 3 (Operand.tmp 112) (Operand.tmp 113) 3, type := 4, pos := "outright.go:76", after := #[{ on := 0, ground := Ground.data }, { on := 1, ground := Ground.data }], guard := none }) (by kernel_rfl) ?_ ?_ ?_
                          rotate_left
                          · (go_simp; try with_reducible rfl)
                          (try simp only [Act.put, List.setIfInBounds_toArray, List.set_cons_zero, List.set_cons_succ])
                          refine wpList_exec_if (op := { dst := some 115, op := Op.move (Operand.tmp 114), type := 4, pos := "outright.go:76", after := #[{ on := 2, ground := Ground.data }], guard := none }) (by kernel_rfl) ?_ ?_ ?_
                          rotate_left
                          · (go_simp; try with_reducible rfl)
                          (try simp only [Act.put, List.setIfInBounds_toArray, List.set_cons_zero, List.set_cons_succ])
                          refine wpList_exec_if (op := { dst := some 116, op := Op.move (Operand.tmp 12), type := 3, pos := "outright.go:76", after := #[{ on := 3, ground := Ground.guard }], guard := some (3, true) }) (by kernel_rfl) ?_ ?_ ?_
                          rotate_left
                          · (go_simp; try with_reducible rfl)
                          (try simp only [Act.put, List.setIfInBounds_toArray, List.set_cons_zero, List.set_cons_succ])
                          refine wpList_exec_if (op := { dst := some 117, op := Op.move (Operand.tmp 11), type := 3, pos := "outright.go:76", after := #[{ on := 3, ground := Ground.guard }], guard := some (3, true) }) (by kernel_rfl) ?_ ?_ ?_
                          rotate_left
                          · (go_simp; try with_reducible rfl)
                          (try simp only [Act.put, List.setIfInBounds_toArray, List.set_cons_zero, List.set_cons_succ])
                          refine wpList_exec_if (op := { dst := some 118, op := Op.binOp BinOp.gtr 3 (Operand.tmp 116) (Operand.tmp 117) 3, type := 4, pos := "outright.go:76", after := #[{ on := 4, ground := Ground.data }, { on := 5, ground := Ground.data }, { on := 3, ground := Ground.guard }], guard := some (3, true) }) (by kernel_rfl) ?_ ?_ ?_
                          rotate_left
                          · (go_simp; try with_reducible rfl)
                          (try simp only [Act.put, List.setIfInBounds_toArray, List.set_cons_zero, List.set_cons_succ])
                          refine wpList_exec_if (op := { dst := some 119, op := Op.pick (Operand.tmp 115) (Operand.tmp 118) (Operand.const (Value.bool false)), type := 4, pos := "outright.go:76", after := #[{ on := 3, ground := Ground.data }, { on := 6, ground := Ground.data }], guard := none }) (by kernel_rfl) ?_ ?_ ?_
                          rotate_left
                          · (go_simp; try with_reducible rfl)
                          (try simp only [Act.put, List.setIfInBounds_toArray, List.set_cons_zero, List.set_cons_succ])
                          go_upto_region 28 with (fail)
                          refine wp_region_list ?_
                          refine wpList_exec_if (op := { dst := some 134, op := Op.move (Operand.tmp 16), type := 3, pos := "outright.go:79", after := #[], guard := none }) (by kernel_rfl) ?_ ?_ ?_
                          rotate_left
                          · (go_simp; try with_reducible rfl)
                          (try simp only [Act.put, List.setIfInBounds_toArray, List.set_cons_zero, List.set_cons_succ])
                          refine wpList_exec_if (op := { dst := some 135, op := Op.move (Operand.tmp 12), type := 3, pos := "outright.go:79", after := #[], guard := none }) (by kernel_rfl) ?_ ?_ ?_
                          rotate_left
                          · (go_simp; try with_reducible rfl)
                          (try simp only [Act.put, List.setIfInBounds_toArray, List.set_cons_zero, List.set_cons_succ])
                          refine wpList_exec_if (op := { dst := some 136, op := Op.binOp BinOp.eql 3 (Operand.tmp 134) (Operand.tmp 135) 3, type := 4, pos := "outright.go:79", after := #[{ on := 0, ground := Ground.data }, { on := 1, ground := Ground.data }], guard := none }) (by kernel_rfl) ?_ ?_ ?_
                          rotate_left
                          · (go_simp; try with_reducible rfl)
                          (try simp only [Act.put, List.setIfInBounds_toArray, List.set_cons_zero, List.set_cons_succ])
                          refine wpList_exec_if (op := { dst := some 137, op := Op.move (Operand.tmp 136), type := 4, pos := "outright.go:79", after := #[{ on := 2, ground := Ground.data }], guard := none }) (by kernel_rfl) ?_ ?_ ?_
                          rotate_left
                          · (go_simp; try with_reducible rfl)
                          (try simp only [Act.put, List.setIfInBounds_toArray, List.set_cons_zero, List.set_cons_succ])
                          refine wpList_exec_if (op := { dst := some 138, op := Op.move (Operand.tmp 12), type := 3, pos := "outright.go:79", after := #[{ on := 3, ground := Ground.guard }], guard := some (3, true) }) (by kernel_rfl) ?_ ?_ ?_
                          rotate_left
                          · (go_simp; try with_reducible rfl)
                          (try simp only [Act.put, List.setIfInBounds_toArray, List.set_cons_zero, List.set_cons_succ])
                          refine wpList_exec_if (op := { dst := some 139, op := Op.move (Operand.tmp 11), type := 3, pos := "outright.go:79", after := #[{ on := 3, ground := Ground.guard }], guard := some (3, true) }) (by kernel_rfl) ?_ ?_ ?_
                          rotate_left
                          · (go_simp; try with_reducible rfl)
                          (try simp only [Act.put, List.setIfInBounds_toArray, List.set_cons_zero, List.set_cons_succ])
                          refine wpList_exec_if (op := { dst := some 140, op := Op.binOp BinOp.gtr 3 (Operand.tmp 138) (Operand.tmp 139) 3, type := 4, pos := "outright.go:79", after := #[{ on := 4, ground := Ground.data }, { on := 5, ground := Ground.data }, { on := 3, ground := Ground.guard }], guard := some (3, true) }) (by kernel_rfl) ?_ ?_ ?_
                          rotate_left
                          · (go_simp; try with_reducible rfl)
                          (try simp only [Act.put, List.setIfInBounds_toArray, List.set_cons_zero, List.set_cons_succ])
                          refine wpList_exec_if (op := { dst := some 141, op := Op.pick (Operand.tmp 137) (Operand.tmp 140) (Operand.const (Value.bool false)), type := 4, pos := "outright.go:79", after := #[{ on := 3, ground := Ground.data }, { on := 6, ground := Ground.data }], guard := none }) (by kernel_rfl) ?_ ?_ ?_
                          rotate_left
                          · (go_simp; try with_reducible rfl)
                          (try simp only [Act.put, List.setIfInBounds_toArray, List.set_cons_zero, List.set_cons_succ])
                          have HSn : Hid (bl ((⟨#[]⟩ : ByteArray) ++ H2) = shT (wds y (bitF wide) (bitF great)) i i (i + 1)) := Lib.hid (by
                            rw [(sh_plain (W := (wds y (bitF wide) (bitF great))) (a := i) (b := i) (i := i) (.inr rfl)).1]
                            rw [bl_app, ez, long_one (by rw [HWl.out]; omega)]
                            have e0 := HWi.out
                            simp only [ez] at e0
                            rw [e0]
                            rfl)
                          go_wp2_with fail
                          go_roundw
                          case rel => exact ⟨i + 1, _, _, hlt, rfl, rfl, by go_num, HLn, HSn, HKe.out⟩
                          case measure => simp [intOf]; omega
                      · as_aux_lemma =>
                          obtain ⟨l9, c9, hlc, hc9⟩ := sh_last HHk.out hiW (.inl ⟨Nat.pos_of_ne_zero ez, .inr rfl⟩)
                          have hix := ix_last S l9 c9 (by rw [hS.out]; exact hlc)
                          have hse := no_list (S := S) (by rw [hS.out]; exact hlc)
                          have hse2 := no_list2 (S := S) (by rw [hS.out]; exact hlc)
                          have hcn := c58 hc9
                          clear hlc hc9
                          go_upto_region 24 with (fail)
                          have kws : IntKind.i64.wrap ((S.size : Int) - 1) = (S.size : Int) - 1 := IntWalk.i64_in _ (by omega)
                          refine wp_region_list ?_
                          refine wpList_exec_if (op := { dst := some 100, op := Op.move (Operand.tmp 15), type := 9, pos := "outright.go:73", after := #[], guard := none }) (by kernel_rfl) ?_ ?_ ?_
                          rotate_left
                          · (go_simp; try with_reducible rfl)
                          (try simp only [Act.put, List.setIfInBounds_toArray, List.set_cons_zero, List.set_cons_succ])
                          refine wpList_exec_if (op := { dst := some 101, op := Op.binOp BinOp.neq 9 (Operand.tmp 100) (Operand.const (Value.string { data := #[] })) 9, type := 4, pos := "outright.go:73", after := #[{ on := 0, ground := Ground.data }], guard := none }) (by kernel_rfl) ?_ ?_ ?_
                          rotate_left
                          · (go_simp; try with_reducible rfl)
                          (try simp only [Act.put, List.setIfInBounds_toArray, List.set_cons_zero, List.set_cons_succ])
                          refine wpList_exec_if (op := { dst := some 102, op := Op.move (Operand.tmp 101), type := 4, pos := "outright.go:73", after := #[{ on := 1, ground := Ground.data }], guard := none }) (by kernel_rfl) ?_ ?_ ?_
                          rotate_left
                          · (go_simp; try with_reducible rfl)
                          (try simp only [Act.put, List.setIfInBounds_toArray, List.set_cons_zero, List.set_cons_succ])
                          refine wpList_exec_if (op := { dst := some 103, op := Op.move (Operand.tmp 15), type := 9, pos := "outright.go:73", after := #[{ on := 2, ground := Ground.guard }], guard := some (2, true) }) (by kernel_rfl) ?_ ?_ ?_
                          rotate_left
                          · (go_simp; try with_reducible rfl)
                          (try simp only [Act.put, List.setIfInBounds_toArray, List.set_cons_zero, List.set_cons_succ])
                          refine wpList_exec_if (op := { dst := some 104, op := Op.move (Operand.tmp 15), type := 9, pos := "outright.go:73", after := #[{ on := 2, ground := Ground.guard }], guard := some (2, true) }) (by kernel_rfl) ?_ ?_ ?_
                          rotate_left
                          · (go_simp; try with_reducible rfl)
                          (try simp only [Act.put, List.setIfInBounds_toArray, List.set_cons_zero, List.set_cons_succ])
                          refine wpList_exec_if (op := { dst := some 105, op := Op.call { callee := Callee.builtin Builtin.len, args := #[Operand.tmp 104], argTypes := #[9] }, type := 3, pos := "outright.go:73", after := #[{ on := 4, ground := Ground.data }, { on := 2, ground := Ground.guard }], guard := some (2, true) }) (by kernel_rfl) ?_ ?_ ?_
                          rotate_left
                          · (go_simp; try with_reducible rfl)
                          (try simp only [Act.put, List.setIfInBounds_toArray, List.set_cons_zero, List.set_cons_succ])
                          refine wpList_exec_if (op := { dst := some 106, op := Op.binOp BinOp.sub 3 (Operand.tmp 105) (Operand.const (Value.int IntKind.i64 1)) 3, type := 3, pos := "outright.go:73", after := #[{ on := 5, ground := Ground.data }, { on := 2, ground := Ground.guard }], guard := some (2, true) }) (by kernel_rfl) ?_ ?_ ?_
                          rotate_left
                          · (go_simp; try with_reducible rfl)
                          (try simp only [Act.put, List.setIfInBounds_toArray, List.set_cons_zero, List.set_cons_succ])
                          refine wpList_exec_if (op := { dst := some 107, op := Op.index 9 (Operand.tmp 103) (Operand.tmp 106), type := 5, pos := "outright.go:73", after := #[{ on := 3, ground := Ground.data }, { on := 6, ground := Ground.data }, { on := 2, ground := Ground.guard }], guard := some (2, true) }) (by kernel_rfl) ?_ ?_ ?_
                          rotate_left
                          · (go_simp; try with_reducible rfl)
                          (try simp only [Act.put, List.setIfInBounds_toArray, List.set_cons_zero, List.set_cons_succ])
                          refine wpList_exec_if (op := { dst := some 108, op := Op.binOp BinOp.neq 5 (Operand.tmp 107) (Operand.const (Value.int IntKind.u8 58)) 5, type := 4, pos := "outright.go:73", after := #[{ on := 7, ground := Ground.data }, { on := 2, ground := Ground.guard }], guard := some (2, true) }) (by kernel_rfl) ?_ ?_ ?_
                          rotate_left
                          · (go_simp; try with_reducible rfl)
                          (try simp only [Act.put, List.setIfInBounds_toArray, List.set_cons_zero, List.set_cons_succ])
                          refine wpList_exec_if (op := { dst := some 109, op := Op.pick (Operand.tmp 102) (Operand.tmp 108) (Operand.const (Value.bool false)), type := 4, pos := "outright.go:73", after := #[{ on := 2, ground := Ground.data }, { on := 8, ground := Ground.data }], guard := none }) (by kernel_rfl) ?_ ?_ ?_
                          rotate_left
                          · (go_simp; try with_reducible rfl)
                          (try simp only [Act.put, List.setIfInBounds_toArray, List.set_cons_zero, List.set_cons_succ])
                          refine wpList_nil ?_
                          clear hix hse hse2 hcn kws
                          go_upto_region 26 with (fail)
                          generalize hS1 : S ++ (⟨#[58]⟩ : ByteArray) = S1 at *
                          have HB1 : Hid (bl S1 = bl S ++ [58]) := Lib.hid (by rw [← hS1, bl_app]; rfl)
                          have HZ1 : Hid (S1.size ≤ 81) := Lib.hid (by rw [← bl_len, HB1.out, List.length_append, bl_len]; show S.size + 1 ≤ 81; omega)
                          clear hS1
                          refine wp_region_list ?_
                          refine wpList_exec_if (op := { dst := some 112, op := Op.move (Operand.tmp 16), type := 3, pos := "outright.go:76", after := #[], guard := none }) (by kernel_rfl) ?_ ?_ ?_
                          rotate_left
                          · (go_simp; try with_reducible rfl)
                          (try simp only [Act.put, List.setIfInBounds_toArray, List.set_cons_zero, List.set_cons_succ])
                          refine wpList_exec_if (op := { dst := some 113, op := Op.move (Operand.tmp 12), type := 3, pos := "outright.go:76", after := #[], guard := none }) (by kernel_rfl) ?_ ?_ ?_
                          rotate_left
                          · (go_simp; try with_reducible rfl)
                          (try simp only [Act.put, List.setIfInBounds_toArray, List.set_cons_zero, List.set_cons_succ])
                          refine wpList_exec_if (op := { dst := some 114, op := Op.binOp BinOp.eql 3 (Operand.tmp 112) (Operand.tmp 113) 3, type := 4, pos := "outright.go:76", after := #[{ on := 0, ground := Ground.data }, { on := 1, ground := Ground.data }], guard := none }) (by kernel_rfl) ?_ ?_ ?_
                          rotate_left
                          · (go_simp; try with_reducible rfl)
                          (try simp only [Act.put, List.setIfInBounds_toArray, List.set_cons_zero, List.set_cons_succ])
                          refine wpList_exec_if (op := { dst := some 115, op := Op.move (Operand.tmp 114), type := 4, pos := "outright.go:76", after := #[{ on := 2, ground := Ground.data }], guard := none }) (by kernel_rfl) ?_ ?_ ?_
                          rotate_left
                          · (go_simp; try with_reducible rfl)
                          (try simp only [Act.put, List.setIfInBounds_toArray, List.set_cons_zero, List.set_cons_succ])
                          refine wpList_exec_if (op := { dst := some 116, op := Op.move (Operand.tmp 12), type := 3, pos := "outright.go:76", after := #[{ on := 3, ground := Ground.guard }], guard := some (3, true) }) (by kernel_rfl) ?_ ?_ ?_
                          rotate_left
                          · (go_simp; try with_reducible rfl)
                          (try simp only [Act.put, List.setIfInBounds_toArray, List.set_cons_zero, List.set_cons_succ])
                          refine wpList_exec_if (op := { dst := some 117, op := Op.move (Operand.tmp 11), type := 3, pos := "outright.go:76", after := #[{ on := 3, ground := Ground.guard }], guard := some (3, true) }) (by kernel_rfl) ?_ ?_ ?_
                          rotate_left
                          · (go_simp; try with_reducible rfl)
                          (try simp only [Act.put, List.setIfInBounds_toArray, List.set_cons_zero, List.set_cons_succ])
                          refine wpList_exec_if (op := { dst := some 118, op := Op.binOp BinOp.gtr 3 (Operand.tmp 116) (Operand.tmp 117) 3, type := 4, pos := "outright.go:76", after := #[{ on := 4, ground := Ground.data }, { on := 5, ground := Ground.data }, { on := 3, ground := Ground.guard }], guard := some (3, true) }) (by kernel_rfl) ?_ ?_ ?_
                          rotate_left
                          · (go_simp; try with_reducible rfl)
                          (try simp only [Act.put, List.setIfInBounds_toArray, List.set_cons_zero, List.set_cons_succ])
                          refine wpList_exec_if (op := { dst := some 119, op := Op.pick (Operand.tmp 115) (Operand.tmp 118) (Operand.const (Value.bool false)), type := 4, pos := "outright.go:76", after := #[{ on := 3, ground := Ground.data }, { on := 6, ground := Ground.data }], guard := none }) (by kernel_rfl) ?_ ?_ ?_
                          rotate_left
                          · (go_simp; try with_reducible rfl)
                          (try simp only [Act.put, List.setIfInBounds_toArray, List.set_cons_zero, List.set_cons_succ])
                          go_upto_region 28 with (fail)
                          refine wp_region_list ?_
                          refine wpList_exec_if (op := { dst := some 134, op := Op.move (Operand.tmp 16), type := 3, pos := "outright.go:79", after := #[], guard := none }) (by kernel_rfl) ?_ ?_ ?_
                          rotate_left
                          · (go_simp; try with_reducible rfl)
                          (try simp only [Act.put, List.setIfInBounds_toArray, List.set_cons_zero, List.set_cons_succ])
                          refine wpList_exec_if (op := { dst := some 135, op := Op.move (Operand.tmp 12), type := 3, pos := "outright.go:79", after := #[], guard := none }) (by kernel_rfl) ?_ ?_ ?_
                          rotate_left
                          · (go_simp; try with_reducible rfl)
                          (try simp only [Act.put, List.setIfInBounds_toArray, List.set_cons_zero, List.set_cons_succ])
                          refine wpList_exec_if (op := { dst := some 136, op := Op.binOp BinOp.eql 3 (Operand.tmp 134) (Operand.tmp 135) 3, type := 4, pos := "outright.go:79", after := #[{ on := 0, ground := Ground.data }, { on := 1, ground := Ground.data }], guard := none }) (by kernel_rfl) ?_ ?_ ?_
                          rotate_left
                          · (go_simp; try with_reducible rfl)
                          (try simp only [Act.put, List.setIfInBounds_toArray, List.set_cons_zero, List.set_cons_succ])
                          refine wpList_exec_if (op := { dst := some 137, op := Op.move (Operand.tmp 136), type := 4, pos := "outright.go:79", after := #[{ on := 2, ground := Ground.data }], guard := none }) (by kernel_rfl) ?_ ?_ ?_
                          rotate_left
                          · (go_simp; try with_reducible rfl)
                          (try simp only [Act.put, List.setIfInBounds_toArray, List.set_cons_zero, List.set_cons_succ])
                          refine wpList_exec_if (op := { dst := some 138, op := Op.move (Operand.tmp 12), type := 3, pos := "outright.go:79", after := #[{ on := 3, ground := Ground.guard }], guard := some (3, true) }) (by kernel_rfl) ?_ ?_ ?_
                          rotate_left
                          · (go_simp; try with_reducible rfl)
                          (try simp only [Act.put, List.setIfInBounds_toArray, List.set_cons_zero, List.set_cons_succ])
                          refine wpList_exec_if (op := { dst := some 139, op := Op.move (Operand.tmp 11), type := 3, pos := "outright.go:79", after := #[{ on := 3, ground := Ground.guard }], guard := some (3, true) }) (by kernel_rfl) ?_ ?_ ?_
                          rotate_left
                          · (go_simp; try with_reducible rfl)
                          (try simp only [Act.put, List.setIfInBounds_toArray, List.set_cons_zero, List.set_cons_succ])
                          refine wpList_exec_if (op := { dst := some 140, op := Op.binOp BinOp.gtr 3 (Operand.tmp 138) (Operand.tmp 139) 3, type := 4, pos := "outright.go:79", after := #[{ on := 4, ground := Ground.data }, { on := 5, ground := Ground.data }, { on := 3, ground := Ground.guard }], guard := some (3, true) }) (by kernel_rfl) ?_ ?_ ?_
                          rotate_left
                          · (go_simp; try with_reducible rfl)
                          (try simp only [Act.put, List.setIfInBounds_toArray, List.set_cons_zero, List.set_cons_succ])
                          refine wpList_exec_if (op := { dst := some 141, op := Op.pick (Operand.tmp 137) (Operand.tmp 140) (Operand.const (Value.bool false)), type := 4, pos := "outright.go:79", after := #[{ on := 3, ground := Ground.data }, { on := 6, ground := Ground.data }], guard := none }) (by kernel_rfl) ?_ ?_ ?_
                          rotate_left
                          · (go_simp; try with_reducible rfl)
                          (try simp only [Act.put, List.setIfInBounds_toArray, List.set_cons_zero, List.set_cons_succ])
                          have HSn : Hid (bl (S1 ++ H2) = shT (wds y (bitF wide) (bitF great)) i i (i + 1)) := Lib.hid (by
                            rw [(sh_plain (W := (wds y (bitF wide) (bitF great))) (a := i) (b := i) (i := i) (.inr rfl)).1]
                            rw [bl_app, HB1.out, hS.out, (sh_plain (W := (wds y (bitF wide) (bitF great))) (a := i) (b := i) (i := i) (.inr rfl)).2, long_up (Nat.pos_of_ne_zero ez) hiW, HWi.out])
                          have hz3 := HZ1.out
                          go_wp2_with fail
                          go_roundw
                          case rel => exact ⟨i + 1, _, _, hlt, rfl, rfl, by go_num, HLn, HSn, HKe.out⟩
                          case measure => simp [intOf]; omega
                    · as_aux_lemma =>
                        obtain ⟨l9, c9, hlc, hc9⟩ := sh_last HHk.out hiW (.inl ⟨by omega, .inr rfl⟩)
                        have hix := ix_last S l9 c9 (by rw [hS.out]; exact hlc)
                        have hse := no_list (S := S) (by rw [hS.out]; exact hlc)
                        have hse2 := no_list2 (S := S) (by rw [hS.out]; exact hlc)
                        have hcn := c58 hc9
                        clear hlc hc9
                        have f6 : a ≤ i := by omega
                        have g6 : (a : Int) ≤ (i : Int) := by omega
                        have f7 : ¬ i < a := by omega
                        have g7 : ¬ (i : Int) < (a : Int) := by omega
                        have f8 : ¬ i = a := by omega
                        have g8 : ((i : Int) == (a : Int)) = false := by rw [beq_eq_false_iff_ne]; omega
                        have h8 : (i == a) = false := by rw [beq_eq_false_iff_ne]; omega
                        go_upto_region 24 with (fail)
                        have kws : IntKind.i64.wrap ((S.size : Int) - 1) = (S.size : Int) - 1 := IntWalk.i64_in _ (by omega)
                        refine wp_region_list ?_
                        refine wpList_exec_if (op := { dst := some 100, op := Op.move (Operand.tmp 15), type := 9, pos := "outright.go:73", after := #[], guard := none }) (by kernel_rfl) ?_ ?_ ?_
                        rotate_left
                        · (go_simp; try with_reducible rfl)
                        (try simp only [Act.put, List.setIfInBounds_toArray, List.set_cons_zero, List.set_cons_succ])
                        refine wpList_exec_if (op := { dst := some 101, op := Op.binOp BinOp.neq 9 (Operand.tmp 100) (Operand.const (Value.string { data := #[] })) 9, type := 4, pos := "outright.go:73", after := #[{ on := 0, ground := Ground.data }], guard := none }) (by kernel_rfl) ?_ ?_ ?_
                        rotate_left
                        · (go_simp; try with_reducible rfl)
                        (try simp only [Act.put, List.setIfInBounds_toArray, List.set_cons_zero, List.set_cons_succ])
                        refine wpList_exec_if (op := { dst := some 102, op := Op.move (Operand.tmp 101), type := 4, pos := "outright.go:73", after := #[{ on := 1, ground := Ground.data }], guard := none }) (by kernel_rfl) ?_ ?_ ?_
                        rotate_left
                        · (go_simp; try with_reducible rfl)
                        (try simp only [Act.put, List.setIfInBounds_toArray, List.set_cons_zero, List.set_cons_succ])
                        refine wpList_exec_if (op := { dst := some 103, op := Op.move (Operand.tmp 15), type := 9, pos := "outright.go:73", after := #[{ on := 2, ground := Ground.guard }], guard := some (2, true) }) (by kernel_rfl) ?_ ?_ ?_
                        rotate_left
                        · (go_simp; try with_reducible rfl)
                        (try simp only [Act.put, List.setIfInBounds_toArray, List.set_cons_zero, List.set_cons_succ])
                        refine wpList_exec_if (op := { dst := some 104, op := Op.move (Operand.tmp 15), type := 9, pos := "outright.go:73", after := #[{ on := 2, ground := Ground.guard }], guard := some (2, true) }) (by kernel_rfl) ?_ ?_ ?_
                        rotate_left
                        · (go_simp; try with_reducible rfl)
                        (try simp only [Act.put, List.setIfInBounds_toArray, List.set_cons_zero, List.set_cons_succ])
                        refine wpList_exec_if (op := { dst := some 105, op := Op.call { callee := Callee.builtin Builtin.len, args := #[Operand.tmp 104], argTypes := #[9] }, type := 3, pos := "outright.go:73", after := #[{ on := 4, ground := Ground.data }, { on := 2, ground := Ground.guard }], guard := some (2, true) }) (by kernel_rfl) ?_ ?_ ?_
                        rotate_left
                        · (go_simp; try with_reducible rfl)
                        (try simp only [Act.put, List.setIfInBounds_toArray, List.set_cons_zero, List.set_cons_succ])
                        refine wpList_exec_if (op := { dst := some 106, op := Op.binOp BinOp.sub 3 (Operand.tmp 105) (Operand.const (Value.int IntKind.i64 1)) 3, type := 3, pos := "outright.go:73", after := #[{ on := 5, ground := Ground.data }, { on := 2, ground := Ground.guard }], guard := some (2, true) }) (by kernel_rfl) ?_ ?_ ?_
                        rotate_left
                        · (go_simp; try with_reducible rfl)
                        (try simp only [Act.put, List.setIfInBounds_toArray, List.set_cons_zero, List.set_cons_succ])
                        refine wpList_exec_if (op := { dst := some 107, op := Op.index 9 (Operand.tmp 103) (Operand.tmp 106), type := 5, pos := "outright.go:73", after := #[{ on := 3, ground := Ground.data }, { on := 6, ground := Ground.data }, { on := 2, ground := Ground.guard }], guard := some (2, true) }) (by kernel_rfl) ?_ ?_ ?_
                        rotate_left
                        · (go_simp; try with_reducible rfl)
                        (try simp only [Act.put, List.setIfInBounds_toArray, List.set_cons_zero, List.set_cons_succ])
                        refine wpList_exec_if (op := { dst := some 108, op := Op.binOp BinOp.neq 5 (Operand.tmp 107) (Operand.const (Value.int IntKind.u8 58)) 5, type := 4, pos := "outright.go:73", after := #[{ on := 7, ground := Ground.data }, { on := 2, ground := Ground.guard }], guard := some (2, true) }) (by kernel_rfl) ?_ ?_ ?_
                        rotate_left
                        · (go_simp; try with_reducible rfl)
                        (try simp only [Act.put, List.setIfInBounds_toArray, List.set_cons_zero, List.set_cons_succ])
                        refine wpList_exec_if (op := { dst := some 109, op := Op.pick (Operand.tmp 102) (Operand.tmp 108) (Operand.const (Value.bool false)), type := 4, pos := "outright.go:73", after := #[{ on := 2, ground := Ground.data }, { on := 8, ground := Ground.data }], guard := none }) (by kernel_rfl) ?_ ?_ ?_
                        rotate_left
                        · (go_simp; try with_reducible rfl)
                        (try simp only [Act.put, List.setIfInBounds_toArray, List.set_cons_zero, List.set_cons_succ])
                        refine wpList_nil ?_
                        clear hix hse hse2 hcn kws
                        go_upto_region 26 with (fail)
                        generalize hS1 : S ++ (⟨#[58]⟩ : ByteArray) = S1 at *
                        have HB1 : Hid (bl S1 = bl S ++ [58]) := Lib.hid (by rw [← hS1, bl_app]; rfl)
                        have HZ1 : Hid (S1.size ≤ 81) := Lib.hid (by rw [← bl_len, HB1.out, List.length_append, bl_len]; show S.size + 1 ≤ 81; omega)
                        clear hS1
                        refine wp_region_list ?_
                        refine wpList_exec_if (op := { dst := some 112, op := Op.move (Operand.tmp 16), type := 3, pos := "outright.go:76", after := #[], guard := none }) (by kernel_rfl) ?_ ?_ ?_
                        rotate_left
                        · (go_simp; try with_reducible rfl)
                        (try simp only [Act.put, List.setIfInBounds_toArray, List.set_cons_zero, List.set_cons_succ])
                        refine wpList_exec_if (op := { dst := some 113, op := Op.move (Operand.tmp 12), type := 3, pos := "outright.go:76", after := #[], guard := none }) (by kernel_rfl) ?_ ?_ ?_
                        rotate_left
                        · (go_simp; try with_reducible rfl)
                        (try simp only [Act.put, List.setIfInBounds_toArray, List.set_cons_zero, List.set_cons_succ])
                        refine wpList_exec_if (op := { dst := some 114, op := Op.binOp BinOp.eql 3 (Operand.tmp 112) (Operand.tmp 113) 3, type := 4, pos := "outright.go:76", after := #[{ on := 0, ground := Ground.data }, { on := 1, ground := Ground.data }], guard := none }) (by kernel_rfl) ?_ ?_ ?_
                        rotate_left
                        · (go_simp; try with_reducible rfl)
                        (try simp only [Act.put, List.setIfInBounds_toArray, List.set_cons_zero, List.set_cons_succ])
                        go_upto_region 28 with (fail)
                        refine wp_region_list ?_
                        refine wpList_exec_if (op := { dst := some 134, op := Op.move (Operand.tmp 16), type := 3, pos := "outright.go:79", after := #[], guard := none }) (by kernel_rfl) ?_ ?_ ?_
                        rotate_left
                        · (go_simp; try with_reducible rfl)
                        (try simp only [Act.put, List.setIfInBounds_toArray, List.set_cons_zero, List.set_cons_succ])
                        refine wpList_exec_if (op := { dst := some 135, op := Op.move (Operand.tmp 12), type := 3, pos := "outright.go:79", after := #[], guard := none }) (by kernel_rfl) ?_ ?_ ?_
                        rotate_left
                        · (go_simp; try with_reducible rfl)
                        (try simp only [Act.put, List.setIfInBounds_toArray, List.set_cons_zero, List.set_cons_succ])
                        refine wpList_exec_if (op := { dst := some 136, op := Op.binOp BinOp.eql 3 (Operand.tmp 134) (Operand.tmp 135) 3, type := 4, pos := "outright.go:79", after := #[{ on := 0, ground := Ground.data }, { on := 1, ground := Ground.data }], guard := none }) (by kernel_rfl) ?_ ?_ ?_
                        rotate_left
                        · (go_simp; try with_reducible rfl)
                        (try simp only [Act.put, List.setIfInBounds_toArray, List.set_cons_zero, List.set_cons_succ])
                        have HSn : Hid (bl (S1 ++ H2) = shT (wds y (bitF wide) (bitF great)) a a (i + 1)) := Lib.hid (by
                          rw [(sh_plain (W := (wds y (bitF wide) (bitF great))) (a := a) (b := a) (i := i) (.inr rfl)).1]
                          rw [bl_app, HB1.out, hS.out, (sh_plain (W := (wds y (bitF wide) (bitF great))) (a := a) (b := a) (i := i) (.inr rfl)).2, long_up (by omega) hiW, HWi.out])
                        have hz3 := HZ1.out
                        go_wp2_with fail
                        go_roundw
                        case rel => exact ⟨i + 1, _, _, hlt, rfl, rfl, by go_num, HLn, HSn, HKe.out⟩
                        case measure => simp [intOf]; omega
        · obtain rfl : i = 8 := by omega
          clear hi hlt
          have HLz : Hid (L.size ≤ 39) := Lib.hid (by rw [← bl_len, hL.out]; exact jn_small _ (fun p hp => wds_hok y (bitF wide) (bitF great) p (List.mem_of_mem_take hp)) (by rw [List.length_take]; omega))
          have HSz : Hid (S.size ≤ 80) := Lib.hid (by rw [← bl_len, hS.out]; exact sh_small (wds y (bitF wide) (bitF great)) a k 8 (wds_hok y (bitF wide) (bitF great)) (wds_len y (bitF wide) (bitF great)))
          have CP1 : Hid (∀ W, ML W → Calls Tryd.prog 13 #[.string L] W fun e w' => e = .returned (.tuple #[.agg (bu y).toArray, .bool true]) ∧ Below W.heap.size W w') := Lib.hid (fun W h => par_ok L y (by rw [hL.out]; exact six_words y HY.out _ _) (by have := HLz.out; omega) W h)
          have hgu : Tryd.prog.eqGuardType Tryd.prog.depth 24 = false := by kernel_rfl
          have HNQ : Hid (∀ W, (binOp .neq 24 (.agg (bu y).toArray) (.agg (bu y).toArray)).run Tryd.prog W = .ok (.bool false) W) := Lib.hid (fun W => by rw [nequ6 y y HY.out HY.out W]; simp)
          have HEQ : Hid (∀ W, (binOp .eql 24 (.agg (bu y).toArray) (.agg (bu y).toArray)).run Tryd.prog W = .ok (.bool true) W) := Lib.hid (fun W => by rw [equ6 y y HY.out HY.out W]; simp)
          have HI_VY : Hid ((Tryd.prog.info? 24).map (·.size) = some (bu y).length) := Lib.hid (Tryd.infoU6 _ (HY.out))
          have HO_VY : Hid ((bu y).toArray.all (·.oneCell') = true) := Lib.hid (bu_one _)
          have HL_VY : Hid ((bu y).length = 16) := Lib.hid (by rw [bu_len]; exact HY.out)
          have HNUM := Lib.hid (And.intro ha8 hb8)
          by_cases h8 : k = 8
          · as_aux_lemma =>
              have hszz := HSz.out
              have z1 : ((k : Int) == 8) = true := by rw [beq_iff_eq]; omega
              have f1 : a < k := by omega
              have g1 : (a : Int) < (k : Int) := by omega
              go_upto_region 31 with (fail)
              refine wp_region_list ?_
              refine wpList_exec_if (op := { dst := some 149, op := Op.move (Operand.tmp 12), type := 3, pos := "outright.go:84", after := #[], guard := none }) (by kernel_rfl) ?_ ?_ ?_
              rotate_left
              · (go_simp; try with_reducible rfl)
              (try simp only [Act.put, List.setIfInBounds_toArray, List.set_cons_zero, List.set_cons_succ])
              refine wpList_exec_if (op := { dst := some 150, op := Op.binOp BinOp.eql 3 (Operand.tmp 149) (Operand.const (Value.int IntKind.i64 8)) 3, type := 4, pos := "outright.go:84", after := #[{ on := 0, ground := Ground.data }], guard := none }) (by kernel_rfl) ?_ ?_ ?_
              rotate_left
              · (go_simp; try with_reducible rfl)
              (try simp only [Act.put, List.setIfInBounds_toArray, List.set_cons_zero, List.set_cons_succ])
              refine wpList_exec_if (op := { dst := some 151, op := Op.move (Operand.tmp 150), type := 4, pos := "outright.go:84", after := #[{ on := 1, ground := Ground.data }], guard := none }) (by kernel_rfl) ?_ ?_ ?_
              rotate_left
              · (go_simp; try with_reducible rfl)
              (try simp only [Act.put, List.setIfInBounds_toArray, List.set_cons_zero, List.set_cons_succ])
              refine wpList_exec_if (op := { dst := some 152, op := Op.move (Operand.tmp 12), type := 3, pos := "outright.go:84", after := #[{ on := 2, ground := Ground.guard }], guard := some (2, true) }) (by kernel_rfl) ?_ ?_ ?_
              rotate_left
              · (go_simp; try with_reducible rfl)
              (try simp only [Act.put, List.setIfInBounds_toArray, List.set_cons_zero, List.set_cons_succ])
              refine wpList_exec_if (op := { dst := some 153, op := Op.move (Operand.tmp 11), type := 3, pos := "outright.go:84", after := #[{ on := 2, ground := Ground.guard }], guard := some (2, true) }) (by kernel_rfl) ?_ ?_ ?_
              rotate_left
              · (go_simp; try with_reducible rfl)
              (try simp only [Act.put, List.setIfInBounds_toArray, List.set_cons_zero, List.set_cons_succ])
              refine wpList_exec_if (op := { dst := some 154, op := Op.binOp BinOp.gtr 3 (Operand.tmp 152) (Operand.tmp 153) 3, type := 4, pos := "outright.go:84", after := #[{ on := 3, ground := Ground.data }, { on := 4, ground := Ground.data }, { on := 2, ground := Ground.guard }], guard := some (2, true) }) (by kernel_rfl) ?_ ?_ ?_
              rotate_left
              · (go_simp; try with_reducible rfl)
              (try simp only [Act.put, List.setIfInBounds_toArray, List.set_cons_zero, List.set_cons_succ])
              refine wpList_exec_if (op := { dst := some 155, op := Op.pick (Operand.tmp 151) (Operand.tmp 154) (Operand.const (Value.bool false)), type := 4, pos := "outright.go:84", after := #[{ on := 2, ground := Ground.data }, { on := 5, ground := Ground.data }], guard := none }) (by kernel_rfl) ?_ ?_ ?_
              rotate_left
              · (go_simp; try with_reducible rfl)
              (try simp only [Act.put, List.setIfInBounds_toArray, List.set_cons_zero, List.set_cons_succ])
              refine wpList_nil ?_
              clear z1 f1 g1
              go_upto_region 33 with (fail)
              clear hszz
              generalize hS9 : S ++ (⟨#[58, 58]⟩ : ByteArray) = S9 at *
              have HB9 : Hid (bl S9 = bl S ++ [58, 58]) := Lib.hid (by rw [← hS9, bl_app]; rfl)
              clear hS9
              have CP2 : Hid (∀ W, ML W → Calls Tryd.prog 13 #[.string S9] W fun e w' => e = .returned (.tuple #[.agg (bu y).toArray, .bool true]) ∧ Below W.heap.size W w') := Lib.hid (fun W h => par_ok S9 y (by subst h8; rw [HB9.out, hS.out]; exact six_end y HY.out _ _ a ha8 HZ.out) (by have e := congrArg List.length HB9.out; rw [List.length_append, bl_len, bl_len] at e; have := HSz.out; have e2 : ([58, 58] : List UInt8).length = 2 := rfl; omega) W h)
              clear hL hS HZ HLz HSz
              generalize bu y = VY at *
              go_wp2_with fail
              refine (CP1.out _ (HWb.out _ HKi.out.2.1).ml).mono ?_
              rintro e w7 ⟨rfl, hb7⟩
              have HK7 := Lib.hid (HKi.out.below hb7 (Nat.le_refl _))
              clear hb7 HKi
              have ht := (bk_new w7 24 ([.int .u8 0, .int .u8 0, .int .u8 0, .int .u8 0, .int .u8 0, .int .u8 0, .int .u8 0, .int .u8 0, .int .u8 0, .int .u8 0, .int .u8 0, .int .u8 0, .int .u8 0, .int .u8 0, .int .u8 0, .int .u8 0] : List Value).toArray).there VY.toArray.size (by have := HL_VY.out; simp; omega)
              go_upto_region 34 with (((with_reducible (change wpList _ _ _ _ _ _)); ((refine wpList_store_mid rfl 24 _ _ rfl w7.heap.size 0 VY.toArray rfl rfl ht (by simpa using HI_VY.out) HO_VY.out ?_))))
              have HK8 := Lib.hid (HK7.out.put 24 ([.int .u8 0, .int .u8 0, .int .u8 0, .int .u8 0, .int .u8 0, .int .u8 0, .int .u8 0, .int .u8 0, .int .u8 0, .int .u8 0, .int .u8 0, .int .u8 0, .int .u8 0, .int .u8 0, .int .u8 0, .int .u8 0] : List Value).toArray VY (by have := HL_VY.out; simp; omega))
              clear ht HK7
              generalize (w7.alloc (.cells ([.int .u8 0, .int .u8 0, .int .u8 0, .int .u8 0, .int .u8 0, .int .u8 0, .int .u8 0, .int .u8 0, .int .u8 0, .int .u8 0, .int .u8 0, .int .u8 0, .int .u8 0, .int .u8 0, .int .u8 0, .int .u8 0] : List Value).toArray 24)).setCells w7.heap.size 0 VY = w8 at *
              generalize w7.heap.size = g8 at *
              have hr0 := HK8.out.hd.range
              have hr1 := HK8.out.tl.hd.range
              have hnq := HNQ.out
              refine wp_region_list ?_
              refine wpList_exec_if (op := { dst := some 163, op := Op.move (Operand.tmp 19), type := 4, pos := "outright.go:88", after := #[], guard := none }) (by kernel_rfl) ?_ ?_ ?_
              rotate_left
              · (go_simp; try with_reducible rfl)
              (try simp only [Act.put, List.setIfInBounds_toArray, List.set_cons_zero, List.set_cons_succ])
              refine wpList_exec_if (op := { dst := some 164, op := Op.unOp UnOp.not 4 (Operand.tmp 163), type := 4, pos := "outright.go:88", after := #[{ on := 0, ground := Ground.data }], guard := none }) (by kernel_rfl) ?_ ?_ ?_
              rotate_left
              · (go_simp; try with_reducible rfl)
              (try simp only [Act.put, List.setIfInBounds_toArray, List.set_cons_zero, List.set_cons_succ])
              refine wpList_exec_if (op := { dst := some 165, op := Op.move (Operand.tmp 164), type := 4, pos := "outright.go:88", after := #[{ on := 1, ground := Ground.data }], guard := none }) (by kernel_rfl) ?_ ?_ ?_
              rotate_left
              · (go_simp; try with_reducible rfl)
              (try simp only [Act.put, List.setIfInBounds_toArray, List.set_cons_zero, List.set_cons_succ])
              refine wpList_load_if (op := { dst := some 166, op := Op.load 24 (Operand.tmp 18), type := 24, pos := "outright.go:88", after := #[{ on := 2, ground := Ground.guard }], guard := some (2, false) }) (by kernel_rfl) 24 _ rfl (g8) 0 rfl VY _ hr0 Tryd.underlying24 rfl HI_VY.out ?_
              (try simp only [Act.put, List.setIfInBounds_toArray, List.set_cons_zero, List.set_cons_succ])
              refine wpList_load_if (op := { dst := some 167, op := Op.load 24 (Operand.tmp 5), type := 24, pos := "outright.go:88", after := #[{ on := 2, ground := Ground.guard }], guard := some (2, false) }) (by kernel_rfl) 24 _ rfl (w.heap.size) 0 rfl VY _ hr1 Tryd.underlying24 rfl HI_VY.out ?_
              (try simp only [Act.put, List.setIfInBounds_toArray, List.set_cons_zero, List.set_cons_succ])
              refine wpList_exec_if (op := { dst := some 168, op := Op.binOp BinOp.neq 24 (Operand.tmp 166) (Operand.tmp 167) 24, type := 4, pos := "outright.go:88", after := #[{ on := 3, ground := Ground.data }, { on := 4, ground := Ground.data }, { on := 2, ground := Ground.guard }], guard := some (2, false) }) (by kernel_rfl) ?_ ?_ ?_
              rotate_left
              · (go_simp; try with_reducible rfl)
              (try simp only [Act.put, List.setIfInBounds_toArray, List.set_cons_zero, List.set_cons_succ])
              refine wpList_exec_if (op := { dst := some 169, op := Op.pick (Operand.tmp 165) (Operand.const (Value.bool true)) (Operand.tmp 168), type := 4, pos := "outright.go:88", after := #[{ on := 2, ground := Ground.data }, { on := 5, ground := Ground.data }], guard := none }) (by kernel_rfl) ?_ ?_ ?_
              rotate_left
              · (go_simp; try with_reducible rfl)
              (try simp only [Act.put, List.setIfInBounds_toArray, List.set_cons_zero, List.set_cons_succ])
              refine wpList_nil ?_
              clear hr0 hr1 hnq
              go_wp2_with fail
              refine (CP2.out _ (HWb.out _ HK8.out.2.1).ml).mono ?_
              rintro e w9 ⟨rfl, hb9⟩
              have HK9 := Lib.hid (HK8.out.below hb9 (Nat.le_refl _))
              clear hb9 HK8
              have ht := (bk_new w9 24 ([.int .u8 0, .int .u8 0, .int .u8 0, .int .u8 0, .int .u8 0, .int .u8 0, .int .u8 0, .int .u8 0, .int .u8 0, .int .u8 0, .int .u8 0, .int .u8 0, .int .u8 0, .int .u8 0, .int .u8 0, .int .u8 0] : List Value).toArray).there VY.toArray.size (by have := HL_VY.out; simp; omega)
              go_upto_region 37 with (((with_reducible (change wpList _ _ _ _ _ _)); ((refine wpList_store_mid rfl 24 _ _ rfl w9.heap.size 0 VY.toArray rfl rfl ht (by simpa using HI_VY.out) HO_VY.out ?_))))
              have HK10 := Lib.hid (HK9.out.put 24 ([.int .u8 0, .int .u8 0, .int .u8 0, .int .u8 0, .int .u8 0, .int .u8 0, .int .u8 0, .int .u8 0, .int .u8 0, .int .u8 0, .int .u8 0, .int .u8 0, .int .u8 0, .int .u8 0, .int .u8 0, .int .u8 0] : List Value).toArray VY (by have := HL_VY.out; simp; omega))
              clear ht HK9
              generalize (w9.alloc (.cells ([.int .u8 0, .int .u8 0, .int .u8 0, .int .u8 0, .int .u8 0, .int .u8 0, .int .u8 0, .int .u8 0, .int .u8 0, .int .u8 0, .int .u8 0, .int .u8 0, .int .u8 0, .int .u8 0, .int .u8 0, .int .u8 0] : List Value).toArray 24)).setCells w9.heap.size 0 VY = w10 at *
              generalize w9.heap.size = g9 at *
              have hr0 := HK10.out.hd.range
              have hr1 := HK10.out.tl.tl.hd.range
              have heq := HEQ.out
              refine wp_region_list ?_
              refine wpList_exec_if (op := { dst := some 175, op := Op.move (Operand.tmp 21), type := 4, pos := "outright.go:92", after := #[], guard := none }) (by kernel_rfl) ?_ ?_ ?_
              rotate_left
              · (go_simp; try with_reducible rfl)
              (try simp only [Act.put, List.setIfInBounds_toArray, List.set_cons_zero, List.set_cons_succ])
              refine wpList_exec_if (op := { dst := some 176, op := Op.move (Operand.tmp 175), type := 4, pos := "outright.go:92", after := #[{ on := 0, ground := Ground.data }], guard := none }) (by kernel_rfl) ?_ ?_ ?_
              rotate_left
              · (go_simp; try with_reducible rfl)
              (try simp only [Act.put, List.setIfInBounds_toArray, List.set_cons_zero, List.set_cons_succ])
              refine wpList_load_if (op := { dst := some 177, op := Op.load 24 (Operand.tmp 20), type := 24, pos := "outright.go:92", after := #[{ on := 1, ground := Ground.guard }], guard := some (1, true) }) (by kernel_rfl) 24 _ rfl (g9) 0 rfl VY _ hr0 Tryd.underlying24 rfl HI_VY.out ?_
              (try simp only [Act.put, List.setIfInBounds_toArray, List.set_cons_zero, List.set_cons_succ])
              refine wpList_load_if (op := { dst := some 178, op := Op.load 24 (Operand.tmp 5), type := 24, pos := "outright.go:92", after := #[{ on := 1, ground := Ground.guard }], guard := some (1, true) }) (by kernel_rfl) 24 _ rfl (w.heap.size) 0 rfl VY _ hr1 Tryd.underlying24 rfl HI_VY.out ?_
              (try simp only [Act.put, List.setIfInBounds_toArray, List.set_cons_zero, List.set_cons_succ])
              refine wpList_exec_if (op := { dst := some 179, op := Op.binOp BinOp.eql 24 (Operand.tmp 177) (Operand.tmp 178) 24, type := 4, pos := "outright.go:92", after := #[{ on := 2, ground := Ground.data }, { on := 3, ground := Ground.data }, { on := 1, ground := Ground.guard }], guard := some (1, true) }) (by kernel_rfl) ?_ ?_ ?_
              rotate_left
              · (go_simp; try with_reducible rfl)
              (try simp only [Act.put, List.setIfInBounds_toArray, List.set_cons_zero, List.set_cons_succ])
              refine wpList_exec_if (op := { dst := some 180, op := Op.pick (Operand.tmp 176) (Operand.tmp 179) (Operand.const (Value.bool false)), type := 4, pos := "outright.go:92", after := #[{ on := 1, ground := Ground.data }, { on := 4, ground := Ground.data }], guard := none }) (by kernel_rfl) ?_ ?_ ?_
              rotate_left
              · (go_simp; try with_reducible rfl)
              (try simp only [Act.put, List.setIfInBounds_toArray, List.set_cons_zero, List.set_cons_succ])
              refine wpList_exec_if (op := { dst := some 10, op := Op.assign (Operand.tmp 180), type := 4, pos := "outright.go:92", after := #[{ on := 5, ground := Ground.data }, { on := 1, ground := Ground.chain }, { on := 0, ground := Ground.phase }, { on := 1, ground := Ground.phase }, { on := 2, ground := Ground.phase }, { on := 3, ground := Ground.phase }, { on := 4, ground := Ground.phase }, { on := 5, ground := Ground.phase }], guard := none }) (by kernel_rfl) ?_ ?_ ?_
              rotate_left
              · (go_simp; try with_reducible rfl)
              (try simp only [Act.put, List.setIfInBounds_toArray, List.set_cons_zero, List.set_cons_succ])
              refine wpList_nil ?_
              go_wp2_with fail
              go_ret
              exact ⟨rfl, HK10.out.2.1⟩
          · as_aux_lemma =>
              have z1 : ((k : Int) == 8) = false := by rw [beq_eq_false_iff_ne]; omega
              go_upto_region 31 with (fail)
              refine wp_region_list ?_
              refine wpList_exec_if (op := { dst := some 149, op := Op.move (Operand.tmp 12), type := 3, pos := "outright.go:84", after := #[], guard := none }) (by kernel_rfl) ?_ ?_ ?_
              rotate_left
              · (go_simp; try with_reducible rfl)
              (try simp only [Act.put, List.setIfInBounds_toArray, List.set_cons_zero, List.set_cons_succ])
              refine wpList_exec_if (op := { dst := some 150, op := Op.binOp BinOp.eql 3 (Operand.tmp 149) (Operand.const (Value.int IntKind.i64 8)) 3, type := 4, pos := "outright.go:84", after := #[{ on := 0, ground := Ground.data }], guard := none }) (by kernel_rfl) ?_ ?_ ?_
              rotate_left
              · (go_simp; try with_reducible rfl)
              (try simp only [Act.put, List.setIfInBounds_toArray, List.set_cons_zero, List.set_cons_succ])
              refine wpList_exec_if (op := { dst := some 151, op := Op.move (Operand.tmp 150), type := 4, pos := "outright.go:84", after := #[{ on := 1, ground := Ground.data }], guard := none }) (by kernel_rfl) ?_ ?_ ?_
              rotate_left
              · (go_simp; try with_reducible rfl)
              (try simp only [Act.put, List.setIfInBounds_toArray, List.set_cons_zero, List.set_cons_succ])
              refine wpList_skip (op := { dst := some 152, op := Op.move (Operand.tmp 12), type := 3, pos := "outright.go:84", after := #[{ on := 2, ground := Ground.guard }], guard := some (2, true) }) (by kernel_rfl) ?_
              (try simp only [Act.put, List.setIfInBounds_toArray, List.set_cons_zero, List.set_cons_succ])
              refine wpList_skip (op := { dst := some 153, op := Op.move (Operand.tmp 11), type := 3, pos := "outright.go:84", after := #[{ on := 2, ground := Ground.guard }], guard := some (2, true) }) (by kernel_rfl) ?_
              (try simp only [Act.put, List.setIfInBounds_toArray, List.set_cons_zero, List.set_cons_succ])
              refine wpList_skip (op := { dst := some 154, op := Op.binOp BinOp.gtr 3 (Operand.tmp 152) (Operand.tmp 153) 3, type := 4, pos := "outright.go:84", after := #[{ on := 3, ground := Ground.data }, { on := 4, ground := Ground.data }, { on := 2, ground := Ground.guard }], guard := some (2, true) }) (by kernel_rfl) ?_
              (try simp only [Act.put, List.setIfInBounds_toArray, List.set_cons_zero, List.set_cons_succ])
              refine wpList_exec_if (op := { dst := some 155, op := Op.pick (Operand.tmp 151) (Operand.tmp 154) (Operand.const (Value.bool false)), type := 4, pos := "outright.go:84", after := #[{ on := 2, ground := Ground.data }, { on := 5, ground := Ground.data }], guard := none }) (by kernel_rfl) ?_ ?_ ?_
              rotate_left
              · (go_simp; try with_reducible rfl)
              (try simp only [Act.put, List.setIfInBounds_toArray, List.set_cons_zero, List.set_cons_succ])
              refine wpList_nil ?_
              go_upto_region 33 with (fail)
              clear z1
              have CP2 : Hid (∀ W, ML W → Calls Tryd.prog 13 #[.string S] W fun e w' => e = .returned (.tuple #[.agg (bu y).toArray, .bool true]) ∧ Below W.heap.size W w') := Lib.hid (fun W h => par_ok S y (by rw [hS.out]; exact six_short y HY.out _ _ a k (by omega) hab HZ.out) (by have := HSz.out; omega) W h)
              clear hL hS HZ HLz HSz
              generalize bu y = VY at *
              go_wp2_with fail
              refine (CP1.out _ (HWb.out _ HKi.out.2.1).ml).mono ?_
              rintro e w7 ⟨rfl, hb7⟩
              have HK7 := Lib.hid (HKi.out.below hb7 (Nat.le_refl _))
              clear hb7 HKi
              have ht := (bk_new w7 24 ([.int .u8 0, .int .u8 0, .int .u8 0, .int .u8 0, .int .u8 0, .int .u8 0, .int .u8 0, .int .u8 0, .int .u8 0, .int .u8 0, .int .u8 0, .int .u8 0, .int .u8 0, .int .u8 0, .int .u8 0, .int .u8 0] : List Value).toArray).there VY.toArray.size (by have := HL_VY.out; simp; omega)
              go_upto_region 34 with (((with_reducible (change wpList _ _ _ _ _ _)); ((refine wpList_store_mid rfl 24 _ _ rfl w7.heap.size 0 VY.toArray rfl rfl ht (by simpa using HI_VY.out) HO_VY.out ?_))))
              have HK8 := Lib.hid (HK7.out.put 24 ([.int .u8 0, .int .u8 0, .int .u8 0, .int .u8 0, .int .u8 0, .int .u8 0, .int .u8 0, .int .u8 0, .int .u8 0, .int .u8 0, .int .u8 0, .int .u8 0, .int .u8 0, .int .u8 0, .int .u8 0, .int .u8 0] : List Value).toArray VY (by have := HL_VY.out; simp; omega))
              clear ht HK7
              generalize (w7.alloc (.cells ([.int .u8 0, .int .u8 0, .int .u8 0, .int .u8 0, .int .u8 0, .int .u8 0, .int .u8 0, .int .u8 0, .int .u8 0, .int .u8 0, .int .u8 0, .int .u8 0, .int .u8 0, .int .u8 0, .int .u8 0, .int .u8 0] : List Value).toArray 24)).setCells w7.heap.size 0 VY = w8 at *
              generalize w7.heap.size = g8 at *
              have hr0 := HK8.out.hd.range
              have hr1 := HK8.out.tl.hd.range
              have hnq := HNQ.out
              refine wp_region_list ?_
              refine wpList_exec_if (op := { dst := some 163, op := Op.move (Operand.tmp 19), type := 4, pos := "outright.go:88", after := #[], guard := none }) (by kernel_rfl) ?_ ?_ ?_
              rotate_left
              · (go_simp; try with_reducible rfl)
              (try simp only [Act.put, List.setIfInBounds_toArray, List.set_cons_zero, List.set_cons_succ])
              refine wpList_exec_if (op := { dst := some 164, op := Op.unOp UnOp.not 4 (Operand.tmp 163), type := 4, pos := "outright.go:88", after := #[{ on := 0, ground := Ground.data }], guard := none }) (by kernel_rfl) ?_ ?_ ?_
              rotate_left
              · (go_simp; try with_reducible rfl)
              (try simp only [Act.put, List.setIfInBounds_toArray, List.set_cons_zero, List.set_cons_succ])
              refine wpList_exec_if (op := { dst := some 165, op := Op.move (Operand.tmp 164), type := 4, pos := "outright.go:88", after := #[{ on := 1, ground := Ground.data }], guard := none }) (by kernel_rfl) ?_ ?_ ?_
              rotate_left
              · (go_simp; try with_reducible rfl)
              (try simp only [Act.put, List.setIfInBounds_toArray, List.set_cons_zero, List.set_cons_succ])
              refine wpList_load_if (op := { dst := some 166, op := Op.load 24 (Operand.tmp 18), type := 24, pos := "outright.go:88", after := #[{ on := 2, ground := Ground.guard }], guard := some (2, false) }) (by kernel_rfl) 24 _ rfl (g8) 0 rfl VY _ hr0 Tryd.underlying24 rfl HI_VY.out ?_
              (try simp only [Act.put, List.setIfInBounds_toArray, List.set_cons_zero, List.set_cons_succ])
              refine wpList_load_if (op := { dst := some 167, op := Op.load 24 (Operand.tmp 5), type := 24, pos := "outright.go:88", after := #[{ on := 2, ground := Ground.guard }], guard := some (2, false) }) (by kernel_rfl) 24 _ rfl (w.heap.size) 0 rfl VY _ hr1 Tryd.underlying24 rfl HI_VY.out ?_
              (try simp only [Act.put, List.setIfInBounds_toArray, List.set_cons_zero, List.set_cons_succ])
              refine wpList_exec_if (op := { dst := some 168, op := Op.binOp BinOp.neq 24 (Operand.tmp 166) (Operand.tmp 167) 24, type := 4, pos := "outright.go:88", after := #[{ on := 3, ground := Ground.data }, { on := 4, ground := Ground.data }, { on := 2, ground := Ground.guard }], guard := some (2, false) }) (by kernel_rfl) ?_ ?_ ?_
              rotate_left
              · (go_simp; try with_reducible rfl)
              (try simp only [Act.put, List.setIfInBounds_toArray, List.set_cons_zero, List.set_cons_succ])
              refine wpList_exec_if (op := { dst := some 169, op := Op.pick (Operand.tmp 165) (Operand.const (Value.bool true)) (Operand.tmp 168), type := 4, pos := "outright.go:88", after := #[{ on := 2, ground := Ground.data }, { on := 5, ground := Ground.data }], guard := none }) (by kernel_rfl) ?_ ?_ ?_
              rotate_left
              · (go_simp; try with_reducible rfl)
              (try simp only [Act.put, List.setIfInBounds_toArray, List.set_cons_zero, List.set_cons_succ])
              refine wpList_nil ?_
              clear hr0 hr1 hnq
              go_wp2_with fail
              refine (CP2.out _ (HWb.out _ HK8.out.2.1).ml).mono ?_
              rintro e w9 ⟨rfl, hb9⟩
              have HK9 := Lib.hid (HK8.out.below hb9 (Nat.le_refl _))
              clear hb9 HK8
              have ht := (bk_new w9 24 ([.int .u8 0, .int .u8 0, .int .u8 0, .int .u8 0, .int .u8 0, .int .u8 0, .int .u8 0, .int .u8 0, .int .u8 0, .int .u8 0, .int .u8 0, .int .u8 0, .int .u8 0, .int .u8 0, .int .u8 0, .int .u8 0] : List Value).toArray).there VY.toArray.size (by have := HL_VY.out; simp; omega)
              go_upto_region 37 with (((with_reducible (change wpList _ _ _ _ _ _)); ((refine wpList_store_mid rfl 24 _ _ rfl w9.heap.size 0 VY.toArray rfl rfl ht (by simpa using HI_VY.out) HO_VY.out ?_))))
              have HK10 := Lib.hid (HK9.out.put 24 ([.int .u8 0, .int .u8 0, .int .u8 0, .int .u8 0, .int .u8 0, .int .u8 0, .int .u8 0, .int .u8 0, .int .u8 0, .int .u8 0, .int .u8 0, .int .u8 0, .int .u8 0, .int .u8 0, .int .u8 0, .int .u8 0] : List Value).toArray VY (by have := HL_VY.out; simp; omega))
              clear ht HK9
              generalize (w9.alloc (.cells ([.int .u8 0, .int .u8 0, .int .u8 0, .int .u8 0, .int .u8 0, .int .u8 0, .int .u8 0, .int .u8 0, .int .u8 0, .int .u8 0, .int .u8 0, .int .u8 0, .int .u8 0, .int .u8 0, .int .u8 0, .int .u8 0] : List Value).toArray 24)).setCells w9.heap.size 0 VY = w10 at *
              generalize w9.heap.size = g9 at *
              have hr0 := HK10.out.hd.range
              have hr1 := HK10.out.tl.tl.hd.range
              have heq := HEQ.out
              refine wp_region_list ?_
              refine wpList_exec_if (op := { dst := some 175, op := Op.move (Operand.tmp 21), type := 4, pos := "outright.go:92", after := #[], guard := none }) (by kernel_rfl) ?_ ?_ ?_
              rotate_left
              · (go_simp; try with_reducible rfl)
              (try simp only [Act.put, List.setIfInBounds_toArray, List.set_cons_zero, List.set_cons_succ])
              refine wpList_exec_if (op := { dst := some 176, op := Op.move (Operand.tmp 175), type := 4, pos := "outright.go:92", after := #[{ on := 0, ground := Ground.data }], guard := none }) (by kernel_rfl) ?_ ?_ ?_
              rotate_left
              · (go_simp; try with_reducible rfl)
              (try simp only [Act.put, List.setIfInBounds_toArray, List.set_cons_zero, List.set_cons_succ])
              refine wpList_load_if (op := { dst := some 177, op := Op.load 24 (Operand.tmp 20), type := 24, pos := "outright.go:92", after := #[{ on := 1, ground := Ground.guard }], guard := some (1, true) }) (by kernel_rfl) 24 _ rfl (g9) 0 rfl VY _ hr0 Tryd.underlying24 rfl HI_VY.out ?_
              (try simp only [Act.put, List.setIfInBounds_toArray, List.set_cons_zero, List.set_cons_succ])
              refine wpList_load_if (op := { dst := some 178, op := Op.load 24 (Operand.tmp 5), type := 24, pos := "outright.go:92", after := #[{ on := 1, ground := Ground.guard }], guard := some (1, true) }) (by kernel_rfl) 24 _ rfl (w.heap.size) 0 rfl VY _ hr1 Tryd.underlying24 rfl HI_VY.out ?_
              (try simp only [Act.put, List.setIfInBounds_toArray, List.set_cons_zero, List.set_cons_succ])
              refine wpList_exec_if (op := { dst := some 179, op := Op.binOp BinOp.eql 24 (Operand.tmp 177) (Operand.tmp 178) 24, type := 4, pos := "outright.go:92", after := #[{ on := 2, ground := Ground.data }, { on := 3, ground := Ground.data }, { on := 1, ground := Ground.guard }], guard := some (1, true) }) (by kernel_rfl) ?_ ?_ ?_
              rotate_left
              · (go_simp; try with_reducible rfl)
              (try simp only [Act.put, List.setIfInBounds_toArray, List.set_cons_zero, List.set_cons_succ])
              refine wpList_exec_if (op := { dst := some 180, op := Op.pick (Operand.tmp 176) (Operand.tmp 179) (Operand.const (Value.bool false)), type := 4, pos := "outright.go:92", after := #[{ on := 1, ground := Ground.data }, { on := 4, ground := Ground.data }], guard := none }) (by kernel_rfl) ?_ ?_ ?_
              rotate_left
              · (go_simp; try with_reducible rfl)
              (try simp only [Act.put, List.setIfInBounds_toArray, List.set_cons_zero, List.set_cons_succ])
              refine wpList_exec_if (op := { dst := some 10, op := Op.assign (Operand.tmp 180), type := 4, pos := "outright.go:92", after := #[{ on := 5, ground := Ground.data }, { on := 1, ground := Ground.chain }, { on := 0, ground := Ground.phase }, { on := 1, ground := Ground.phase }, { on := 2, ground := Ground.phase }, { on := 3, ground := Ground.phase }, { on := 4, ground := Ground.phase }, { on := 5, ground := Ground.phase }], guard := none }) (by kernel_rfl) ?_ ?_ ?_
              rotate_left
              · (go_simp; try with_reducible rfl)
              (try simp only [Act.put, List.setIfInBounds_toArray, List.set_cons_zero, List.set_cons_succ])
              refine wpList_nil ?_
              go_wp2_with fail
              go_ret
              exact ⟨rfl, HK10.out.2.1⟩
end Go.Proofs.YtkdplnbabelkoaaDoor
