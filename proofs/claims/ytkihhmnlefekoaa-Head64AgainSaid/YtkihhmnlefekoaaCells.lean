/-
  Proved here: what ip6.Routed, ip6.within, ip6.reaches, ip6.placeWord answer.
  Conditions: the slice's cells hold the extensions; small packets.
  Proved here: what ip6.bounded, kindsMayBe, extsFormed, pieceFormed, lengthBehind answer.
  Conditions: the slice's cells hold the extensions; small packets.
  Proved here: what slices.Backward's iterator over extensions hands a loop.
  Conditions: the slice's cells hold formed extensions, in a block below a bound.
  Proved here: a region that draws its order, in a round of a loop over an iterator, is walked by the laws for a region outside of one.
  Conditions: none of its operations defers.
  Proved here: what ip6.heads answers.
  Conditions: a packet that may be.
  Proved here: what ip6.refusal answers.
  Conditions: the slice's cells hold the extensions; small packets.
  Proved here: what ip6.Bytes answers.
  Conditions: the slice's cells hold the extensions; small packets.
  Proved here: what ip6.address answers; how a packet's cells are changed one by one.
  Conditions: the reader's block is whole, and has the bytes.
-/
import Derived.Test.YtkihhmnlefekoaaChain
import Derived.Test.YtkihhmnlefekoaaPk6
import Derived.RangeFuncNested
import Derived.RangeFuncBound
import Derived.RangeFuncCalls
import Derived.RangeFuncLeaves
import Derived.Shelf.Abstract
import Derived.Shelf.RegionOpen
import Derived.OwnWalkIn
import Derived.TacticsInMore
import Derived.LoopNIn
import Derived.LoopIn
namespace Go.Proofs.Ytkihhmnlefekoaa
open Go.RowKit
open Go.RowKit Go.Shelf

set_option maxRecDepth 100000 in
set_option maxHeartbeats 400000 in
theorem routed_any (v : Value) (l : List (Int × ByteArray)) (w : World) (h : Exs w v l) (hl : l.length ≤ 1099511627776) :
    Calls Try.prog 26 #[v] w fun e w' => e = .returned (.bool (rtd l)) ∧ Below w.heap.size w w' := by
  obtain ⟨ao, cap, rfl, _⟩ := id h
  have HC := Lib.hid h
  have HR := Lib.hid (show rtd l = l.any rt1 from rfl)
  clear h
  go_enter Try.func26, Try.ntmps26
  go_wp2_with fail
  go_loopw [7] (fun i wr => ∃ k : Nat, k ≤ l.length ∧ i = .int .i64 k ∧ Hid ((l.take k).any rt1 = false) ∧ Hid (Below w.heap.size w wr)) (fun i _ => l.length - (intOf i).toNat)
  case atStart => exact ⟨0, Nat.zero_le _, rfl, Lib.hid rfl, Lib.hid (Below.refl _ _)⟩
  case round =>
    obtain ⟨k, hk, rfl, HA, HB⟩ := hrel
    by_cases hlt : k < l.length
    · obtain ⟨ao', cap', e, hc⟩ := HC.out.below HB.out (Nat.le_refl _)
      injection e with e1 e2 e3
      subst e1
      obtain ⟨b, o, rfl, c1, c2⟩ := hc k hlt
      clear hc e2 e3
      have HY := Lib.hid (any_yes l k hlt rt1)
      have HN := Lib.hid (any_snoc l k hlt rt1 HA.out)
      have hk2 : (k : Int) < (l.length : Int) := by omega
      have HB2 := fun o => Lib.hid (HB.out.alloc HB.out.size o)
      generalize l[k] = x at *
      obtain ⟨kd, bd⟩ := x
      by_cases h43 : kd = 43
      · subst h43
        by_cases h2 : 2 ≤ bd.size
        · have h21 : (1 : Int) < (bd.size : Int) := by omega
          have hg := byte_get bd 1 (by omega)
          have HG := Lib.hid hg
          clear hg
          generalize hx : bd[1] = x1 at *
          cases h1 : (((x1.toNat : Nat) : Int) != 0)
          · have HT : Hid (rt1 (43, bd) = false) := Lib.hid (by
              unfold rt1
              rw [HG.out]
              have : x1.toNat = 0 := by simpa using h1
              have : x1 = 0 := UInt8.toNat_inj.1 this
              rw [this]
              simp)
            go_wp2_with fail
            go_roundw
            case rel => exact ⟨k + 1, by omega, by go_num, Lib.hid (HN.out HT.out), HB2 _⟩
            case measure => simp [intOf]; omega
          · have HT : Hid (rt1 (43, bd) = true) := Lib.hid (by
              unfold rt1
              rw [HG.out]
              have h3 : x1 ≠ 0 := fun he => by rw [he] at h1; exact absurd h1 (by decide)
              simp [h2, h3])
            go_wp2_with fail
            go_ret
            exact ⟨ret_bool (by rw [HR.out, HY.out HT.out]), (HB2 _).out⟩
        · have HT : Hid (rt1 (43, bd) = false) := Lib.hid (by unfold rt1; simp [h2])
          go_wp2_with fail
          go_roundw
          case rel => exact ⟨k + 1, by omega, by go_num, Lib.hid (HN.out HT.out), HB2 _⟩
          case measure => simp [intOf]; omega
      · have hk43 : (kd == 43) = false := by rw [beq_eq_false_iff_ne]; exact h43
        have HT : Hid (rt1 (kd, bd) = false) := Lib.hid (by unfold rt1; rw [show ((kd, bd).1 == 43) = false from hk43]; rfl)
        clear h43
        go_wp2_with fail
        go_roundw
        case rel => exact ⟨k + 1, by omega, by go_num, Lib.hid (HN.out HT.out), HB2 _⟩
        case measure => simp [intOf]; omega
    · obtain rfl : k = l.length := by omega
      have HT : Hid (rtd l = false) := Lib.hid (by rw [HR.out]; have := HA.out; rwa [List.take_length] at this)
      go_wp2_with fail
      go_ret
      exact ⟨ret_bool HT.out.symm, HB.out⟩
/-- What a function does with a packet that it is given: the box's cells. -/
theorem boxed6 (p : Pk6) (v : Value) (w : World) : ∃ V, V = p.vals v ∧ V.length = 42 ∧ Cs6 p v w.heap.size (w.alloc (.cells V.toArray 35)) ∧ Kp w w.heap.size [(w.heap.size, 35, V)] (w.alloc (.cells V.toArray 35)) :=
  ⟨_, rfl, vals_len p v, cs6 ((Kp.start w).new 35 (p.vals v)).hd, (Kp.start w).new 35 (p.vals v)⟩
/-- Do a packet's data end where a whole may? -/
def Pk6.rch (p : Pk6) : Bool := decide (p.pl + p.data.size ≤ 65535)
set_option maxRecDepth 100000 in
set_option maxHeartbeats 400000 in
theorem reaches_any (p : Pk6) (v : Value) (w : World) (hd : p.data.size ≤ 70000) (h0 : 0 ≤ p.pl) (h1 : p.pl ≤ 65528) :
    Calls Try.prog 57 #[.agg (p.vals v).toArray] w fun e w' => e = .returned (.bool p.rch) ∧ Below w.heap.size w w' := by
  obtain ⟨V, hV, hVl, hD, hK⟩ := boxed6 p v w
  rw [← hV]
  clear hV
  have d38 := hD.c38
  have d41 := hD.c41
  have HB := Lib.hid hK.2.1
  clear hD hK
  generalize hw1 : w.alloc (.cells V.toArray 35) = w1 at *
  go_enter Try.func57, Try.ntmps57
  go_upto_region 1 with (fail)
  clear hw1
  by_cases h : p.pl + p.data.size ≤ 65535
  · have HT : Hid (p.rch = true) := Lib.hid (decide_eq_true h)
    go_wp2_with fail
    go_ret
    exact ⟨ret_bool HT.out.symm, HB.out⟩
  · have HT : Hid (p.rch = false) := Lib.hid (decide_eq_false h)
    go_wp2_with fail
    go_ret
    exact ⟨ret_bool HT.out.symm, HB.out⟩
/-- Where a packet's data stand, with the bit beside that. -/
def Pk6.place (p : Pk6) : Int := if p.more then p.pl + 1 else p.pl
theorem or_one (x : Int) (h0 : 0 ≤ x) (h1 : x < 65536) (h8 : x % 8 = 0) : bits .or .i64 x 1 = x + 1 := by
  obtain ⟨n, rfl⟩ : ∃ n : Nat, x = n := ⟨x.toNat, by omega⟩
  have hor : n ||| 1 = n + 1 := by
    have := Nat.two_pow_add_eq_or_of_lt (i := 1) (b := 1) (by omega) (n / 2)
    rw [show 2 ^ 1 * (n / 2) = n by omega] at this
    exact this.symm
  have a1 : (BitVec.ofInt 64 (n : Int)).toNat = n := by
    rw [BitVec.ofInt_natCast, BitVec.toNat_ofNat]; exact Nat.mod_eq_of_lt (by omega)
  have a2 : (BitVec.ofInt 64 (1 : Int)).toNat = 1 := by decide
  show IntKind.i64.wrap ((BitVec.ofInt 64 (n : Int) ||| BitVec.ofInt 64 (1 : Int)).toNat : Int) = _
  rw [BitVec.toNat_or, a1, a2, hor, IntKind.wrap_i64]
  omega

/-- Are a packet's numbers in their bounds? -/
def Pk6.bnd (p : Pk6) : Bool := inB p.cls 255 && (inB p.flow 1048575 && (inB p.hop 255 && (inB p.proto 255 && (inB p.pl 65528 && (p.pl % 8 == 0)))))
theorem bnd_pl {p : Pk6} (h : p.bnd = true) : 0 ≤ p.cls ∧ p.cls ≤ 255 ∧ 0 ≤ p.flow ∧ p.flow ≤ 1048575 ∧ 0 ≤ p.hop ∧ p.hop ≤ 255 ∧ 0 ≤ p.proto ∧ p.proto ≤ 255 ∧ 0 ≤ p.pl ∧ p.pl ≤ 65528 ∧ p.pl % 8 = 0 := by
  unfold Pk6.bnd at h
  simp only [Bool.and_eq_true, inB_iff, beq_iff_eq] at h
  obtain ⟨⟨h1, h2⟩, ⟨h3, h4⟩, ⟨h5, h6⟩, ⟨h7, h8⟩, ⟨h9, h10⟩, h11⟩ := h
  exact ⟨h1, h2, h3, h4, h5, h6, h7, h8, h9, h10, h11⟩
/-- Is a next no extension's? -/
def isExB (n : Int) : Bool := decide (isEx n)
/-- Are the Kinds, and Proto, such as may be? -/
def Pk6.kinds (p : Pk6) : Bool := p.exts.all (fun e => isExB e.1) && (p.frag || (!isExB p.proto && p.proto != 44))
theorem all_snoc (l : List (Int × ByteArray)) (k : Nat) (h : k < l.length) (f : Int × ByteArray → Bool) (h0 : (l.take k).all f = true) (h1 : f l[k] = true) : (l.take (k + 1)).all f = true := by
  rw [List.take_succ_eq_append_getElem h, List.all_append, h0, List.all_cons, h1]
  rfl
theorem all_no (l : List (Int × ByteArray)) (k : Nat) (h : k < l.length) (f : Int × ByteArray → Bool) (h1 : f l[k] = false) : l.all f = false := by
  cases hl : l.all f
  · rfl
  · rw [List.all_eq_true] at hl
    rw [hl _ (List.getElem_mem h)] at h1
    cases h1
/-- Is an extension that has so many ahead of it formed? -/
def fm1 (k : Nat) (e : Int × ByteArray) : Bool := decide (e.2.size ≤ 2046) && (e.2.size % 8 == 6 && inPl e.1 k)
/-- Are the first so many extensions formed? -/
def fms (l : List (Int × ByteArray)) (n : Nat) : Bool := (List.range n).all (fun k => fm1 k (l.getD k (0, ⟨#[]⟩)))
def formed (l : List (Int × ByteArray)) : Bool := fms l l.length
theorem getD_at (l : List (Int × ByteArray)) (k : Nat) (h : k < l.length) : l.getD k (0, ⟨#[]⟩) = l[k] := by
  rw [List.getD_eq_getElem?_getD, List.getElem?_eq_getElem h]
  rfl
theorem fms_snoc (l : List (Int × ByteArray)) (k : Nat) (h : k < l.length) (h0 : fms l k = true) (h1 : fm1 k l[k] = true) : fms l (k + 1) = true := by
  unfold fms at *
  rw [List.range_succ, List.all_append, h0, List.all_cons, getD_at l k h, h1]
  rfl
theorem fms_no (l : List (Int × ByteArray)) (k : Nat) (h : k < l.length) (h1 : fm1 k l[k] = false) : formed l = false := by
  unfold formed fms
  cases hl : (List.range l.length).all (fun k => fm1 k (l.getD k (0, ⟨#[]⟩)))
  · rfl
  · rw [List.all_eq_true] at hl
    have := hl k (List.mem_range.2 h)
    rw [getD_at l k h, h1] at this
    cases this
theorem fms_at {l : List (Int × ByteArray)} (h : formed l = true) (k : Nat) (hk : k < l.length) : fm1 k l[k] = true := by
  unfold formed fms at h
  rw [List.all_eq_true] at h
  have := h k (List.mem_range.2 hk)
  rwa [getD_at l k hk] at this
/-- Has a packet what Frag asks? -/
def Pk6.piece (p : Pk6) : Bool := if p.frag then (!p.more || (decide (0 < p.data.size) && p.data.size % 8 == 0)) else (p.id == 0 && (p.pl == 0 && !p.more))
set_option maxRecDepth 100000 in
set_option maxHeartbeats 1000000 in
theorem piece_any (p : Pk6) (v : Value) (w : World) (hd : p.data.size ≤ 1099511627776) :
    Calls Try.prog 56 #[.agg (p.vals v).toArray] w fun e w' => e = .returned (.bool p.piece) ∧ Below w.heap.size w w' := by
  obtain ⟨V, hV, hVl, hD, hK⟩ := boxed6 p v w
  rw [← hV]
  clear hV
  have d36 := hD.c36
  have d37 := hD.c37
  have d38 := hD.c38
  have d39 := hD.c39
  have d41 := hD.c41
  have HB := Lib.hid hK.2.1
  clear hD hK
  generalize hw1 : w.alloc (.cells V.toArray 35) = w1 at *
  go_enter Try.func56, Try.ntmps56
  go_upto_region 1 with (fail)
  clear hw1
  cases hf : p.frag
  · have hq : p.piece = (p.id == 0 && (p.pl == 0 && !p.more)) := by unfold Pk6.piece; rw [hf]; rfl
    have HQ := Lib.hid hq
    rw [hf] at d36
    clear hf hq
    cases h1 : (p.id == 0)
    · have HT : Hid (p.piece = false) := Lib.hid (by rw [HQ.out, h1]; rfl)
      go_wp2_with fail
      go_ret
      exact ⟨ret_bool HT.out.symm, HB.out⟩
    · cases h2 : (p.pl == 0)
      · have HT : Hid (p.piece = false) := Lib.hid (by rw [HQ.out, h1, h2]; rfl)
        go_wp2_with fail
        go_ret
        exact ⟨ret_bool HT.out.symm, HB.out⟩
      · cases h3 : p.more
        all_goals
          have HT := Lib.hid (HQ.out.trans (by rw [h1, h2, h3]))
          rw [h3] at d39
          clear h3
          go_wp2_with fail
          go_ret
          exact ⟨ret_bool HT.out.symm, HB.out⟩
  · have hq : p.piece = (!p.more || (decide (0 < p.data.size) && p.data.size % 8 == 0)) := by unfold Pk6.piece; rw [hf]; rfl
    have HQ := Lib.hid hq
    rw [hf] at d36
    clear hf hq
    cases h3 : p.more
    · have HT : Hid (p.piece = true) := Lib.hid (by rw [HQ.out, h3]; rfl)
      rw [h3] at d39
      clear h3
      go_wp2_with fail
      go_ret
      exact ⟨ret_bool HT.out.symm, HB.out⟩
    · rw [h3] at d39
      by_cases h4 : 0 < p.data.size
      · have k3 : (p.data.size : Int).tmod 8 = (p.data.size : Int) % 8 := Int.tmod_eq_emod_of_nonneg (by omega)
        have k4 : IntKind.i64.wrap ((p.data.size : Int) % 8) = (p.data.size : Int) % 8 := IntWalk.i64_in _ (by omega)
        have m4 : (0 : Int) < (p.data.size : Int) := by omega
        by_cases h5 : p.data.size % 8 = 0
        · have m5 : ((p.data.size : Int) % 8 == 0) = true := by rw [beq_iff_eq]; omega
          have HT : Hid (p.piece = true) := Lib.hid (by rw [HQ.out, h3, h5, decide_eq_true h4]; rfl)
          clear h3 h5
          go_wp2_with fail
          go_ret
          exact ⟨ret_bool HT.out.symm, HB.out⟩
        · have m5 : ((p.data.size : Int) % 8 == 0) = false := by rw [beq_eq_false_iff_ne]; omega
          have HT : Hid (p.piece = false) := Lib.hid (by rw [HQ.out, h3, beq_eq_false_iff_ne.2 h5, Bool.and_false]; rfl)
          clear h3 h5
          go_wp2_with fail
          go_ret
          exact ⟨ret_bool HT.out.symm, HB.out⟩
      · have m4 : ¬ (0 : Int) < (p.data.size : Int) := by omega
        have HT : Hid (p.piece = false) := Lib.hid (by rw [HQ.out, h3, decide_eq_false h4, Bool.false_and]; rfl)
        clear h3
        go_wp2_with fail
        go_ret
        exact ⟨ret_bool HT.out.symm, HB.out⟩
/-- How many bytes extensions have in all. -/
def esum (l : List (Int × ByteArray)) : Nat := (l.map fun e => 2 + e.2.size).sum
theorem esum_snoc (l : List (Int × ByteArray)) (k : Nat) (h : k < l.length) : esum (l.take (k + 1)) = esum (l.take k) + (2 + l[k].2.size) := by
  unfold esum
  rw [List.take_succ_eq_append_getElem h, List.map_append, List.sum_append]
  simp
theorem esum_le (l : List (Int × ByteArray)) (k : Nat) : esum (l.take k) ≤ esum l := by
  have : esum l = esum (l.take k) + esum (l.drop k) := by
    unfold esum
    rw [← List.sum_append, ← List.map_append, List.take_append_drop]
  omega
/-- How many bytes stand behind a packet's head. -/
def Pk6.behind (p : Pk6) : Nat := p.data.size + (if p.frag then 8 else 0) + esum p.exts

attribute [local go_sem] Oper.semAt_some

/-- A formed extension. -/
abbrev GE := { e : Int × ByteArray // isEx e.1 ∧ e.2.size ≤ 2046 ∧ e.2.size % 8 = 6 }
def ge0 : GE := ⟨(0, ⟨#[0, 0, 0, 0, 0, 0]⟩), .inl rfl, by decide, by decide⟩
/-- An item: where it stands, and what it is. -/
def encG (x : Nat × GE) : Array Value := #[.int .i64 (x.1 : Int), .agg #[.int .i64 x.2.1.1, .string x.2.1.2]]
def uptoE {α : Type} (f : Nat → α) (k : Nat) : List α := (List.range k).map f
theorem uptoE_succ {α : Type} (f : Nat → α) (k : Nat) : uptoE f (k + 1) = uptoE f k ++ [f k] := by simp [uptoE, List.range_succ]
theorem uptoE_length {α : Type} (f : Nat → α) (k : Nat) : (uptoE f k).length = k := by simp [uptoE]
/-- The j-th item from behind. -/
def dn (zs : List GE) (j : Nat) : Nat × GE := (zs.length - 1 - j, zs.getD (zs.length - 1 - j) ge0)
theorem dn_at (zs : List GE) (m : Nat) (h : m < zs.length) : dn zs (zs.length - (m + 1)) = (m, zs[m]) := by
  unfold dn
  rw [show zs.length - 1 - (zs.length - (m + 1)) = m by omega, List.getD_eq_getElem?_getD, List.getElem?_eq_getElem h]
  rfl

/-- What a round keeps: what lay below n₀, and the block Bs. -/
def KpB (n₀ Bs : Nat) (A B : World) : Prop := Below n₀ A B ∧ B.heap[Bs]? = A.heap[Bs]?
theorem KpB.refl (n₀ Bs : Nat) (A : World) : KpB n₀ Bs A A := ⟨Below.refl _ _, rfl⟩
theorem KpB.trans {n₀ Bs : Nat} {A B C : World} (h : KpB n₀ Bs A B) (g : KpB n₀ Bs B C) : KpB n₀ Bs A C := ⟨h.1.trans g.1, g.2.trans h.2⟩
theorem KpB.box {n₀ Bs : Nat} {A B : World} {v : Value} (h : KpB n₀ Bs A B) (hc : A.cell? ⟨Bs, 0, none⟩ = some v) : B.cell? ⟨Bs, 0, none⟩ = some v := by
  rw [← hc]
  unfold World.cell?
  simp only [h.2]
theorem kpB_b {n₀ Bs : Nat} {w : World} (hB : Bs < w.heap.size) (hn : n₀ ≤ w.heap.size) (W : World) (l : Nat) (o o' : Obj) (hl : w.heap.size ≤ l) (h : W.heap[l]? = some o) (h1 : o.isCells = false) (h2 : o.isWalk = false) : KpB n₀ Bs W (W.putObj l o') :=
  ⟨belowK_b (w := w) hn W l o o' hl h h1 h2, World.putObj_heap_other (by omega)⟩
/-- A slice that reads as these extensions, in a block below n₀ where there are some. -/
def Gs (n₀ : Nat) (W : World) (sv : Value) (zs : List GE) : Prop :=
  ∃ ao cap, sv = .slice ao zs.length cap ∧ (zs = [] ∨ ∃ b off, ao = some ⟨b, off, none⟩ ∧ b < n₀ ∧ ∀ j (h : j < zs.length), W.cell? ⟨b, off + j * 2, none⟩ = some (.int .i64 zs[j].1.1) ∧ W.cell? ⟨b, off + j * 2 + 1, none⟩ = some (.string zs[j].1.2))
theorem Gs.below {n₀ : Nat} {W W' : World} {sv : Value} {zs : List GE} (h : Gs n₀ W sv zs) (hb : Below n₀ W W') : Gs n₀ W' sv zs := by
  obtain ⟨ao, cap, e, h | ⟨b, off, e2, hlt, hc⟩⟩ := h
  · exact ⟨ao, cap, e, .inl h⟩
  · exact ⟨ao, cap, e, .inr ⟨b, off, e2, hlt, fun j hj => ⟨(hb.cell (p := ⟨b, off + j * 2, none⟩) hlt).trans (hc j hj).1, (hb.cell (p := ⟨b, off + j * 2 + 1, none⟩) hlt).trans (hc j hj).2⟩⟩⟩
theorem gs_of {w : World} {v : Value} {l : List (Int × ByteArray)} {zs : List GE} (h : Exs w v l) (hz : zs.map Subtype.val = l) : Gs w.heap.size w v zs := by
  obtain ⟨ao, cap, rfl, hc⟩ := h
  have hl : zs.length = l.length := by rw [← hz, List.length_map]
  refine ⟨ao, cap, by rw [hl], ?_⟩
  cases zs with
  | nil => exact .inl rfl
  | cons z r =>
    right
    obtain ⟨b, o, rfl, h1, _⟩ := hc 0 (by rw [← hl]; simp)
    refine ⟨b, o, rfl, World.block_lt_of_cell? w ⟨b, o + 0 * 2, none⟩ h1, fun j hj => ?_⟩
    obtain ⟨b', o', e, g1, g2⟩ := hc j (by rw [← hl]; exact hj)
    have e2 : b' = b ∧ o' = o := by
      injection e with e
      injection e with e1 e2 e3
      exact ⟨e1.symm, e2.symm⟩
    obtain ⟨rfl, rfl⟩ := e2
    subst hz
    rw [List.getElem_map] at g1 g2
    exact ⟨g1, g2⟩

/-- Only the way on. -/
def QN (Q : Exit → Act → World → Prop) : Exit → Act → World → Prop
  | .normal, a, w => Q .normal a w
  | _, _, _ => False
theorem QN.normal {Q : Exit → Act → World → Prop} {a : Act} {w : World} (h : Q .normal a w) : QN Q .normal a w := h
theorem QN.imp {Q : Exit → Act → World → Prop} : ∀ (e : Exit) (a : Act) (w : World), QN Q e a w → Q e a w := fun e a w h => by
  cases e <;> first | exact h | exact (h : False).elim
def noDefer (ops : Array Oper) : Bool := ops.all fun o => match o.op with | .defer _ => false | _ => true
theorem noDefer_at {ops : Array Oper} (h : noDefer ops = true) {i : Nat} {o : Oper} (ho : ops[i]? = some o) : ∀ c, o.op ≠ .defer c := by
  intro c hc
  unfold noDefer at h
  rw [Array.all_eq_true_iff_forall_mem] at h
  have := h o (Array.mem_of_getElem? ho)
  rw [hc] at this
  cases this
theorem rowsIn_of {r n : Nat} {P : Program} {row : String} {args : Array Value} {w : World} {R : Value → World → Prop} (h : Rows P row args w R) : RowsIn (Fence.wide.inRound r) n P row args w R := by
  intro c cs _
  obtain ⟨v, w', hr, hs⟩ := h c cs
  exact ⟨v, w', hr, by rw [fenced_inRound]; exact stepsIn_wide.2 hs⟩
theorem opIn {r n : Nat} {P : Program} {o : Oper} {a : Act} {w : World} {next next' : Act → World → Prop} {Q : Exit → Act → World → Prop} (hd : ∀ c, o.op ≠ .defer c) (hn : ∀ a w, next a w → next' a w)
    (h : o.wp P a w next (QN Q)) : o.wpIn (Fence.wide.inRound r) n P a w next' (QN Q) := by
  unfold Oper.wpIn
  unfold Oper.wp at h
  rw [Fence.inRound_round, Oper.semAt_eq _ _ _ hd]
  refine ⟨fun _ _ => trivial, ?_⟩
  generalize (execOp a.eval o).run P w = R at h ⊢
  cases R with
  | ok nx w' =>
    cases nx with
    | value v => exact hn _ _ h
    | skip => exact hn _ _ h
    | defer d => exact hn _ _ h
    | enter f args =>
      refine ⟨fun hh => (by cases hh), CallsIn.inRound r (callsIn_wide.2 (Calls.mono h ?_))⟩
      intro e w'' he
      cases e with
      | returned v => exact hn _ _ he
      | panicked c => exact he
      | outgrown => exact he
    | row row args => exact ⟨fun hh => (by cases hh), RowsIn.mono (rowsIn_of h) (fun v w'' hv => hn _ _ hv)⟩
    | _ => exact (h : False).elim
  | halt e w' =>
    cases e with
    | panic v => exact h
    | _ => exact (h : False).elim
theorem opsIn {r n : Nat} {P : Program} {ops : Array Oper} {Q : Exit → Act → World → Prop} (hd : noDefer ops = true) : ∀ (l : List Nat) (a : Act) (w : World), wpOps P ops (QN Q) l a w → wpOpsIn (Fence.wide.inRound r) n P ops (QN Q) l a w := by
  intro l
  induction l with
  | nil => intro a w h; exact h
  | cons i rest ih =>
    intro a w h
    unfold wpOps at h
    unfold wpOpsIn
    cases ho : ops[i]? with
    | none => rw [ho] at h; exact ih _ _ h
    | some o =>
      simp only [ho] at h ⊢
      split
      · rename_i hw
        rw [if_pos hw] at h
        rcases h with h | ⟨_, a', w', h⟩
        · exact opIn (noDefer_at hd ho) (fun a w => ih a w) h
        · exact (h : False).elim
      · rename_i hw
        rw [if_neg hw] at h
        exact ⟨fun _ _ => trivial, ih _ _ h⟩
/-- The beginning. -/
theorem wpIn_region_held {r n : Nat} {P : Program} {id : Nat} {ops : Array Oper} {Q : Exit → Act → World → Prop} {S : World → Prop} {a : Act} {w : World} (hm : P.follows .mixedOrders = true) (hd : noDefer ops = true) (hS : S w.drew)
    (h : S w.drew → wpAnyH P .any ops (QN Q) S ops.size (Array.replicate ops.size false) a w.drew) : (Code.region id ops true).wpIn (Fence.wide.inRound r) n P Q a w :=
  wpIn_mono (wpIn_region_draw fun t => by
    simp only [Region.schedule, hm, Bool.true_or, if_true]
    exact opsIn hd _ _ _ (wpAny_sound ops.size t _ a _ (wpAny_of_held _ _ _ _ (h hS)))) QN.imp

attribute [local go_sem] Oper.semAt_some

/-- One extension more in front: the next that is told, and the bytes. -/
def hstep (st : Int × ByteArray) (e : Int × ByteArray) : Int × ByteArray := (e.1, strOfNums [st.1] ++ strOfNums [((e.2.size : Int) - 6) / 8] ++ e.2 ++ st.2)
/-- The fragment's head, or nothing. -/
def Pk6.fragB (p : Pk6) : ByteArray := strOfNums [p.proto] ++ strOfNums [0] ++ strOfNums [p.place / 256, p.place % 256] ++ strOfNums [p.id / 16777216, p.id / 65536 % 256, p.id / 256 % 256, p.id % 256]
def Pk6.st0 (p : Pk6) : Int × ByteArray := if p.frag then (44, p.fragB) else (p.proto, ⟨#[]⟩)
/-- What stands between the head and the data, and the first next. -/
def Pk6.heads (p : Pk6) : Int × ByteArray := p.exts.foldr (fun e st => hstep st e) p.st0
def hst (pre : List (Nat × GE)) (s0 : Int × ByteArray) : Int × ByteArray := pre.foldl (fun st x => hstep st x.2.1) s0
theorem hst_snoc (pre : List (Nat × GE)) (x : Nat × GE) (s0 : Int × ByteArray) : hst (pre ++ [x]) s0 = hstep (hst pre s0) x.2.1 := by simp [hst]
theorem hstep_size (st e : Int × ByteArray) : (hstep st e).2.size = 2 + e.2.size + st.2.size := by
  unfold hstep
  simp only [ByteArray.size_append, strOfNums_size, List.length_cons, List.length_nil]
theorem isEx_range {n : Int} (h : isEx n) : 0 ≤ n ∧ n < 256 := by rcases h with rfl | rfl | rfl <;> decide
theorem hst_facts (pre : List (Nat × GE)) : ∀ s0 : Int × ByteArray, 0 ≤ s0.1 ∧ s0.1 < 256 → (0 ≤ (hst pre s0).1 ∧ (hst pre s0).1 < 256) ∧ (hst pre s0).2.size ≤ s0.2.size + 2048 * pre.length := by
  induction pre with
  | nil => intro s0 h0; exact ⟨h0, Nat.le_refl _⟩
  | cons x r ih =>
    intro s0 h0
    have h := ih (hstep s0 x.2.1) (isEx_range x.2.2.1)
    have e : hst (x :: r) s0 = hst r (hstep s0 x.2.1) := rfl
    rw [e]
    refine ⟨h.1, ?_⟩
    have h2 := h.2
    rw [hstep_size] at h2
    have h3 := x.2.2.2.1
    rw [List.length_cons]
    omega
theorem dn_list (zs : List GE) : (uptoE (dn zs) zs.length).map (·.2) = zs.reverse := by
  apply List.ext_getElem
  · simp [uptoE]
  · intro i h1 h2
    simp only [uptoE, List.length_map, List.length_range] at h1
    simp only [uptoE, List.getElem_map, List.getElem_range, List.getElem_reverse]
    unfold dn
    rw [List.getD_eq_getElem?_getD, List.getElem?_eq_getElem (by omega)]
    rfl
theorem hst_all (zs : List GE) (s0 : Int × ByteArray) : hst (uptoE (dn zs) zs.length) s0 = (zs.map Subtype.val).foldr (fun e st => hstep st e) s0 := by
  have e : ∀ (pre : List (Nat × GE)) (s : Int × ByteArray), hst pre s = ((pre.map (·.2)).map Subtype.val).foldl hstep s := by
    intro pre
    induction pre with
    | nil => intro s; rfl
    | cons x r ih => intro s; exact ih _
  rw [e, dn_list, List.map_reverse, List.foldl_reverse]
theorem ge_of (l : List (Int × ByteArray)) (h : ∀ e ∈ l, isEx e.1 ∧ e.2.size ≤ 2046 ∧ e.2.size % 8 = 6) : ∃ zs : List GE, zs.map Subtype.val = l := by
  induction l with
  | nil => exact ⟨[], rfl⟩
  | cons e r ih =>
    obtain ⟨zs, hz⟩ := ih (fun x hx => h x (List.mem_cons_of_mem _ hx))
    exact ⟨⟨e, h e (by simp)⟩ :: zs, by rw [List.map_cons, hz]⟩
theorem cat_len (a b : ByteArray) : (a ++ b).size = a.size + b.size := ByteArray.size_append
theorem ge_all {p : Pk6} (hk : p.kinds = true) (hf : formed p.exts = true) : ∀ e ∈ p.exts, isEx e.1 ∧ e.2.size ≤ 2046 ∧ e.2.size % 8 = 6 := by
  intro e he
  unfold Pk6.kinds at hk
  simp only [Bool.and_eq_true, List.all_eq_true] at hk
  obtain ⟨i, hi, rfl⟩ := List.mem_iff_getElem.1 he
  have h1 := fms_at hf i hi
  unfold fm1 at h1
  simp only [Bool.and_eq_true, decide_eq_true_eq, beq_iff_eq] at h1
  exact ⟨of_decide_eq_true (hk.1 _ he), h1.1, h1.2.1⟩
/-- What a round's region keeps. -/
theorem rs {W w' : World} {n Bx Bs : Nat} {T S : TypeId} {nx kd : Int} {bd : ByteArray} (bN : Boxed W (n + 1) T (.int .i64 nx)) (bX : Bk W Bx S #[.int .i64 kd, .string bd]) (h3 : n + 3 ≤ Bs) (hB : Bs < Bx) (g : W.grownBy w' (some (n + 1 + 1))) :
    W.grownBy w' (some (n + 1 + 1)) ∧ w'.cell? ⟨n + 1, 0, none⟩ = some (.int .i64 nx) ∧ w'.cell? ⟨Bx, 1, none⟩ = some (.string bd) :=
  ⟨g, (bN.kept g (fun e => by injection e with e; omega)).cell, (bX.grown g (fun e => by injection e with e; omega)).c 1 _ rfl⟩
theorem rs3 {W w' : World} {n : Nat} {T S : TypeId} {nx id : Int} {V : List Value} (bN : Boxed W (n + 1) T (.int .i64 nx)) (bB : Bk W n S V.toArray) (h37 : V[37]? = some (.int .u32 id)) (g : W.grownBy w' (some (n + 1 + 1))) :
    W.grownBy w' (some (n + 1 + 1)) ∧ w'.cell? ⟨n + 1, 0, none⟩ = some (.int .i64 nx) ∧ w'.rangeAt n 0 V ∧ w'.cell? ⟨n, 37, none⟩ = some (.int .u32 id) :=
  have b := bB.grown g (fun e => by injection e with e; omega)
  ⟨g, (bN.kept g (fun e => by injection e with e; omega)).cell, b.range, b.at h37⟩
theorem fragB_size (p : Pk6) : p.fragB.size = 8 := by
  unfold Pk6.fragB
  simp only [ByteArray.size_append, strOfNums_size, List.length_cons, List.length_nil]
theorem Boxed.below' {W W' : World} {B C : Nat} {t : TypeId} {v : Value} (h : Boxed W B t v) (hb : Below C W W') (hC : B < C) : Boxed W' B t v := (hb.block B hC).trans h

/-- A packet that is small. -/
structure Sm (p : Pk6) : Prop where
  len : p.exts.length ≤ 20
  data : p.data.size ≤ 70000
  body : ∀ e ∈ p.exts, e.2.size ≤ 70000
theorem esum_small (l : List (Int × ByteArray)) (h : ∀ e ∈ l, e.2.size ≤ 70000) : esum l ≤ 70002 * l.length := by
  induction l with
  | nil => simp [esum]
  | cons e r ih =>
    have h1 := ih (fun x hx => h x (List.mem_cons_of_mem _ hx))
    have h2 := h e (by simp)
    unfold esum at *
    simp only [List.map_cons, List.sum_cons, List.length_cons]
    omega
theorem Sm.sum {p : Pk6} (h : Sm p) : esum p.exts ≤ 1400040 := by
  have h1 := esum_small p.exts h.body
  have h2 := h.len
  omega
/-- Why a packet may not be: a code, or 0. -/
def Pk6.why (p : Pk6) : Int :=
  if p.bnd = false then 13
  else if p.kinds = false then 10
  else if formed p.exts = false ∨ p.piece = false then 8
  else if 8 < p.exts.length ∨ p.rch = false ∨ 65535 < p.behind then 3
  else 0
/-- What a packet that may be is. -/
structure Ok6 (p : Pk6) : Prop where
  bnd : p.bnd = true
  kinds : p.kinds = true
  form : formed p.exts = true
  piece : p.piece = true
  len : p.exts.length ≤ 8
  rch : p.rch = true
  behind : p.behind ≤ 65535
theorem why_ok {p : Pk6} (h : p.why = 0) : Ok6 p := by
  unfold Pk6.why at h
  split at h
  · cases h
  · rename_i h1
    split at h
    · cases h
    · rename_i h2
      split at h
      · cases h
      · rename_i h3
        split at h
        · cases h
        · rename_i h4
          exact ⟨by simpa using h1, by simpa using h2, by cases hf : formed p.exts <;> simp_all, by cases hp : p.piece <;> simp_all, by omega, by cases hr : p.rch <;> simp_all, by omega⟩

/-- Bytes as a text. -/
def strB (l : List UInt8) : ByteArray := strOfNums (l.map fun c => (c.toNat : Int))
theorem strB_list (l : List UInt8) : (strB l).data.toList = l := by
  have e : ((fun n : Int => UInt8.ofNat n.toNat) ∘ fun c : UInt8 => (c.toNat : Int)) = id := by
    funext c
    simp
  unfold strB strOfNums
  simp [e]
theorem strB_size (l : List UInt8) : (strB l).size = l.length := by
  rw [← ba_size, strB_list]
theorem Bk.conv {w : World} {b : Nat} {T : TypeId} {V : List Value} (h : Bk w b T V.toArray) (o : Nat) (l : List UInt8) (n : Nat) (hl : l.length = n) (hv : ∀ i x, (bytV l)[i]? = some x → V[o + i]? = some x) :
    (convert 67 9 (.slice (some ⟨b, o, none⟩) n n)).run Try.prog w = .ok (.string (strB l)) w := by
  refine run_convert_bytes_arg _ 67 5 Try.underlying67 Try.underlying5 b o n n (l.map fun c => (c.toNat : Int)) (by rw [List.length_map, hl]) (fun i hi => ?_) 9 Try.underlying9
  have hi2 : i < l.length := by omega
  rw [h.at (hv i _ (by unfold bytV; rw [List.getElem?_map, List.getElem?_eq_getElem hi2]; rfl)), List.getD_eq_getElem?_getD, List.getElem?_map, List.getElem?_eq_getElem hi2]
  rfl
/-- A call that answers v and a fault of code c at place 0. -/
def Bad (v : Value) (c : Int) (w : World) (e : Ending) (w' : World) : Prop :=
  ∃ b, e = .returned (.tuple #[v, .iface 75 (.pointer (some ⟨b, 0, none⟩))]) ∧ Flt w' b c 0 ∧ w.heap.size ≤ b ∧ Below w.heap.size w w'
/-- The first four bytes, as a number. -/
def Pk6.word (p : Pk6) : Int := 1610612736 + p.cls * 1048576 + p.flow
theorem or_i (x k m : Nat) (hk : k ≤ 32) (hm : m < 65536) (hx : x < 2 ^ k) : bits .or .i64 ((2 ^ k * m : Nat) : Int) ((x : Nat) : Int) = ((2 ^ k * m + x : Nat) : Int) := by
  have hp : 2 ^ k ≤ 2 ^ 32 := Nat.pow_le_pow_right (by omega) hk
  have hq : 2 ^ k * m ≤ 2 ^ 32 * 65536 := Nat.mul_le_mul hp (by omega)
  have hor : 2 ^ k * m ||| x = 2 ^ k * m + x := (Nat.two_pow_add_eq_or_of_lt hx m).symm
  have h1 : (BitVec.ofInt 64 ((x : Nat) : Int)).toNat = x := by
    rw [BitVec.ofInt_natCast, BitVec.toNat_ofNat]; exact Nat.mod_eq_of_lt (by omega)
  have h2 : (BitVec.ofInt 64 ((2 ^ k * m : Nat) : Int)).toNat = 2 ^ k * m := by
    rw [BitVec.ofInt_natCast, BitVec.toNat_ofNat]; exact Nat.mod_eq_of_lt (by omega)
  show IntKind.i64.wrap ((BitVec.ofInt 64 ((2 ^ k * m : Nat) : Int) ||| BitVec.ofInt 64 ((x : Nat) : Int)).toNat : Int) = _
  rw [BitVec.toNat_or, h1, h2, hor, IntKind.wrap_i64]
  omega
theorem or_cls (x : Int) (h0 : 0 ≤ x) (h1 : x ≤ 255) : bits .or .i64 1610612736 (x * 1048576) = 1610612736 + x * 1048576 := by
  obtain ⟨n, rfl⟩ : ∃ n : Nat, x = n := ⟨x.toNat, by omega⟩
  have := or_i (n * 1048576) 28 6 (by decide) (by decide) (by omega)
  rw [show ((2 ^ 28 * 6 : Nat) : Int) = 1610612736 by decide] at this
  rw [show ((n : Int) * 1048576) = ((n * 1048576 : Nat) : Int) by omega, this]
  omega
theorem or_flow (x y : Int) (h0 : 0 ≤ x) (h1 : x ≤ 255) (g0 : 0 ≤ y) (g1 : y ≤ 1048575) : bits .or .i64 (1610612736 + x * 1048576) y = 1610612736 + x * 1048576 + y := by
  obtain ⟨n, rfl⟩ : ∃ n : Nat, x = n := ⟨x.toNat, by omega⟩
  obtain ⟨m, rfl⟩ : ∃ m : Nat, y = m := ⟨y.toNat, by omega⟩
  have := or_i m 20 (1536 + n) (by decide) (by omega) (by omega)
  rw [show ((2 ^ 20 * (1536 + n) : Nat) : Int) = 1610612736 + (n : Int) * 1048576 by omega] at this
  rw [this]
  omega
theorem heads_size_of (s0 : Int × ByteArray) (l : List (Int × ByteArray)) : (l.foldr (fun e st => hstep st e) s0).2.size = s0.2.size + esum l := by
  induction l with
  | nil => rfl
  | cons e r ih =>
    rw [List.foldr_cons, hstep_size, ih]
    unfold esum
    rw [List.map_cons, List.sum_cons]
    omega
theorem heads_size (p : Pk6) : p.heads.2.size + p.data.size = p.behind := by
  unfold Pk6.heads
  rw [heads_size_of]
  unfold Pk6.st0 Pk6.behind
  cases p.frag
  · show (0 : Nat) + _ + _ = _ + 0 + _
    omega
  · show p.fragB.size + _ + _ = _ + 8 + _
    rw [fragB_size]
    omega
theorem heads_next {p : Pk6} (hp : 0 ≤ p.proto ∧ p.proto < 256) (hge : ∀ e ∈ p.exts, isEx e.1 ∧ e.2.size ≤ 2046 ∧ e.2.size % 8 = 6) : 0 ≤ p.heads.1 ∧ p.heads.1 < 256 := by
  unfold Pk6.heads
  cases h : p.exts with
  | nil =>
    show 0 ≤ p.st0.1 ∧ p.st0.1 < 256
    unfold Pk6.st0
    split
    · exact ⟨by show (0 : Int) ≤ 44; omega, by show (44 : Int) < 256; omega⟩
    · exact hp
  | cons e r =>
    rw [List.foldr_cons]
    exact isEx_range (hge e (by rw [h]; simp)).1
/-- A packet's bytes. -/
def Pk6.bytes (p : Pk6) : ByteArray :=
  strOfNums [p.word / 16777216, p.word / 65536 % 256, p.word / 256 % 256, p.word % 256] ++ strOfNums [((p.heads.2.size : Int) + (p.data.size : Int)) / 256, ((p.heads.2.size : Int) + (p.data.size : Int)) % 256] ++ strOfNums [p.heads.1] ++ strOfNums [p.hop] ++ strB p.fr ++ strB p.dst ++ p.heads.2 ++ p.data
/-- What a region of Bytes keeps and reads. -/
theorem kb_loads {p : Pk6} {w0 w : World} {B b : Nat} {V : List Value} (hv0 : V[0]? = some (.int .i64 p.cls)) (hv1 : V[1]? = some (.int .i64 p.flow)) (hv2 : V[2]? = some (.int .i64 p.hop)) (hv41 : V[41]? = some (.string p.data))
    (hf : ∀ i x, (bytV p.fr)[i]? = some x → V[3 + i]? = some x) (hd : ∀ i x, (bytV p.dst)[i]? = some x → V[19 + i]? = some x) (h : Kp w0 B [(b, 35, V)] w) :
    Kp w0 B [(b, 35, V)] w ∧ w.cell? ⟨b, 0, none⟩ = some (.int .i64 p.cls) ∧ w.cell? ⟨b, 1, none⟩ = some (.int .i64 p.flow) ∧ w.cell? ⟨b, 2, none⟩ = some (.int .i64 p.hop) ∧ w.cell? ⟨b, 41, none⟩ = some (.string p.data) ∧
    (convert 67 9 (.slice (some ⟨b, 3, none⟩) 16 16)).run Try.prog w = .ok (.string (strB p.fr)) w ∧ (convert 67 9 (.slice (some ⟨b, 19, none⟩) 16 16)).run Try.prog w = .ok (.string (strB p.dst)) w :=
  ⟨h, h.hd.at hv0, h.hd.at hv1, h.hd.at hv2, h.hd.at hv41, h.hd.conv 3 p.fr 16 p.hfr hf, h.hd.conv 19 p.dst 16 p.hdst hd⟩

theorem up_sets {w : World} {r : Option Nat} {c : Nat} (vs : List Value) (hc : w.heap.size ≤ c) : ∀ (o : Nat) (w' : World), w.grownBy w' r → w.grownBy (w'.setCells c o vs) r := by
  induction vs with
  | nil => intro o w' h; exact h
  | cons v t ih => intro o w' h; exact ih (o + 1) _ (up_setNew h hc o v)
theorem all_oneCell_toArray' {l : List Value} (h : ∀ v ∈ l, v.oneCell' = true) : l.toArray.all (·.oneCell') = true := by
  rw [List.all_toArray, List.all_eq_true]
  exact h
theorem Try.sizeByte (w : World) : (Go.sizeOf 5).run Try.prog w = .ok 1 w := by kernel_rfl
/-- Sixteen bytes of a text. -/
def adr (s : ByteArray) (p : Nat) : List UInt8 := (s.extract p (p + 16)).data.toList
theorem adr_len (s : ByteArray) (p : Nat) (h : p + 16 ≤ s.size) : (adr s p).length = 16 := by
  unfold adr
  rw [ba_size]
  simp
  omega
theorem Rd.sets_other {w : World} {r b : Nat} {s : ByteArray} {p : Nat} {c : Int} (h : Rd w r s p c) (hne : r ≠ b) (o : Nat) (vs : List Value) : Rd (w.setCells b o vs) r s p c := (heap_sets vs hne o w).trans h
theorem Rd.set_other {w : World} {r b : Nat} {s : ByteArray} {p : Nat} {c : Int} (h : Rd w r s p c) (hne : r ≠ b) (o : Nat) (v : Value) : Rd (w.setCell ⟨b, o, none⟩ v) r s p c := (Below.heap_setCell _ _ _ _ hne).trans h
set_option maxRecDepth 100000 in
set_option maxHeartbeats 400000 in
theorem address_any {w : World} {r : Nat} {s : ByteArray} {p : Nat} (h : Rd w r s p 0) (hs : s.size ≤ maxLen) (hl : p + 16 ≤ s.size) :
    Calls Try.prog 52 #[.pointer (some ⟨r, 0, none⟩)] w fun e w' => e = .returned (.agg (bytV (adr s p)).toArray) ∧ Rd w' r s (p + 16) 0 ∧ w.grownBy w' (some r) := by
  have hr0 := h.alloc (.cells (#[.int .u8 0, .int .u8 0, .int .u8 0, .int .u8 0, .int .u8 0, .int .u8 0, .int .u8 0, .int .u8 0, .int .u8 0, .int .u8 0, .int .u8 0, .int .u8 0, .int .u8 0, .int .u8 0, .int .u8 0, .int .u8 0] : Array Value) 32)
  have hk0 := bk_new w 32 (#[.int .u8 0, .int .u8 0, .int .u8 0, .int .u8 0, .int .u8 0, .int .u8 0, .int .u8 0, .int .u8 0, .int .u8 0, .int .u8 0, .int .u8 0, .int .u8 0, .int .u8 0, .int .u8 0, .int .u8 0, .int .u8 0] : Array Value)
  have HT := Lib.hid (text_ok hr0 hs 16 hl)
  have HLt := Lib.hid h.lt
  have hL : (bytV (adr s p)).length = 16 := by rw [bytV_len, adr_len s p hl]
  have HO := Lib.hid (bytV_one (adr s p))
  have hz : (s.extract p (p + 16)).size = 16 := by simp; omega
  have HZ := Lib.hid hz
  have HLL := Lib.hid hL
  have hZs : (#[.int .u8 0, .int .u8 0, .int .u8 0, .int .u8 0, .int .u8 0, .int .u8 0, .int .u8 0, .int .u8 0, .int .u8 0, .int .u8 0, .int .u8 0, .int .u8 0, .int .u8 0, .int .u8 0, .int .u8 0, .int .u8 0] : Array Value).size = 16 := rfl
  have hG0 : w.grownBy (w.alloc (.cells (#[.int .u8 0, .int .u8 0, .int .u8 0, .int .u8 0, .int .u8 0, .int .u8 0, .int .u8 0, .int .u8 0, .int .u8 0, .int .u8 0, .int .u8 0, .int .u8 0, .int .u8 0, .int .u8 0, .int .u8 0, .int .u8 0] : Array Value) 32)) (some r) := World.grownBy_alloc _ _ _
  have HG0 := Lib.hid hG0
  clear h hz hl hs hr0 hG0 hL
  generalize hZ : (#[.int .u8 0, .int .u8 0, .int .u8 0, .int .u8 0, .int .u8 0, .int .u8 0, .int .u8 0, .int .u8 0, .int .u8 0, .int .u8 0, .int .u8 0, .int .u8 0, .int .u8 0, .int .u8 0, .int .u8 0, .int .u8 0] : Array Value) = Z at *
  have HZX := Lib.hid hZ
  have HK0 := Lib.hid hk0
  clear hk0 hZ
  generalize hw1 : w.alloc (.cells Z 32) = w1 at *
  go_enter Try.func52, Try.ntmps52
  go_upto_region 1 with (fail)
  rw [HZX.out, hw1]
  clear hw1
  go_wp2_with fail
  refine HT.out.mono ?_
  rintro e w2 ⟨rfl, hR2, hG2⟩
  have hk2 : Bk w2 w.heap.size 32 Z := HK0.out.grown hG2 (by have := HLt.out; simp; omega)
  have hcp : ∀ ty, (Builtin.copy_ #[67, 9] ty #[.slice (some ⟨w.heap.size, 0, none⟩) 16 16, .string (s.extract p (p + 16))]).run Try.prog w2 = .ok (goInt (s.extract p (p + 16)).size) (w2.setCells w.heap.size 0 (bytV (adr s p))) := fun ty =>
    Go.run_copy_string w2 _ _ ty 5 w.heap.size 0 16 16 _ Try.underlying67 Try.sizeByte (Nat.le_of_eq HZ.out) (fun j hj => (hk2.there 16 (Nat.le_of_eq hZs.symm) j (by rw [HZ.out] at hj; exact hj)).1) (fun j hj => (hk2.there 16 (Nat.le_of_eq hZs.symm) j (by rw [HZ.out] at hj; exact hj)).2)
  have hG2' : w.grownBy w2 (some r) := up_trans HG0.out hG2
  have hk3 := Bk.sets (bytV (adr s p)) 0 _ _ hk2
  rw [puts_whole _ _ (by rw [HLL.out, hZs])] at hk3
  have HK3 := Lib.hid hk3
  have HR3 := Lib.hid (hR2.sets_other (b := w.heap.size) (by have := HLt.out; omega) 0 (bytV (adr s p)))
  have HG3 := Lib.hid (up_sets (bytV (adr s p)) (Nat.le_refl _) 0 _ hG2')
  clear hk2 hG2 hG2' hk3 hR2
  have HCP := Lib.hid (hcp 3)
  clear hcp
  go_wp2_with fail
  rw [HCP.out]
  generalize hVA : bytV (adr s p) = VA at *
  have HVA := Lib.hid hVA
  clear hVA
  generalize w2.setCells w.heap.size 0 VA = w3 at HK3 HR3 HG3
  have hr3 := HK3.out.range
  have hi : (Try.prog.info? 32).map (·.size) = some VA.length := by rw [HLL.out]; kernel_rfl
  have hone := all_oneCell_toArray' HO.out
  have ht4 : w3.there w.heap.size 0 VA.toArray.size := HK3.out.there _ (Nat.le_refl _)
  clear HCP
  go_wp2_with (first | (refine wpList_load_mid rfl 32 _ rfl w.heap.size 0 rfl VA _ hr3 Try.underlying32 rfl hi ?_) | (refine wpList_store_mid rfl 32 _ _ rfl w.heap.size 0 VA.toArray rfl rfl ht4 hi hone ?_))
  have hk5 := Bk.sets VA 0 _ _ HK3.out
  rw [puts_whole VA.toArray VA (by simp)] at hk5
  refine bodyPost_ret (v := .agg VA.toArray) (results_cell rfl rfl (run_loadVar_mid _ w.heap.size 0 32 VA _ hk5.range Try.underlying32 rfl hi)) rfl ⟨by rw [HVA.out], ?_, ?_⟩
  · exact HR3.out.sets_other (by have := HLt.out; omega) 0 _
  · exact up_sets _ (Nat.le_refl _) 0 _ HG3.out
theorem puts_mid (A B C l : List Value) (h : l.length = B.length) : puts (A ++ (B ++ C)).toArray A.length l = (A ++ (l ++ C)).toArray := by
  apply Array.toList_inj.1
  rw [puts_list _ _ _ (by simp; omega)]
  show List.take A.length (A ++ (B ++ C)) ++ l ++ List.drop (A.length + l.length) (A ++ (B ++ C)) = A ++ (l ++ C)
  rw [List.take_left' rfl, List.drop_append, List.drop_of_length_le (by omega), List.nil_append, Nat.add_sub_cancel_left, h, List.drop_left, List.append_assoc]
/-- The packet of no numbers. -/
def pk0 : Pk6 := ⟨0, 0, 0, List.replicate 16 0, List.replicate 16 0, [], false, 0, 0, false, 0, ⟨#[]⟩, rfl, rfl⟩
theorem pk0_vals : (pk0.vals (.slice none 0 0)).toArray = #[.int .i64 0, .int .i64 0, .int .i64 0, .int .u8 0, .int .u8 0, .int .u8 0, .int .u8 0, .int .u8 0, .int .u8 0, .int .u8 0, .int .u8 0, .int .u8 0, .int .u8 0, .int .u8 0, .int .u8 0, .int .u8 0, .int .u8 0, .int .u8 0, .int .u8 0, .int .u8 0, .int .u8 0, .int .u8 0, .int .u8 0, .int .u8 0, .int .u8 0, .int .u8 0, .int .u8 0, .int .u8 0, .int .u8 0, .int .u8 0, .int .u8 0, .int .u8 0, .int .u8 0, .int .u8 0, .int .u8 0, .slice none 0 0, .bool false, .int .u32 0, .int .i64 0, .bool false, .int .i64 0, .string ⟨#[]⟩] := rfl
section
variable (p : Pk6) (v : Value)
theorem vset0 (x : Int) : (p.vals v).toArray.setIfInBounds 0 (.int .i64 x) = (({ p with cls := x } : Pk6).vals v).toArray := by rw [List.setIfInBounds_toArray]; rfl
theorem vset1 (x : Int) : (p.vals v).toArray.setIfInBounds 1 (.int .i64 x) = (({ p with flow := x } : Pk6).vals v).toArray := by rw [List.setIfInBounds_toArray]; rfl
theorem vset2 (x : Int) : (p.vals v).toArray.setIfInBounds 2 (.int .i64 x) = (({ p with hop := x } : Pk6).vals v).toArray := by rw [List.setIfInBounds_toArray]; rfl
/-- The cells ahead of the tail. -/
def Pk6.front (p : Pk6) : List Value := [.int .i64 p.cls, .int .i64 p.flow, .int .i64 p.hop] ++ (bytV p.fr ++ bytV p.dst)
theorem front_len : p.front.length = 35 := by
  unfold Pk6.front
  rw [List.length_append, List.length_append, bytV_len, bytV_len, p.hfr, p.hdst]
  rfl
theorem vals_front : p.vals v = p.front ++ p.tail v := by
  unfold Pk6.vals Pk6.front
  simp only [List.append_assoc]
theorem vtail (i : Nat) (x : Value) (q : Pk6) (u : Value) (hf : q.front = p.front) (ht : (p.tail v).set i x = q.tail u) : (p.vals v).toArray.setIfInBounds (35 + i) x = (q.vals u).toArray := by
  rw [List.setIfInBounds_toArray, vals_front, vals_front, List.set_append_right _ _ (by rw [front_len]; omega), front_len, Nat.add_sub_cancel_left, ht, hf]
theorem vputs_fr (l : List UInt8) (hl : l.length = 16) : puts (p.vals v).toArray 3 (bytV l) = (({ p with fr := l, hfr := hl } : Pk6).vals v).toArray :=
  puts_mid [.int .i64 p.cls, .int .i64 p.flow, .int .i64 p.hop] (bytV p.fr) (bytV p.dst ++ p.tail v) (bytV l) (by rw [bytV_len, bytV_len, hl, p.hfr])
theorem vputs_dst (l : List UInt8) (hl : l.length = 16) : puts (p.vals v).toArray 19 (bytV l) = (({ p with dst := l, hdst := hl } : Pk6).vals v).toArray := by
  have e : ∀ (q : Pk6), q.vals v = ([.int .i64 q.cls, .int .i64 q.flow, .int .i64 q.hop] ++ bytV q.fr) ++ (bytV q.dst ++ q.tail v) := fun q => by unfold Pk6.vals; rw [List.append_assoc]
  have e2 : ([Value.int .i64 p.cls, .int .i64 p.flow, .int .i64 p.hop] ++ bytV p.fr).length = 19 := by rw [List.length_append, bytV_len, p.hfr]; rfl
  have h := puts_mid ([.int .i64 p.cls, .int .i64 p.flow, .int .i64 p.hop] ++ bytV p.fr) (bytV p.dst) (p.tail v) (bytV l) (by rw [bytV_len, bytV_len, hl, p.hdst])
  rw [e2] at h
  rw [e p, e, h]
  rfl
theorem vputs_all (q : Pk6) (u : Value) : puts (p.vals v).toArray 0 (q.vals u) = (q.vals u).toArray := puts_whole _ _ (by rw [vals_len]; have := vals_len p v; simp; omega)
end
end Go.Proofs.Ytkihhmnlefekoaa
