/-
  Proved here: what a block is behind stores of many cells; how a result that lies in memory is read; what ip4.address answers.
  Conditions: the reader's block is whole.
  Proved here: what ip4.measure answers.
  Conditions: a text of at most 70000 bytes.
  Proved here: what ip4.read answers.
  Conditions: a text of at most 70000 bytes, that has a head.
  Proved here: what ip4.Parse answers.
  Conditions: a text of at most 70000 bytes.
-/
import Derived.Test.YtkihhmnlefekoaaFNumber
import Derived.Lib.LazyBuf
import Derived.Great.Walk
import Derived.Deep.Cut
namespace Go.Proofs.Ytkihhmnlefekoaa.P4
open Go.RowKit

/-- Values put into an array, one behind the other. -/
def puts (A : Array Value) (o : Nat) : List Value → Array Value
  | [] => A
  | v :: r => puts (A.setIfInBounds o v) (o + 1) r
section
variable {w w' : World} {b : Nat} {T : TypeId} {A : Array Value}
theorem Bk.set (h : Bk w b T A) (i : Nat) (v : Value) : Bk (w.setCell ⟨b, i, none⟩ v) b T (A.setIfInBounds i v) := by
  have hlt := h.lt
  unfold Bk at h
  have h' : w.heap[b] = .cells A T (0, 0) := by simpa [Array.getElem?_eq_getElem hlt] using h
  show (w.heap.modify b _)[b]? = _
  rw [Array.getElem?_eq_getElem (by simpa using hlt), Array.getElem_modify_self, h']
  rfl
theorem Bk.sets (vs : List Value) : ∀ (o : Nat) (w : World) (A : Array Value), Bk w b T A → Bk (w.setCells b o vs) b T (puts A o vs) := by
  induction vs with
  | nil => intro o w A h; exact h
  | cons v r ih => intro o w A h; exact ih (o + 1) _ _ (h.set o v)
theorem heap_sets (vs : List Value) {k : Nat} (hk : k ≠ b) : ∀ (o : Nat) (w : World), (w.setCells b o vs).heap[k]? = w.heap[k]? := by
  induction vs with
  | nil => intro o w; rfl
  | cons v r ih => intro o w; exact (ih (o + 1) _).trans (Below.heap_setCell _ _ _ _ hk)
theorem Bk.sets_other {c : Nat} (h : Bk w c T A) (hc : c ≠ b) (o : Nat) (vs : List Value) : Bk (w.setCells b o vs) c T A := (heap_sets vs hc o w).trans h
theorem Bk.set_other {c : Nat} (h : Bk w c T A) (hc : c ≠ b) (o : Nat) (v : Value) : Bk (w.setCell ⟨b, o, none⟩ v) c T A := (Below.heap_setCell _ _ _ _ hc).trans h
theorem Rd.sets_other {c : Nat} {s : ByteArray} {p : Nat} {k : Int} (h : Rd w c s p k) (hc : c ≠ b) (o : Nat) (vs : List Value) : Rd (w.setCells b o vs) c s p k := (heap_sets vs hc o w).trans h
theorem Rd.set_other {c : Nat} {s : ByteArray} {p : Nat} {k : Int} (h : Rd w c s p k) (hc : c ≠ b) (o : Nat) (v : Value) : Rd (w.setCell ⟨b, o, none⟩ v) c s p k := (Below.heap_setCell _ _ _ _ hc).trans h
theorem Bk.there (h : Bk w b T A) (n : Nat) (hn : n ≤ A.size) : w.there b 0 n := by
  intro j hj
  rw [Nat.zero_add]
  refine ⟨?_, h.z j⟩
  rw [h.c j A[j] (by simp)]
  rfl
theorem up_sets {row : Option Nat} (vs : List Value) (hb : w.heap.size ≤ b) : ∀ (o : Nat) (w' : World), w.grownBy w' row → w.grownBy (w'.setCells b o vs) row := by
  induction vs with
  | nil => intro o w' h; exact h
  | cons v r ih =>
    intro o w' h
    refine ih (o + 1) _ ⟨h.os, h.tape, h.output, by simpa [World.setCell] using h.size, fun k hk hn => ?_⟩
    exact (Below.heap_setCell _ _ _ _ (by simp; omega)).trans (h.block k hk hn)
theorem below_sets {B : Nat} (vs : List Value) (hb : B ≤ b) : ∀ (o : Nat) (w' : World), Below B w w' → Below B w (w'.setCells b o vs) := by
  induction vs with
  | nil => intro o w' h; exact h
  | cons v r ih => intro o w' h; exact ih (o + 1) _ (h.setCell (by exact hb) v)
theorem size_sets (vs : List Value) : ∀ (o : Nat) (w : World), (w.setCells b o vs).heap.size = w.heap.size := by
  induction vs with
  | nil => intro o w; rfl
  | cons v r ih => intro o w; exact (ih (o + 1) _).trans (by simp [World.setCell])
end
theorem results_cell {P : Program} {fn : Func} {t : Tmp} {T : TypeId} {tmps : Array Value} {w : World} {b o : Nat} {v : Value} (h : fn.results = #[.cell t T]) (hv : tmps.getD t undef = .pointer (some ⟨b, o, none⟩)) (hl : (loadVar T ⟨b, o, none⟩).run P w = .ok v w) :
    (results fn tmps).run P w = .ok v w := by
  have hv' : tmps[t]?.getD undef = .pointer (some ⟨b, o, none⟩) := by simpa using hv
  simp [results, h, hv', asAddr, hl]
theorem results_cell2 {P : Program} {fn : Func} {t u : Tmp} {T : TypeId} {tmps : Array Value} {w : World} {b o : Nat} {v x : Value} (h : fn.results = #[.cell t T, .tmp u]) (hv : tmps.getD t undef = .pointer (some ⟨b, o, none⟩)) (hx : tmps.getD u undef = x) (hl : (loadVar T ⟨b, o, none⟩).run P w = .ok v w) :
    (results fn tmps).run P w = .ok (.tuple #[v, x]) w := by
  have hv' : tmps[t]?.getD undef = .pointer (some ⟨b, o, none⟩) := by simpa using hv
  have hx' : tmps[u]?.getD undef = x := by simpa using hx
  simp [results, h, hv', hx', asAddr, hl]

/-- Four bytes of a text, as an array's cells. -/
def quadV (s : ByteArray) (p : Nat) : List Value := (s.extract p (p + 4)).data.toList.map fun x => Value.int .u8 (x.toNat : Int)
theorem quadV_one (s : ByteArray) (p : Nat) : ∀ v ∈ quadV s p, v.oneCell' = true := by
  intro v hv
  obtain ⟨x, _, rfl⟩ := List.mem_map.1 hv
  rfl
theorem quadV_len (s : ByteArray) (p : Nat) (h : p + 4 ≤ s.size) : (quadV s p).length = 4 := by
  unfold quadV
  rw [List.length_map]
  simp
  omega
theorem four_of' {V : List Value} (h : V.length = 4) : ∃ y0 y1 y2 y3 : Value, V = [y0, y1, y2, y3] := by
  match V, h with
  | [y0, y1, y2, y3], _ => exact ⟨y0, y1, y2, y3, rfl⟩
theorem puts4 (x0 x1 x2 x3 : Value) (V : List Value) (h : V.length = 4) : puts #[x0, x1, x2, x3] 0 V = V.toArray := by
  match V, h with
  | [y0, y1, y2, y3], _ => rfl
theorem Try.sizeByte (w : World) : (Go.sizeOf 5).run Try.prog w = .ok 1 w := by kernel_rfl

/-- Byte i of a text. -/
def byN (s : ByteArray) (i : Nat) : Nat := (s.data.toList.getD i 0).toNat
/-- Two bytes of a text, as a number. -/
def num2 (s : ByteArray) (i : Nat) : Nat := byN s i * 256 + byN s (i + 1)
theorem byN_lt (s : ByteArray) (i : Nat) : byN s i < 256 := UInt8.toNat_lt _
theorem num2_lt (s : ByteArray) (i : Nat) : num2 s i < 65536 := by
  have h1 := byN_lt s i
  have h2 := byN_lt s (i + 1)
  unfold num2
  omega
theorem ext_list (s : ByteArray) (a b : Nat) : (s.extract a b).data.toList = (s.data.toList.take b).drop a := by
  rw [ByteArray.data_extract, Array.toList_extract, List.extract_eq_take_drop, List.drop_take]
theorem byN_at (s : ByteArray) (i : Nat) (h : i < s.size) : byN s i = s[i].toNat := by
  unfold byN
  rw [List.getD_eq_getElem?_getD, List.getElem?_eq_getElem (by simpa using h)]
  rfl
theorem ext_one (s : ByteArray) (i : Nat) (h : i < s.size) : (s.extract i (i + 1)).data.toList = [s.data.toList.getD i 0] := by
  have hl : i < s.data.toList.length := by simpa using h
  rw [ext_list, List.drop_take, show i + 1 - i = 1 by omega, List.drop_eq_getElem_cons hl, List.take_succ_cons, List.take_zero, List.getD_eq_getElem?_getD, List.getElem?_eq_getElem hl]
  rfl
theorem ext_two (s : ByteArray) (i : Nat) (h : i + 1 < s.size) : (s.extract i (i + 2)).data.toList = [s.data.toList.getD i 0, s.data.toList.getD (i + 1) 0] := by
  have hl : i + 1 < s.data.toList.length := by simpa using h
  rw [ext_list, List.drop_take, show i + 2 - i = 2 by omega, List.drop_eq_getElem_cons (by omega), List.take_succ_cons, List.drop_eq_getElem_cons hl, List.take_succ_cons, List.take_zero, List.getD_eq_getElem?_getD, List.getElem?_eq_getElem (by omega), List.getD_eq_getElem?_getD, List.getElem?_eq_getElem hl]
  rfl
theorem numOf_one (s : ByteArray) (i : Nat) (h : i < s.size) : numOf (s.extract i (i + 1)).data.toList = byN s i := by
  rw [ext_one s i h]
  simp [numOf, byN]
theorem numOf_two (s : ByteArray) (i : Nat) (h : i + 1 < s.size) : numOf (s.extract i (i + 2)).data.toList = num2 s i := by
  rw [ext_two s i h]
  simp [numOf, byN, num2]

/-- How many bytes the head has, by the first byte. -/
def hdN (s : ByteArray) : Nat := byN s 0 % 16 * 4
/-- By which code a text has no measure; 0: it has. -/
def mcode (s : ByteArray) : Int :=
  if s.size < 20 then 7
  else if byN s 0 / 16 ≠ 4 ∨ hdN s < 20 then 8
  else if s.size < hdN s then 7
  else if rightB (s.extract 0 (hdN s)).data.toList = false then 9
  else if num2 s 2 < hdN s then 8
  else if s.size < num2 s 2 then 7
  else 0
def mhead (s : ByteArray) : Nat := if mcode s = 0 then hdN s else 0
def mall (s : ByteArray) : Nat := if mcode s = 0 then num2 s 2 else 0
theorem hdN_le (s : ByteArray) : hdN s ≤ 60 := by unfold hdN; omega
theorem mcode_ok {s : ByteArray} (h : mcode s = 0) : 20 ≤ s.size ∧ byN s 0 / 16 = 4 ∧ 20 ≤ hdN s ∧ hdN s ≤ s.size ∧ rightB (s.extract 0 (hdN s)).data.toList = true ∧ hdN s ≤ num2 s 2 ∧ num2 s 2 ≤ s.size := by
  unfold mcode at h
  by_cases h1 : s.size < 20
  · rw [if_pos h1] at h; cases h
  rw [if_neg h1] at h
  by_cases h2 : byN s 0 / 16 ≠ 4 ∨ hdN s < 20
  · rw [if_pos h2] at h; cases h
  rw [if_neg h2] at h
  by_cases h3 : s.size < hdN s
  · rw [if_pos h3] at h; cases h
  rw [if_neg h3] at h
  cases h4 : rightB (s.extract 0 (hdN s)).data.toList
  · rw [if_pos h4] at h; cases h
  rw [if_neg (by rw [h4]; decide)] at h
  by_cases h5 : num2 s 2 < hdN s
  · rw [if_pos h5] at h; cases h
  rw [if_neg h5] at h
  by_cases h6 : s.size < num2 s 2
  · rw [if_pos h6] at h; cases h
  exact ⟨by omega, by omega, by omega, by omega, rfl, by omega, by omega⟩

theorem and_two (x k : Nat) : x &&& 2 ^ k = x / 2 ^ k % 2 * 2 ^ k := by
  apply Nat.eq_of_testBit_eq
  intro i
  rw [Nat.testBit_and, Nat.testBit_two_pow]
  by_cases h : k = i
  · subst h
    rw [Nat.testBit_eq_decide_div_mod_eq, Nat.testBit_eq_decide_div_mod_eq, Nat.mul_div_cancel _ (Nat.two_pow_pos k)]
    simp
  · rcases Nat.mod_two_eq_zero_or_one (x / 2 ^ k) with e | e
    · rw [e]; simp [h]
    · rw [e, Nat.one_mul, Nat.testBit_two_pow]; simp [h]
theorem and_bit (x k : Nat) (hk : k ≤ 20) (hx : x < 1048576) (m : Int) (hm : m = ((2 ^ k : Nat) : Int)) : bits .and .i64 ((x : Nat) : Int) m = ((x / 2 ^ k % 2 * 2 ^ k : Nat) : Int) := by
  subst hm
  have hp : 2 ^ k ≤ 2 ^ 20 := Nat.pow_le_pow_right (by omega) hk
  have h1 : (BitVec.ofInt 64 ((x : Nat) : Int)).toNat = x := by
    rw [BitVec.ofInt_natCast, BitVec.toNat_ofNat]; exact Nat.mod_eq_of_lt (by omega)
  have h2 : (BitVec.ofInt 64 ((2 ^ k : Nat) : Int)).toNat = 2 ^ k := by
    rw [BitVec.ofInt_natCast, BitVec.toNat_ofNat]; exact Nat.mod_eq_of_lt (by omega)
  show IntKind.i64.wrap ((BitVec.ofInt 64 ((x : Nat) : Int) &&& BitVec.ofInt 64 ((2 ^ k : Nat) : Int)).toNat : Int) = _
  rw [BitVec.toNat_and, h1, h2, and_two, IntKind.wrap_i64]
  have h3 : x / 2 ^ k % 2 * 2 ^ k ≤ 1 * 2 ^ k := Nat.mul_le_mul_right _ (by omega)
  omega
/-- The packet of no numbers. -/
def pkt0 : Pkt := ⟨0, 0, 0, 0, 0, false, false, 0, 0, 0, 0, 0, 0, 0, 0, ⟨#[]⟩, ⟨#[]⟩⟩
/-- What lies in memory while a packet is read. -/
def RS (w0 : World) (B b r : Nat) (p : Pkt) (s : ByteArray) (k : Nat) (w : World) : Prop := Bk w b 25 p.vals.toArray ∧ Rd w r s k 0 ∧ Below B w0 w ∧ B ≤ b ∧ B ≤ r ∧ b ≠ r ∧ B ≤ w.heap.size
section
variable {w0 w w' : World} {B b r : Nat} {p : Pkt} {s : ByteArray} {k : Nat}
theorem RS.next (h : RS w0 B b r p s k w) {k' : Nat} (hR : Rd w' r s k' 0) (hG : w.grownBy w' (some r)) : RS w0 B b r p s k' w' := by
  obtain ⟨h1, h2, h3, h4, h5, h6, h7⟩ := h
  refine ⟨h1.grown hG (by simp; omega), hR, h3.grown hG h7 (fun j hj => ?_), h4, h5, h6, Nat.le_trans h7 hG.size⟩
  cases hj
  exact h5
theorem RS.set (h : RS w0 B b r p s k w) (i : Nat) (v : Value) (q : Pkt) (hq : p.vals.toArray.setIfInBounds i v = q.vals.toArray) : RS w0 B b r q s k (w.setCell ⟨b, i, none⟩ v) := by
  obtain ⟨h1, h2, h3, h4, h5, h6, h7⟩ := h
  refine ⟨hq ▸ h1.set i v, h2.set_other (Ne.symm h6) i v, h3.setCell (by exact h4) v, h4, h5, h6, by simpa [World.setCell] using h7⟩
theorem RS.sets (h : RS w0 B b r p s k w) (i : Nat) (vs : List Value) (q : Pkt) (hq : puts p.vals.toArray i vs = q.vals.toArray) : RS w0 B b r q s k (w.setCells b i vs) := by
  obtain ⟨h1, h2, h3, h4, h5, h6, h7⟩ := h
  refine ⟨hq ▸ Bk.sets vs i _ _ h1, h2.sets_other (Ne.symm h6) i vs, below_sets vs h4 i _ h3, h4, h5, h6, by rw [size_sets]; exact h7⟩
end
theorem Bk.there' {w : World} {b : Nat} {T : TypeId} {A : Array Value} (h : Bk w b T A) (o n : Nat) (hn : o + n ≤ A.size) : w.there b o n := by
  intro j hj
  refine ⟨?_, h.z _⟩
  rw [h.c (o + j) (A[o + j]'(by omega)) (by simp)]
  rfl
theorem quadV_eq (s : ByteArray) (i : Nat) (h : i + 4 ≤ s.size) : quadV s i = [.int .u8 (byN s i : Nat), .int .u8 (byN s (i + 1) : Nat), .int .u8 (byN s (i + 2) : Nat), .int .u8 (byN s (i + 3) : Nat)] := by
  have hl : s.data.toList.length = s.size := by simp
  unfold quadV
  rw [ext_list, List.drop_take, show i + 4 - i = 4 by omega, List.drop_eq_getElem_cons (by omega), List.take_succ_cons, List.drop_eq_getElem_cons (by omega), List.take_succ_cons, List.drop_eq_getElem_cons (by omega), List.take_succ_cons, List.drop_eq_getElem_cons (by omega), List.take_succ_cons, List.take_zero]
  unfold byN
  simp only [List.map_cons, List.map_nil, List.getD_eq_getElem?_getD]
  rw [List.getElem?_eq_getElem (by omega), List.getElem?_eq_getElem (by omega), List.getElem?_eq_getElem (by omega), List.getElem?_eq_getElem (by omega)]
  rfl
theorem puts_list (vs : List Value) : ∀ (o : Nat) (A : Array Value), o + vs.length ≤ A.size → (puts A o vs).toList = A.toList.take o ++ vs ++ A.toList.drop (o + vs.length) := by
  induction vs with
  | nil => intro o A _; simp [puts]
  | cons v r ih =>
    intro o A h
    simp only [List.length_cons] at h
    show (puts (A.setIfInBounds o v) (o + 1) r).toList = _
    rw [ih (o + 1) _ (by simp; omega), Array.toList_setIfInBounds, List.take_set, List.drop_set_of_lt (by omega), List.take_succ_eq_append_getElem (by simp; omega), List.set_append_right _ _ (by simp; omega)]
    have e : (A.toList.take o).length = o := by simp; omega
    rw [e, Nat.sub_self, List.set_cons_zero, List.length_cons, show o + 1 + r.length = o + (r.length + 1) by omega]
    simp
theorem puts_all (p q : Pkt) : puts p.vals.toArray 0 q.vals = q.vals.toArray := by
  apply Array.toList_inj.1
  rw [puts_list _ _ _ (show 0 + 17 ≤ 17 by decide)]
  rw [show List.drop (0 + q.vals.length) p.vals.toArray.toList = [] from rfl]
  simp
theorem vals_one (p : Pkt) : p.vals.toArray.all (·.oneCell') = true := by
  simp [Pkt.vals, Value.oneCell']
theorem text_at {w : World} {b : Nat} {s : ByteArray} {p : Nat} (h : Rd w b s p 0) (hs : s.size ≤ maxLen) (x : Int) (n : Nat) (hx : x = n) (hl : p + n ≤ s.size) :
    Calls Try.prog 69 #[.pointer (some ⟨b, 0, none⟩), .int .i64 x] w (Read b s p n (.string (s.extract p (p + n))) w) := by
  subst hx
  exact text_ok h hs n hl
/-- The packet that a text says, whose head has n bytes. -/
def rdP (t : ByteArray) (n : Nat) : Pkt where
  tos := (byN t 1 : Nat)
  id := (num2 t 4 : Nat)
  ttl := (byN t 8 : Nat)
  proto := (byN t 9 : Nat)
  pl := (num2 t 6 : Nat) % 8192 * 8
  df := (((num2 t 6 : Nat) : Int) / 16384 % 2 * 16384 != 0)
  more := (((num2 t 6 : Nat) : Int) / 8192 % 2 * 8192 != 0)
  a0 := (byN t 12 : Nat)
  a1 := (byN t 13 : Nat)
  a2 := (byN t 14 : Nat)
  a3 := (byN t 15 : Nat)
  b0 := (byN t 16 : Nat)
  b1 := (byN t 17 : Nat)
  b2 := (byN t 18 : Nat)
  b3 := (byN t 19 : Nat)
  opts := t.extract 20 n
  data := t.extract n t.size
/-- Is the bit that is nobody's not set? -/
def freeB (t : ByteArray) : Bool := (((num2 t 6 : Nat) : Int) / 32768 % 2 * 32768 == 0)


theorem wpList_load_if {P : Program} {ops : Array Oper} {rest : List Oper} {op : Oper} {a : Act} {w : World} {Q : Exit → Act → World → Prop} (hw : Region.wanted op (yielded ops a.tmps) = true) (ty : TypeId) (x : Operand) (ho : op.op = .load ty x)
    (b o : Nat) (hx : a.eval x = .pointer (some ⟨b, o, none⟩)) (cs : List Value) (d : TypeDesc) (hc : w.rangeAt b o cs)
    (hu : P.underlying ty = some d) (hd : d.isRow = true) (hi : (P.info? ty).map (·.size) = some cs.length)
    (h : wpList P ops Q rest (a.put op.dst (.agg cs.toArray)) w) : wpList P ops Q (op :: rest) a w :=
  wpList_step fun K hK => by
    rw [if_pos hw]
    exact wp_load_mid ty x ho b o hx cs d hc hu hd hi (hK _ _ h)
theorem Try.execZ (ρ : Operand → Value) (d : Option Tmp) (ty : TypeId) (ps : String) (af : Array Edge) (w : World) : (execOp ρ { dst := d, op := .build 25 #[], type := ty, pos := ps, after := af, guard := none }).run Try.prog w = .ok (.value (.agg pkt0.vals.toArray)) w := by kernel_rfl
/-- The packet that a text begins with, if it does. -/
def ppkt (s : ByteArray) : Pkt := rdP (s.extract 0 (num2 s 2)) (hdN s)
/-- By which code a text begins with no packet; 0: it does. -/
def pcode (s : ByteArray) : Int :=
  if mcode s = 0 then (if freeB (s.extract 0 (num2 s 2)) = true ∧ (ppkt s).why = 0 then 0 else 8) else mcode s
end Go.Proofs.Ytkihhmnlefekoaa.P4
