/-
  Proved here: what the small helpers of ip4 answer: within, bounded, headLength, placeWord, refusal; and the document's within and Why.
  Conditions: texts of at most 70000 bytes.
  Proved here: how a block of bytes is read as a text.
  Conditions: none.
  Proved here: what ip4.refusal answers; how a packet's block is kept.
  Conditions: texts of at most 70000 bytes.
  Proved here: what ip4.placeWord, ip4.big and ip4.head answer.
  Conditions: a packet that may be.
-/
import Derived.Test.YtkihhmnlefekoaaFLow
import Derived.Deep.MidRow
namespace Go.Proofs.Ytkihhmnlefekoaa.P4
open Go.RowKit

/-- A packet. -/
structure Pkt where
  tos : Int
  id : Int
  ttl : Int
  proto : Int
  pl : Int
  df : Bool
  more : Bool
  a0 : Int
  a1 : Int
  a2 : Int
  a3 : Int
  b0 : Int
  b1 : Int
  b2 : Int
  b3 : Int
  opts : ByteArray
  data : ByteArray
/-- A packet's cells. -/
def Pkt.vals (p : Pkt) : List Value := (#[.int .i64 p.tos, .int .i64 p.id, .int .i64 p.ttl, .int .i64 p.proto, .int .i64 p.pl, .bool p.df, .bool p.more, .int .u8 p.a0, .int .u8 p.a1, .int .u8 p.a2, .int .u8 p.a3, .int .u8 p.b0, .int .u8 p.b1, .int .u8 p.b2, .int .u8 p.b3, .string p.opts, .string p.data]).toList
/-- Is a number from 0 to another one? -/
def inB (x m : Int) : Bool := decide (0 ≤ x) && decide (x ≤ m)
theorem inB_iff (x m : Int) : inB x m = true ↔ 0 ≤ x ∧ x ≤ m := by unfold inB; simp
theorem within_any (x m : Int) (w : World) :
    Calls Try.prog 71 #[.int .i64 x, .int .i64 m] w fun e w' => e = .returned (.bool (inB x m)) ∧ w = w' := by
  unfold inB
  by_cases h : 0 ≤ x
  · have h1 : decide (0 ≤ x) = true := by simpa using h
    rw [h1, Bool.true_and]
    clear h
    go_enter Try.func71, Try.ntmps71
    go_wp2_with fail
    go_ret
    exact ⟨rfl, rfl⟩
  · have h1 : decide (0 ≤ x) = false := by simpa using h
    rw [h1, Bool.false_and]
    clear h
    go_enter Try.func71, Try.ntmps71
    go_wp2_with fail
    go_ret
    exact ⟨rfl, rfl⟩
set_option maxRecDepth 100000 in
theorem headLength_any (p : Pkt) (w : World) (hz : p.opts.size ≤ 70000) :
    Calls Try.prog 59 #[.agg p.vals.toArray] w fun e w' => e = .returned (.int .i64 (20 + p.opts.size)) ∧ Below w.heap.size w w' := by
  show Calls _ _ #[.agg #[.int .i64 p.tos, .int .i64 p.id, .int .i64 p.ttl, .int .i64 p.proto, .int .i64 p.pl, .bool p.df, .bool p.more, .int .u8 p.a0, .int .u8 p.a1, .int .u8 p.a2, .int .u8 p.a3, .int .u8 p.b0, .int .u8 p.b1, .int .u8 p.b2, .int .u8 p.b3, .string p.opts, .string p.data]] _ _
  go_enter Try.func59, Try.ntmps59
  go_wp2_with fail
  go_ret
  exact ⟨rfl, (Below.refl _ _).alloc (Nat.le_refl _) _⟩

theorem within_at (x m : Int) (b : Bool) (h : inB x m = b) (w : World) :
    Calls Try.prog 71 #[.int .i64 x, .int .i64 m] w fun e w' => e = .returned (.bool b) ∧ w = w' := h ▸ within_any x m w
/-- Are a packet's numbers in their bounds? -/
def Pkt.bnd (p : Pkt) : Bool := inB p.tos 255 && (inB p.ttl 255 && (inB p.proto 255 && (inB p.id 65535 && (inB p.pl 65528 && (p.pl % 8 == 0)))))

set_option maxRecDepth 100000 in
set_option maxHeartbeats 1000000 in
theorem bounded_any (p : Pkt) (w : World) :
    Calls Try.prog 58 #[.agg p.vals.toArray] w fun e w' => e = .returned (.bool p.bnd) ∧ Below w.heap.size w w' := by
  unfold Pkt.bnd
  show Calls _ _ #[.agg #[.int .i64 p.tos, .int .i64 p.id, .int .i64 p.ttl, .int .i64 p.proto, .int .i64 p.pl, .bool p.df, .bool p.more, .int .u8 p.a0, .int .u8 p.a1, .int .u8 p.a2, .int .u8 p.a3, .int .u8 p.b0, .int .u8 p.b1, .int .u8 p.b2, .int .u8 p.b3, .string p.opts, .string p.data]] _ _
  cases h0 : inB p.tos 255
  · have H0 := Lib.hid h0
    clear h0
    rw [Bool.false_and]
    go_enter Try.func58, Try.ntmps58
    go_wp2_with fail
    refine (within_at _ _ _ H0.out _).mono ?_
    rintro e w0 ⟨rfl, rfl⟩
    go_wp2_with fail
    go_ret
    exact ⟨rfl, (Below.refl _ _).alloc (Nat.le_refl _) _⟩
  · have H0 := Lib.hid h0
    clear h0
    cases h1 : inB p.ttl 255
    · have H1 := Lib.hid h1
      clear h1
      simp only [Bool.false_and, Bool.true_and]
      go_enter Try.func58, Try.ntmps58
      go_wp2_with fail
      refine (within_at _ _ _ H0.out _).mono ?_
      rintro e w0 ⟨rfl, rfl⟩
      go_wp2_with fail
      refine (within_at _ _ _ H1.out _).mono ?_
      rintro e w1 ⟨rfl, rfl⟩
      go_wp2_with fail
      go_ret
      exact ⟨rfl, (Below.refl _ _).alloc (Nat.le_refl _) _⟩
    · have H1 := Lib.hid h1
      clear h1
      cases h2 : inB p.proto 255
      · have H2 := Lib.hid h2
        clear h2
        simp only [Bool.false_and, Bool.true_and]
        go_enter Try.func58, Try.ntmps58
        go_wp2_with fail
        refine (within_at _ _ _ H0.out _).mono ?_
        rintro e w0 ⟨rfl, rfl⟩
        go_wp2_with fail
        refine (within_at _ _ _ H1.out _).mono ?_
        rintro e w1 ⟨rfl, rfl⟩
        go_wp2_with fail
        refine (within_at _ _ _ H2.out _).mono ?_
        rintro e w2 ⟨rfl, rfl⟩
        go_wp2_with fail
        go_ret
        exact ⟨rfl, (Below.refl _ _).alloc (Nat.le_refl _) _⟩
      · have H2 := Lib.hid h2
        clear h2
        cases h3 : inB p.id 65535
        · have H3 := Lib.hid h3
          clear h3
          simp only [Bool.false_and, Bool.true_and]
          go_enter Try.func58, Try.ntmps58
          go_wp2_with fail
          refine (within_at _ _ _ H0.out _).mono ?_
          rintro e w0 ⟨rfl, rfl⟩
          go_wp2_with fail
          refine (within_at _ _ _ H1.out _).mono ?_
          rintro e w1 ⟨rfl, rfl⟩
          go_wp2_with fail
          refine (within_at _ _ _ H2.out _).mono ?_
          rintro e w2 ⟨rfl, rfl⟩
          go_wp2_with fail
          refine (within_at _ _ _ H3.out _).mono ?_
          rintro e w3 ⟨rfl, rfl⟩
          go_wp2_with fail
          go_ret
          exact ⟨rfl, (Below.refl _ _).alloc (Nat.le_refl _) _⟩
        · have H3 := Lib.hid h3
          clear h3
          cases h4 : inB p.pl 65528
          · have H4 := Lib.hid h4
            clear h4
            simp only [Bool.false_and, Bool.true_and]
            go_enter Try.func58, Try.ntmps58
            go_wp2_with fail
            refine (within_at _ _ _ H0.out _).mono ?_
            rintro e w0 ⟨rfl, rfl⟩
            go_wp2_with fail
            refine (within_at _ _ _ H1.out _).mono ?_
            rintro e w1 ⟨rfl, rfl⟩
            go_wp2_with fail
            refine (within_at _ _ _ H2.out _).mono ?_
            rintro e w2 ⟨rfl, rfl⟩
            go_wp2_with fail
            refine (within_at _ _ _ H3.out _).mono ?_
            rintro e w3 ⟨rfl, rfl⟩
            go_wp2_with fail
            refine (within_at _ _ _ H4.out _).mono ?_
            rintro e w4 ⟨rfl, rfl⟩
            go_wp2_with fail
            go_ret
            exact ⟨rfl, (Below.refl _ _).alloc (Nat.le_refl _) _⟩
          · have H4 := Lib.hid h4
            have hp := (inB_iff _ _).1 h4
            clear h4
            simp only [Bool.true_and]
            have hp0 := hp.1
            have hp1 := hp.2
            clear hp
            go_enter Try.func58, Try.ntmps58
            go_wp2_with fail
            refine (within_at _ _ _ H0.out _).mono ?_
            rintro e w0 ⟨rfl, rfl⟩
            go_wp2_with fail
            refine (within_at _ _ _ H1.out _).mono ?_
            rintro e w1 ⟨rfl, rfl⟩
            go_wp2_with fail
            refine (within_at _ _ _ H2.out _).mono ?_
            rintro e w2 ⟨rfl, rfl⟩
            go_wp2_with fail
            refine (within_at _ _ _ H3.out _).mono ?_
            rintro e w3 ⟨rfl, rfl⟩
            go_wp2_with fail
            refine (within_at _ _ _ H4.out _).mono ?_
            rintro e w4 ⟨rfl, rfl⟩
            go_wp2_with fail
            go_ret
            exact ⟨rfl, (Below.refl _ _).alloc (Nat.le_refl _) _⟩

/-- A block that is just these bytes. -/
def Arr (w : World) (b : Nat) (T : TypeId) (L : List Int) : Prop := w.heap[b]? = some (.cells (L.map (Value.int .u8)).toArray T (0, 0))
section
variable {w w' : World} {b : Nat} {T : TypeId} {L : List Int}
theorem Arr.lt (h : Arr w b T L) : b < w.heap.size := by
  rcases Nat.lt_or_ge b w.heap.size with hl | hg
  · exact hl
  · unfold Arr at h; rw [Array.getElem?_eq_none hg] at h; cases h
theorem Arr.cell (h : Arr w b T L) (i : Nat) (hi : i < L.length) : w.cell? ⟨b, i, none⟩ = some (.int .u8 L[i]) := by
  unfold Arr at h
  simp [World.cell?, h, hi]
theorem Arr.below {B : Nat} (h : Arr w b T L) (hb : Below B w w') (hB : b < B) : Arr w' b T L := (hb.block b hB).trans h
theorem Arr.alloc (h : Arr w b T L) (o : Obj) : Arr (w.alloc o) b T L := (Below.heap_alloc w o b h.lt).trans h
theorem Arr.drew (h : Arr w b T L) : Arr w.drew b T L := h
/-- The bytes as a text. -/
theorem Arr.conv (h : Arr w b T L) (n : Nat) (hn : L.length = n) : (convert 67 9 (.slice (some ⟨b, 0, none⟩) n n)).run Try.prog w = .ok (.string (strOfNums L)) w := by
  refine run_convert_bytes_arg _ 67 5 Try.underlying67 Try.underlying5 b 0 n n L hn (fun i hi => ?_) 9 Try.underlying9
  rw [Nat.zero_add, h.cell i (by omega), List.getD_eq_getElem?_getD, List.getElem?_eq_getElem (by omega)]
  rfl
end

theorem keep_both {w w1 w2 : World} {B p1 p2 n C : Nat} {T : TypeId} {LA LB : List Int} (hb : Below C w1 w2) (hC : w1.heap.size ≤ C) (h1 : Arr w1 p1 T LA) (h2 : Arr w1 p2 T LB) (h3 : Below B w w1) (hB : B ≤ w1.heap.size) (hn : LA.length = n) (hm : LB.length = n) :
    Arr w2 p1 T LA ∧ Arr w2 p2 T LB ∧ Below B w w2 ∧ B ≤ w2.heap.size ∧ (convert 67 9 (.slice (some ⟨p1, 0, none⟩) n n)).run Try.prog w2 = .ok (.string (strOfNums LA)) w2 ∧ (convert 67 9 (.slice (some ⟨p2, 0, none⟩) n n)).run Try.prog w2 = .ok (.string (strOfNums LB)) w2 :=
  have g1 := h1.below hb (Nat.lt_of_lt_of_le h1.lt hC)
  have g2 := h2.below hb (Nat.lt_of_lt_of_le h2.lt hC)
  ⟨g1, g2, h3.trans (hb.mono (Nat.le_trans hB hC)), Nat.le_trans hB hb.size, g1.conv n hn, g2.conv n hm⟩
theorem cat_len (a b : ByteArray) : (a ++ b).size = a.size + b.size := ByteArray.size_append
theorem two_new (w : World) (T : TypeId) (LA LB : List Int) (CA CB : Array Value) (hA : CA = (LA.map (Value.int .u8)).toArray) (hB : CB = (LB.map (Value.int .u8)).toArray) :
    Arr ((w.alloc (.cells CA T)).alloc (.cells CB T)) w.heap.size T LA ∧ Arr ((w.alloc (.cells CA T)).alloc (.cells CB T)) (w.heap.size + 1) T LB ∧ Below w.heap.size w ((w.alloc (.cells CA T)).alloc (.cells CB T)) := by
  subst hA hB
  refine ⟨Arr.alloc (heap_alloc_new w _) _, ?_, ((Below.refl _ _).alloc (Nat.le_refl _) _).alloc (by simp) _⟩
  have := heap_alloc_new (w.alloc (.cells (LA.map (Value.int .u8)).toArray T)) (.cells (LB.map (Value.int .u8)).toArray T)
  simpa [Arr] using this


/-- A block that is known whole. -/
def Bk (w : World) (b : Nat) (T : TypeId) (A : Array Value) : Prop := w.heap[b]? = some (.cells A T (0, 0))
section
variable {w w' : World} {b : Nat} {T : TypeId} {A : Array Value}
theorem Bk.lt (h : Bk w b T A) : b < w.heap.size := by
  rcases Nat.lt_or_ge b w.heap.size with hl | hg
  · exact hl
  · unfold Bk at h; rw [Array.getElem?_eq_none hg] at h; cases h
theorem Bk.below {B : Nat} (h : Bk w b T A) (hb : Below B w w') (hB : b < B) : Bk w' b T A := (hb.block b hB).trans h
theorem Bk.grown {row : Option Nat} (h : Bk w b T A) (g : w.grownBy w' row) (hne : some b ≠ row) : Bk w' b T A := (g.block b h.lt hne).trans h
theorem Bk.alloc (h : Bk w b T A) (o : Obj) : Bk (w.alloc o) b T A := (Below.heap_alloc w o b h.lt).trans h
theorem Bk.range (h : Bk w b T A) : w.rangeAt b 0 A.toList := by
  intro j v hv
  unfold Bk at h
  simp only [World.cell?, h, Nat.zero_add]
  simpa using hv
theorem Bk.c (h : Bk w b T A) (i : Nat) (v : Value) (hv : A[i]? = some v) : w.cell? ⟨b, i, none⟩ = some v := by
  have := h.range i v (by simpa using hv)
  simpa using this
theorem Bk.z (h : Bk w b T A) (o : Nat) : w.frozen? ⟨b, o, none⟩ = false := by unfold Bk at h; simp [World.frozen?, h]
theorem bk_new (w : World) (T : TypeId) (A : Array Value) : Bk (w.alloc (.cells A T)) w.heap.size T A := heap_alloc_new w _
end
theorem Try.infoIp (p : Pkt) : (Try.prog.info? 25).map (·.size) = some p.vals.length := by
  show _ = some 17
  kernel_rfl
/-- What is kept: the packet's block, and all that was. -/
def PB (w0 : World) (B b : Nat) (p : Pkt) (w : World) : Prop := Bk w b 25 p.vals.toArray ∧ Below B w0 w ∧ B ≤ w.heap.size
theorem PB.below {w0 w w' : World} {B C b : Nat} {p : Pkt} (h : PB w0 B b p w) (hb : Below C w w') (hC : w.heap.size ≤ C) : PB w0 B b p w' := by
  obtain ⟨h1, h2, h3⟩ := h
  exact ⟨h1.below hb (Nat.lt_of_lt_of_le h1.lt hC), h2.trans (hb.mono (Nat.le_trans h3 hC)), Nat.le_trans h3 hb.size⟩
theorem PB.new (w : World) (p : Pkt) : PB w w.heap.size w.heap.size p (w.alloc (.cells p.vals.toArray 25)) := ⟨bk_new _ _ _, (Below.refl _ _).alloc (Nat.le_refl _) _, by simp⟩
theorem PB.rng {w0 w : World} {B b : Nat} {p : Pkt} (h : PB w0 B b p w) : w.rangeAt b 0 p.vals := h.1.range
theorem PB.cs {w0 w : World} {B b : Nat} {p : Pkt} (h : PB w0 B b p w) : w.cell? ⟨b, 0, none⟩ = some (.int .i64 p.tos) ∧ w.cell? ⟨b, 1, none⟩ = some (.int .i64 p.id) ∧ w.cell? ⟨b, 2, none⟩ = some (.int .i64 p.ttl) ∧ w.cell? ⟨b, 3, none⟩ = some (.int .i64 p.proto) ∧ w.cell? ⟨b, 4, none⟩ = some (.int .i64 p.pl) ∧ w.cell? ⟨b, 5, none⟩ = some (.bool p.df) ∧ w.cell? ⟨b, 6, none⟩ = some (.bool p.more) ∧ w.cell? ⟨b, 7, none⟩ = some (.int .u8 p.a0) ∧ w.cell? ⟨b, 8, none⟩ = some (.int .u8 p.a1) ∧ w.cell? ⟨b, 9, none⟩ = some (.int .u8 p.a2) ∧ w.cell? ⟨b, 10, none⟩ = some (.int .u8 p.a3) ∧ w.cell? ⟨b, 11, none⟩ = some (.int .u8 p.b0) ∧ w.cell? ⟨b, 12, none⟩ = some (.int .u8 p.b1) ∧ w.cell? ⟨b, 13, none⟩ = some (.int .u8 p.b2) ∧ w.cell? ⟨b, 14, none⟩ = some (.int .u8 p.b3) ∧ w.cell? ⟨b, 15, none⟩ = some (.string p.opts) ∧ w.cell? ⟨b, 16, none⟩ = some (.string p.data) := by
  have h1 := h.1
  exact ⟨h1.c 0 _ rfl, h1.c 1 _ rfl, h1.c 2 _ rfl, h1.c 3 _ rfl, h1.c 4 _ rfl, h1.c 5 _ rfl, h1.c 6 _ rfl, h1.c 7 _ rfl, h1.c 8 _ rfl, h1.c 9 _ rfl, h1.c 10 _ rfl, h1.c 11 _ rfl, h1.c 12 _ rfl, h1.c 13 _ rfl, h1.c 14 _ rfl, h1.c 15 _ rfl, h1.c 16 _ rfl⟩
theorem PB.loads {w0 w : World} {B b : Nat} {p : Pkt} (h : PB w0 B b p w) : PB w0 B b p w ∧ w.rangeAt b 0 p.vals ∧ w.cell? ⟨b, 0, none⟩ = some (.int .i64 p.tos) ∧ w.cell? ⟨b, 1, none⟩ = some (.int .i64 p.id) ∧ w.cell? ⟨b, 2, none⟩ = some (.int .i64 p.ttl) ∧ w.cell? ⟨b, 3, none⟩ = some (.int .i64 p.proto) ∧ w.cell? ⟨b, 4, none⟩ = some (.int .i64 p.pl) ∧ w.cell? ⟨b, 5, none⟩ = some (.bool p.df) ∧ w.cell? ⟨b, 6, none⟩ = some (.bool p.more) ∧ w.cell? ⟨b, 7, none⟩ = some (.int .u8 p.a0) ∧ w.cell? ⟨b, 8, none⟩ = some (.int .u8 p.a1) ∧ w.cell? ⟨b, 9, none⟩ = some (.int .u8 p.a2) ∧ w.cell? ⟨b, 10, none⟩ = some (.int .u8 p.a3) ∧ w.cell? ⟨b, 11, none⟩ = some (.int .u8 p.b0) ∧ w.cell? ⟨b, 12, none⟩ = some (.int .u8 p.b1) ∧ w.cell? ⟨b, 13, none⟩ = some (.int .u8 p.b2) ∧ w.cell? ⟨b, 14, none⟩ = some (.int .u8 p.b3) ∧ w.cell? ⟨b, 15, none⟩ = some (.string p.opts) ∧ w.cell? ⟨b, 16, none⟩ = some (.string p.data) := ⟨h, h.rng, h.cs⟩

/-- Is it too long? -/
def Pkt.long (p : Pkt) : Int := if 65535 < 20 + p.opts.size + p.pl + p.data.size then 3 else 0
/-- Why a packet may not be: a code, or 0. -/
def Pkt.why (p : Pkt) : Int :=
  if p.bnd = false then 13
  else if 40 < p.opts.size ∨ p.opts.size % 4 ≠ 0 then 8
  else if p.more = true ∧ (p.data.size = 0 ∨ p.data.size % 8 ≠ 0) then 8
  else p.long

theorem bounded_at (p : Pkt) (b : Bool) (h : p.bnd = b) (w : World) :
    Calls Try.prog 58 #[.agg p.vals.toArray] w fun e w' => e = .returned (.bool b) ∧ Below w.heap.size w w' := h ▸ bounded_any p w
theorem bnd_pl {p : Pkt} (h : p.bnd = true) : 0 ≤ p.tos ∧ p.tos ≤ 255 ∧ 0 ≤ p.ttl ∧ p.ttl ≤ 255 ∧ 0 ≤ p.proto ∧ p.proto ≤ 255 ∧ 0 ≤ p.id ∧ p.id ≤ 65535 ∧ 0 ≤ p.pl ∧ p.pl ≤ 65528 ∧ p.pl % 8 = 0 := by
  unfold Pkt.bnd at h
  simp only [Bool.and_eq_true, inB_iff, beq_iff_eq] at h
  obtain ⟨⟨h1, h2⟩, ⟨h3, h4⟩, ⟨h5, h6⟩, ⟨h7, h8⟩, ⟨h9, h10⟩, h11⟩ := h
  exact ⟨h1, h2, h3, h4, h5, h6, h7, h8, h9, h10, h11⟩

set_option maxRecDepth 100000 in
theorem refusal_range (p : Pkt) (w : World) (hb : p.bnd = false) :
    Calls Try.prog 39 #[.agg p.vals.toArray] w fun e w' => e = .returned (.int .i64 13) ∧ Below w.heap.size w w' := by
  have HB := Lib.hid hb
  clear hb
  have hP0 := PB.new w p
  have HP0 := Lib.hid hP0
  have hr := hP0.rng
  clear hP0
  go_enter Try.func39, Try.ntmps39
  go_wp2_with (refine wpList_load_mid rfl 25 _ rfl _ 0 rfl p.vals _ hr Try.underlying25 rfl (Try.infoIp p) ?_)
  refine (bounded_at p _ HB.out _).mono ?_
  rintro e w1 ⟨rfl, b1⟩
  have HP := Lib.hid (HP0.out.below b1 (Nat.le_refl _))
  clear b1 hr HP0
  go_wp2_with fail
  go_ret
  exact ⟨rfl, HP.out.2.1⟩
set_option maxRecDepth 100000 in
set_option maxHeartbeats 400000 in
theorem refusal_many (p : Pkt) (w : World) (hb : p.bnd = true) (h : 40 < p.opts.size) :
    Calls Try.prog 39 #[.agg p.vals.toArray] w fun e w' => e = .returned (.int .i64 8) ∧ Below w.heap.size w w' := by
  have HB := Lib.hid hb
  clear hb
  have hP0 := PB.new w p
  have HP0 := Lib.hid hP0
  have hr := hP0.rng
  clear hP0
  go_enter Try.func39, Try.ntmps39
  go_wp2_with (refine wpList_load_mid rfl 25 _ rfl _ 0 rfl p.vals _ hr Try.underlying25 rfl (Try.infoIp p) ?_)
  refine (bounded_at p _ HB.out _).mono ?_
  rintro e w1 ⟨rfl, b1⟩
  have hP := HP0.out.below b1 (Nat.le_refl _)
  have HP := Lib.hid hP
  obtain ⟨_, _, _, _, c4, _, c6, _, _, _, _, _, _, _, _, c15, c16⟩ := hP.cs
  clear b1 hr HP0 hP
  go_wp2_with fail
  go_ret
  exact ⟨rfl, HP.out.2.1⟩
set_option maxRecDepth 100000 in
set_option maxHeartbeats 400000 in
theorem refusal_odd (p : Pkt) (w : World) (hb : p.bnd = true) (h : p.opts.size ≤ 40) (h4 : ((p.opts.size : Int) % 4 != 0) = true) :
    Calls Try.prog 39 #[.agg p.vals.toArray] w fun e w' => e = .returned (.int .i64 8) ∧ Below w.heap.size w w' := by
  have HB := Lib.hid hb
  clear hb
  have hP0 := PB.new w p
  have HP0 := Lib.hid hP0
  have hr := hP0.rng
  clear hP0
  go_enter Try.func39, Try.ntmps39
  go_wp2_with (refine wpList_load_mid rfl 25 _ rfl _ 0 rfl p.vals _ hr Try.underlying25 rfl (Try.infoIp p) ?_)
  refine (bounded_at p _ HB.out _).mono ?_
  rintro e w1 ⟨rfl, b1⟩
  have hP := HP0.out.below b1 (Nat.le_refl _)
  have HP := Lib.hid hP
  obtain ⟨_, _, _, _, c4, _, c6, _, _, _, _, _, _, _, _, c15, c16⟩ := hP.cs
  clear b1 hr HP0 hP
  go_wp2_with fail
  go_ret
  exact ⟨rfl, HP.out.2.1⟩
set_option maxRecDepth 100000 in
set_option maxHeartbeats 400000 in
theorem refusal_none (p : Pkt) (w : World) (hb : p.bnd = true) (h : p.opts.size ≤ 40) (h4 : ((p.opts.size : Int) % 4 != 0) = false) (hm : p.more = true) (h0 : ((p.data.size : Int) == 0) = true) :
    Calls Try.prog 39 #[.agg p.vals.toArray] w fun e w' => e = .returned (.int .i64 8) ∧ Below w.heap.size w w' := by
  have HB := Lib.hid hb
  clear hb
  have HM := Lib.hid hm
  clear hm
  have hP0 := PB.new w p
  have HP0 := Lib.hid hP0
  have hr := hP0.rng
  clear hP0
  go_enter Try.func39, Try.ntmps39
  go_wp2_with (refine wpList_load_mid rfl 25 _ rfl _ 0 rfl p.vals _ hr Try.underlying25 rfl (Try.infoIp p) ?_)
  refine (bounded_at p _ HB.out _).mono ?_
  rintro e w1 ⟨rfl, b1⟩
  have hP := HP0.out.below b1 (Nat.le_refl _)
  have HP := Lib.hid hP
  obtain ⟨_, _, _, _, c4, _, c6, _, _, _, _, _, _, _, _, c15, c16⟩ := hP.cs
  clear b1 hr HP0 hP
  have hm := HM.out
  go_wp2_with fail
  go_ret
  exact ⟨rfl, HP.out.2.1⟩
set_option maxRecDepth 100000 in
set_option maxHeartbeats 400000 in
theorem refusal_eight (p : Pkt) (w : World) (hb : p.bnd = true) (h : p.opts.size ≤ 40) (h4 : ((p.opts.size : Int) % 4 != 0) = false) (hm : p.more = true) (h0 : ((p.data.size : Int) == 0) = false) (h8 : ((p.data.size : Int) % 8 != 0) = true) :
    Calls Try.prog 39 #[.agg p.vals.toArray] w fun e w' => e = .returned (.int .i64 8) ∧ Below w.heap.size w w' := by
  have HB := Lib.hid hb
  clear hb
  have HM := Lib.hid hm
  clear hm
  have hP0 := PB.new w p
  have HP0 := Lib.hid hP0
  have hr := hP0.rng
  clear hP0
  go_enter Try.func39, Try.ntmps39
  go_wp2_with (refine wpList_load_mid rfl 25 _ rfl _ 0 rfl p.vals _ hr Try.underlying25 rfl (Try.infoIp p) ?_)
  refine (bounded_at p _ HB.out _).mono ?_
  rintro e w1 ⟨rfl, b1⟩
  have hP := HP0.out.below b1 (Nat.le_refl _)
  have HP := Lib.hid hP
  obtain ⟨_, _, _, _, c4, _, c6, _, _, _, _, _, _, _, _, c15, c16⟩ := hP.cs
  clear b1 hr HP0 hP
  have hm := HM.out
  go_wp2_with fail
  go_ret
  exact ⟨rfl, HP.out.2.1⟩
set_option maxRecDepth 100000 in
set_option maxHeartbeats 400000 in
theorem refusal_end1 (p : Pkt) (w : World) (hb : p.bnd = true) (h : p.opts.size ≤ 40) (h4 : ((p.opts.size : Int) % 4 != 0) = false) (hm : p.more = false) (hd : p.data.size ≤ 70000) :
    Calls Try.prog 39 #[.agg p.vals.toArray] w fun e w' => e = .returned (.int .i64 p.long) ∧ Below w.heap.size w w' := by
  have HB := Lib.hid hb
  obtain ⟨_, _, _, _, _, _, _, _, hp0, hp1, _⟩ := bnd_pl hb
  clear hb
  have HM := Lib.hid hm
  clear hm
  have hP0 := PB.new w p
  have HP0 := Lib.hid hP0
  have hr := hP0.rng
  clear hP0
  go_enter Try.func39, Try.ntmps39
  go_wp2_with (refine wpList_load_mid rfl 25 _ rfl _ 0 rfl p.vals _ hr Try.underlying25 rfl (Try.infoIp p) ?_)
  refine (bounded_at p _ HB.out _).mono ?_
  rintro e w1 ⟨rfl, b1⟩
  have hP := HP0.out.below b1 (Nat.le_refl _)
  have HP := Lib.hid hP
  obtain ⟨_, _, _, _, c4, _, c6, _, _, _, _, _, _, _, _, c15, c16⟩ := hP.cs
  clear b1 hr HP0 hP
  have hm := HM.out
  go_wp2_with fail
  clear hm c4 c6 c15 c16
  have k1 : IntKind.i64.wrap (20 + (p.opts.size : Int) + p.pl) = 20 + (p.opts.size : Int) + p.pl := IntWalk.i64_in _ (by omega)
  have k2 : IntKind.i64.wrap (20 + (p.opts.size : Int) + p.pl + (p.data.size : Int)) = 20 + (p.opts.size : Int) + p.pl + (p.data.size : Int) := IntWalk.i64_in _ (by omega)
  obtain ⟨B, hBd⟩ : ∃ B, B = w.heap.size := ⟨_, rfl⟩
  have hP' : PB w B w.heap.size p w1 := by rw [hBd]; exact HP.out
  have HBd := Lib.hid hBd
  clear HP hBd
  have hz : p.opts.size ≤ 70000 := by omega
  generalize w.heap.size = b at hP'
  refine wp_region_noPanic ?_
  refine wp_region_held_drew (S := fun w' => PB w B b p w' ∧ w'.rangeAt b 0 p.vals ∧ w'.cell? ⟨b, 0, none⟩ = some (.int .i64 p.tos) ∧ w'.cell? ⟨b, 1, none⟩ = some (.int .i64 p.id) ∧ w'.cell? ⟨b, 2, none⟩ = some (.int .i64 p.ttl) ∧ w'.cell? ⟨b, 3, none⟩ = some (.int .i64 p.proto) ∧ w'.cell? ⟨b, 4, none⟩ = some (.int .i64 p.pl) ∧ w'.cell? ⟨b, 5, none⟩ = some (.bool p.df) ∧ w'.cell? ⟨b, 6, none⟩ = some (.bool p.more) ∧ w'.cell? ⟨b, 7, none⟩ = some (.int .u8 p.a0) ∧ w'.cell? ⟨b, 8, none⟩ = some (.int .u8 p.a1) ∧ w'.cell? ⟨b, 9, none⟩ = some (.int .u8 p.a2) ∧ w'.cell? ⟨b, 10, none⟩ = some (.int .u8 p.a3) ∧ w'.cell? ⟨b, 11, none⟩ = some (.int .u8 p.b0) ∧ w'.cell? ⟨b, 12, none⟩ = some (.int .u8 p.b1) ∧ w'.cell? ⟨b, 13, none⟩ = some (.int .u8 p.b2) ∧ w'.cell? ⟨b, 14, none⟩ = some (.int .u8 p.b3) ∧ w'.cell? ⟨b, 15, none⟩ = some (.string p.opts) ∧ w'.cell? ⟨b, 16, none⟩ = some (.string p.data)) (by kernel_rfl) ((PB.below hP' ((Below.refl w1.heap.size w1).drew) (Nat.le_refl _)).loads) (fun hHeld => ?_)
  refine wpAnyH_take (i := 0) (oi := { dst := some 36, op := Op.load 25 (Operand.tmp 1), type := 25, pos := "ip4.go:53", after := #[], guard := none }) (v := .agg (p.vals).toArray) rfl (by kernel_rfl) (by kernel_rfl) (by kernel_rfl) (fun _ _ _ h => h) (yieldsIf_load_mid (by rfl) _ _ rfl (b) 0 rfl (p.vals) _ (fun ww hSw => hSw.2.1) Try.underlying25 rfl (Try.infoIp p)) (by assumption) ?_
  (try simp only [Act.put, List.setIfInBounds_toArray, List.set_cons_zero, List.set_cons_succ])
  refine wpAnyH_take (i := 2) (oi := { dst := some 38, op := Op.fieldAddr 25 (Operand.tmp 1) 4, type := 0, pos := "ip4.go:53", after := #[], guard := none }) (v := ?_) rfl (by kernel_rfl) (by kernel_rfl) (by kernel_rfl) (fun _ _ _ h => h) (Or.inl ⟨by rfl, ?_⟩) (by assumption) ?_
  rotate_left
  · (intro ww hSw; (try dsimp only at hSw); go_simp; try with_reducible rfl)
  (try simp only [Act.put, List.setIfInBounds_toArray, List.set_cons_zero, List.set_cons_succ])
  refine wpAnyH_take (i := 3) (oi := { dst := some 39, op := Op.load 3 (Operand.tmp 38), type := 3, pos := "ip4.go:53", after := #[{ on := 2, ground := Ground.data }], guard := none }) (v := ?_) rfl (by kernel_rfl) (by kernel_rfl) (by kernel_rfl) (fun _ _ _ h => h) (Or.inl ⟨by rfl, ?_⟩) (by assumption) ?_
  rotate_left
  · (intro ww hSw; (try dsimp only at hSw); go_simp; try with_reducible rfl)
  (try simp only [Act.put, List.setIfInBounds_toArray, List.set_cons_zero, List.set_cons_succ])
  refine wpAnyH_take (i := 5) (oi := { dst := some 41, op := Op.fieldAddr 25 (Operand.tmp 1) 10, type := 0, pos := "ip4.go:53", after := #[], guard := none }) (v := ?_) rfl (by kernel_rfl) (by kernel_rfl) (by kernel_rfl) (fun _ _ _ h => h) (Or.inl ⟨by rfl, ?_⟩) (by assumption) ?_
  rotate_left
  · (intro ww hSw; (try dsimp only at hSw); go_simp; try with_reducible rfl)
  (try simp only [Act.put, List.setIfInBounds_toArray, List.set_cons_zero, List.set_cons_succ])
  refine wpAnyH_take (i := 6) (oi := { dst := some 42, op := Op.load 9 (Operand.tmp 41), type := 9, pos := "ip4.go:53", after := #[{ on := 5, ground := Ground.data }], guard := none }) (v := ?_) rfl (by kernel_rfl) (by kernel_rfl) (by kernel_rfl) (fun _ _ _ h => h) (Or.inl ⟨by rfl, ?_⟩) (by assumption) ?_
  rotate_left
  · (intro ww hSw; (try dsimp only at hSw); go_simp; try with_reducible rfl)
  (try simp only [Act.put, List.setIfInBounds_toArray, List.set_cons_zero, List.set_cons_succ])
  refine wpAnyH_take (i := 7) (oi := { dst := some 43, op := Op.call { callee := Callee.builtin Builtin.len, args := #[Operand.tmp 42], argTypes := #[9] }, type := 3, pos := "ip4.go:53", after := #[{ on := 6, ground := Ground.data }], guard := none }) (v := ?_) rfl (by kernel_rfl) (by kernel_rfl) (by kernel_rfl) (fun _ _ _ h => h) (Or.inl ⟨by rfl, ?_⟩) (by assumption) ?_
  rotate_left
  · (intro ww hSw; (try dsimp only at hSw); go_simp; try with_reducible rfl)
  (try simp only [Act.put, List.setIfInBounds_toArray, List.set_cons_zero, List.set_cons_succ])
  refine wpAnyH_ready (rs := [1]) (by kernel_rfl) (by simp) ?_
  refine AllReadyH.cons (o := { dst := some 37, op := Op.call { callee := Callee.value (Operand.func 59), args := #[Operand.tmp 36], argTypes := #[25] }, type := 3, pos := "ip4.go:53", after := #[{ on := 0, ground := Ground.data }], guard := none }) rfl (fun K hK => ?_) AllReadyH.nil
  go_simp
  ((with_reducible refine (headLength_any p _ hz).mono ?_); rintro e w9 ⟨rfl, hb9⟩)
  refine hK.out _ _ ((PB.below (And.left hHeld) hb9 (Nat.le_refl _)).loads) (fun hHeld => ?_)
  clear hK K
  (try simp only [Act.put, List.setIfInBounds_toArray, List.set_cons_zero, List.set_cons_succ])
  refine wpAnyH_take (i := 4) (oi := { dst := some 40, op := Op.binOp BinOp.add 3 (Operand.tmp 37) (Operand.tmp 39) 3, type := 3, pos := "ip4.go:53", after := #[{ on := 1, ground := Ground.data }, { on := 3, ground := Ground.data }], guard := none }) (v := ?_) rfl (by kernel_rfl) (by kernel_rfl) (by kernel_rfl) (fun _ _ _ h => h) (Or.inl ⟨by rfl, ?_⟩) (by assumption) ?_
  rotate_left
  · (intro ww hSw; (try dsimp only at hSw); go_simp; try with_reducible rfl)
  (try simp only [Act.put, List.setIfInBounds_toArray, List.set_cons_zero, List.set_cons_succ])
  refine wpAnyH_take (i := 8) (oi := { dst := some 44, op := Op.binOp BinOp.add 3 (Operand.tmp 40) (Operand.tmp 43) 3, type := 3, pos := "ip4.go:53", after := #[{ on := 4, ground := Ground.data }, { on := 7, ground := Ground.data }], guard := none }) (v := ?_) rfl (by kernel_rfl) (by kernel_rfl) (by kernel_rfl) (fun _ _ _ h => h) (Or.inl ⟨by rfl, ?_⟩) (by assumption) ?_
  rotate_left
  · (intro ww hSw; (try dsimp only at hSw); go_simp; try with_reducible rfl)
  (try simp only [Act.put, List.setIfInBounds_toArray, List.set_cons_zero, List.set_cons_succ])
  refine wpAnyH_take (i := 9) (oi := { dst := some 45, op := Op.binOp BinOp.gtr 3 (Operand.tmp 44) (Operand.const (Value.int IntKind.i64 65535)) 3, type := 4, pos := "ip4.go:53", after := #[{ on := 8, ground := Ground.data }], guard := none }) (v := ?_) rfl (by kernel_rfl) (by kernel_rfl) (by kernel_rfl) (fun _ _ _ h => h) (Or.inl ⟨by rfl, ?_⟩) (by assumption) ?_
  rotate_left
  · (intro ww hSw; (try dsimp only at hSw); go_simp; try with_reducible rfl)
  (try simp only [Act.put, List.setIfInBounds_toArray, List.set_cons_zero, List.set_cons_succ])
  refine wpAnyH_take (i := 10) (oi := { dst := some 35, op := Op.assign (Operand.tmp 45), type := 4, pos := "ip4.go:53", after := #[{ on := 9, ground := Ground.data }, { on := 1, ground := Ground.chain }], guard := none }) (v := ?_) rfl (by kernel_rfl) (by kernel_rfl) (by kernel_rfl) (fun _ _ _ h => h) (Or.inl ⟨by rfl, ?_⟩) (by assumption) ?_
  rotate_left
  · (intro ww hSw; (try dsimp only at hSw); go_simp; try with_reducible rfl)
  (try simp only [Act.put, List.setIfInBounds_toArray, List.set_cons_zero, List.set_cons_succ])
  refine wpAnyH_done (by kernel_rfl) ?_ _
  refine NoPanic.normal ?_
  have hf2 := (And.left hHeld).2.1
  rw [HBd.out] at hf2
  have HF := Lib.hid hf2
  clear hf2 hHeld k1 k2 hP'
  by_cases hl : 65535 < 20 + p.opts.size + p.pl + p.data.size
  · have HL : Hid (p.long = 3) := Lib.hid (if_pos hl)
    go_wp2_with fail
    go_ret
    rw [HL.out]
    exact ⟨rfl, HF.out⟩
  · have HL : Hid (p.long = 0) := Lib.hid (if_neg hl)
    go_wp2_with fail
    go_ret
    rw [HL.out]
    exact ⟨rfl, HF.out⟩
set_option maxRecDepth 100000 in
set_option maxHeartbeats 400000 in
theorem refusal_end2 (p : Pkt) (w : World) (hb : p.bnd = true) (h : p.opts.size ≤ 40) (h4 : ((p.opts.size : Int) % 4 != 0) = false) (hm : p.more = true) (h0 : ((p.data.size : Int) == 0) = false) (h8 : ((p.data.size : Int) % 8 != 0) = false) (hd : p.data.size ≤ 70000) :
    Calls Try.prog 39 #[.agg p.vals.toArray] w fun e w' => e = .returned (.int .i64 p.long) ∧ Below w.heap.size w w' := by
  have HB := Lib.hid hb
  obtain ⟨_, _, _, _, _, _, _, _, hp0, hp1, _⟩ := bnd_pl hb
  clear hb
  have HM := Lib.hid hm
  clear hm
  have hP0 := PB.new w p
  have HP0 := Lib.hid hP0
  have hr := hP0.rng
  clear hP0
  go_enter Try.func39, Try.ntmps39
  go_wp2_with (refine wpList_load_mid rfl 25 _ rfl _ 0 rfl p.vals _ hr Try.underlying25 rfl (Try.infoIp p) ?_)
  refine (bounded_at p _ HB.out _).mono ?_
  rintro e w1 ⟨rfl, b1⟩
  have hP := HP0.out.below b1 (Nat.le_refl _)
  have HP := Lib.hid hP
  obtain ⟨_, _, _, _, c4, _, c6, _, _, _, _, _, _, _, _, c15, c16⟩ := hP.cs
  clear b1 hr HP0 hP
  have hm := HM.out
  go_wp2_with fail
  clear hm c4 c6 c15 c16
  have k1 : IntKind.i64.wrap (20 + (p.opts.size : Int) + p.pl) = 20 + (p.opts.size : Int) + p.pl := IntWalk.i64_in _ (by omega)
  have k2 : IntKind.i64.wrap (20 + (p.opts.size : Int) + p.pl + (p.data.size : Int)) = 20 + (p.opts.size : Int) + p.pl + (p.data.size : Int) := IntWalk.i64_in _ (by omega)
  obtain ⟨B, hBd⟩ : ∃ B, B = w.heap.size := ⟨_, rfl⟩
  have hP' : PB w B w.heap.size p w1 := by rw [hBd]; exact HP.out
  have HBd := Lib.hid hBd
  clear HP hBd
  have hz : p.opts.size ≤ 70000 := by omega
  generalize w.heap.size = b at hP'
  refine wp_region_noPanic ?_
  refine wp_region_held_drew (S := fun w' => PB w B b p w' ∧ w'.rangeAt b 0 p.vals ∧ w'.cell? ⟨b, 0, none⟩ = some (.int .i64 p.tos) ∧ w'.cell? ⟨b, 1, none⟩ = some (.int .i64 p.id) ∧ w'.cell? ⟨b, 2, none⟩ = some (.int .i64 p.ttl) ∧ w'.cell? ⟨b, 3, none⟩ = some (.int .i64 p.proto) ∧ w'.cell? ⟨b, 4, none⟩ = some (.int .i64 p.pl) ∧ w'.cell? ⟨b, 5, none⟩ = some (.bool p.df) ∧ w'.cell? ⟨b, 6, none⟩ = some (.bool p.more) ∧ w'.cell? ⟨b, 7, none⟩ = some (.int .u8 p.a0) ∧ w'.cell? ⟨b, 8, none⟩ = some (.int .u8 p.a1) ∧ w'.cell? ⟨b, 9, none⟩ = some (.int .u8 p.a2) ∧ w'.cell? ⟨b, 10, none⟩ = some (.int .u8 p.a3) ∧ w'.cell? ⟨b, 11, none⟩ = some (.int .u8 p.b0) ∧ w'.cell? ⟨b, 12, none⟩ = some (.int .u8 p.b1) ∧ w'.cell? ⟨b, 13, none⟩ = some (.int .u8 p.b2) ∧ w'.cell? ⟨b, 14, none⟩ = some (.int .u8 p.b3) ∧ w'.cell? ⟨b, 15, none⟩ = some (.string p.opts) ∧ w'.cell? ⟨b, 16, none⟩ = some (.string p.data)) (by kernel_rfl) ((PB.below hP' ((Below.refl w1.heap.size w1).drew) (Nat.le_refl _)).loads) (fun hHeld => ?_)
  refine wpAnyH_take (i := 0) (oi := { dst := some 36, op := Op.load 25 (Operand.tmp 1), type := 25, pos := "ip4.go:53", after := #[], guard := none }) (v := .agg (p.vals).toArray) rfl (by kernel_rfl) (by kernel_rfl) (by kernel_rfl) (fun _ _ _ h => h) (yieldsIf_load_mid (by rfl) _ _ rfl (b) 0 rfl (p.vals) _ (fun ww hSw => hSw.2.1) Try.underlying25 rfl (Try.infoIp p)) (by assumption) ?_
  (try simp only [Act.put, List.setIfInBounds_toArray, List.set_cons_zero, List.set_cons_succ])
  refine wpAnyH_take (i := 2) (oi := { dst := some 38, op := Op.fieldAddr 25 (Operand.tmp 1) 4, type := 0, pos := "ip4.go:53", after := #[], guard := none }) (v := ?_) rfl (by kernel_rfl) (by kernel_rfl) (by kernel_rfl) (fun _ _ _ h => h) (Or.inl ⟨by rfl, ?_⟩) (by assumption) ?_
  rotate_left
  · (intro ww hSw; (try dsimp only at hSw); go_simp; try with_reducible rfl)
  (try simp only [Act.put, List.setIfInBounds_toArray, List.set_cons_zero, List.set_cons_succ])
  refine wpAnyH_take (i := 3) (oi := { dst := some 39, op := Op.load 3 (Operand.tmp 38), type := 3, pos := "ip4.go:53", after := #[{ on := 2, ground := Ground.data }], guard := none }) (v := ?_) rfl (by kernel_rfl) (by kernel_rfl) (by kernel_rfl) (fun _ _ _ h => h) (Or.inl ⟨by rfl, ?_⟩) (by assumption) ?_
  rotate_left
  · (intro ww hSw; (try dsimp only at hSw); go_simp; try with_reducible rfl)
  (try simp only [Act.put, List.setIfInBounds_toArray, List.set_cons_zero, List.set_cons_succ])
  refine wpAnyH_take (i := 5) (oi := { dst := some 41, op := Op.fieldAddr 25 (Operand.tmp 1) 10, type := 0, pos := "ip4.go:53", after := #[], guard := none }) (v := ?_) rfl (by kernel_rfl) (by kernel_rfl) (by kernel_rfl) (fun _ _ _ h => h) (Or.inl ⟨by rfl, ?_⟩) (by assumption) ?_
  rotate_left
  · (intro ww hSw; (try dsimp only at hSw); go_simp; try with_reducible rfl)
  (try simp only [Act.put, List.setIfInBounds_toArray, List.set_cons_zero, List.set_cons_succ])
  refine wpAnyH_take (i := 6) (oi := { dst := some 42, op := Op.load 9 (Operand.tmp 41), type := 9, pos := "ip4.go:53", after := #[{ on := 5, ground := Ground.data }], guard := none }) (v := ?_) rfl (by kernel_rfl) (by kernel_rfl) (by kernel_rfl) (fun _ _ _ h => h) (Or.inl ⟨by rfl, ?_⟩) (by assumption) ?_
  rotate_left
  · (intro ww hSw; (try dsimp only at hSw); go_simp; try with_reducible rfl)
  (try simp only [Act.put, List.setIfInBounds_toArray, List.set_cons_zero, List.set_cons_succ])
  refine wpAnyH_take (i := 7) (oi := { dst := some 43, op := Op.call { callee := Callee.builtin Builtin.len, args := #[Operand.tmp 42], argTypes := #[9] }, type := 3, pos := "ip4.go:53", after := #[{ on := 6, ground := Ground.data }], guard := none }) (v := ?_) rfl (by kernel_rfl) (by kernel_rfl) (by kernel_rfl) (fun _ _ _ h => h) (Or.inl ⟨by rfl, ?_⟩) (by assumption) ?_
  rotate_left
  · (intro ww hSw; (try dsimp only at hSw); go_simp; try with_reducible rfl)
  (try simp only [Act.put, List.setIfInBounds_toArray, List.set_cons_zero, List.set_cons_succ])
  refine wpAnyH_ready (rs := [1]) (by kernel_rfl) (by simp) ?_
  refine AllReadyH.cons (o := { dst := some 37, op := Op.call { callee := Callee.value (Operand.func 59), args := #[Operand.tmp 36], argTypes := #[25] }, type := 3, pos := "ip4.go:53", after := #[{ on := 0, ground := Ground.data }], guard := none }) rfl (fun K hK => ?_) AllReadyH.nil
  go_simp
  ((with_reducible refine (headLength_any p _ hz).mono ?_); rintro e w9 ⟨rfl, hb9⟩)
  refine hK.out _ _ ((PB.below (And.left hHeld) hb9 (Nat.le_refl _)).loads) (fun hHeld => ?_)
  clear hK K
  (try simp only [Act.put, List.setIfInBounds_toArray, List.set_cons_zero, List.set_cons_succ])
  refine wpAnyH_take (i := 4) (oi := { dst := some 40, op := Op.binOp BinOp.add 3 (Operand.tmp 37) (Operand.tmp 39) 3, type := 3, pos := "ip4.go:53", after := #[{ on := 1, ground := Ground.data }, { on := 3, ground := Ground.data }], guard := none }) (v := ?_) rfl (by kernel_rfl) (by kernel_rfl) (by kernel_rfl) (fun _ _ _ h => h) (Or.inl ⟨by rfl, ?_⟩) (by assumption) ?_
  rotate_left
  · (intro ww hSw; (try dsimp only at hSw); go_simp; try with_reducible rfl)
  (try simp only [Act.put, List.setIfInBounds_toArray, List.set_cons_zero, List.set_cons_succ])
  refine wpAnyH_take (i := 8) (oi := { dst := some 44, op := Op.binOp BinOp.add 3 (Operand.tmp 40) (Operand.tmp 43) 3, type := 3, pos := "ip4.go:53", after := #[{ on := 4, ground := Ground.data }, { on := 7, ground := Ground.data }], guard := none }) (v := ?_) rfl (by kernel_rfl) (by kernel_rfl) (by kernel_rfl) (fun _ _ _ h => h) (Or.inl ⟨by rfl, ?_⟩) (by assumption) ?_
  rotate_left
  · (intro ww hSw; (try dsimp only at hSw); go_simp; try with_reducible rfl)
  (try simp only [Act.put, List.setIfInBounds_toArray, List.set_cons_zero, List.set_cons_succ])
  refine wpAnyH_take (i := 9) (oi := { dst := some 45, op := Op.binOp BinOp.gtr 3 (Operand.tmp 44) (Operand.const (Value.int IntKind.i64 65535)) 3, type := 4, pos := "ip4.go:53", after := #[{ on := 8, ground := Ground.data }], guard := none }) (v := ?_) rfl (by kernel_rfl) (by kernel_rfl) (by kernel_rfl) (fun _ _ _ h => h) (Or.inl ⟨by rfl, ?_⟩) (by assumption) ?_
  rotate_left
  · (intro ww hSw; (try dsimp only at hSw); go_simp; try with_reducible rfl)
  (try simp only [Act.put, List.setIfInBounds_toArray, List.set_cons_zero, List.set_cons_succ])
  refine wpAnyH_take (i := 10) (oi := { dst := some 35, op := Op.assign (Operand.tmp 45), type := 4, pos := "ip4.go:53", after := #[{ on := 9, ground := Ground.data }, { on := 1, ground := Ground.chain }], guard := none }) (v := ?_) rfl (by kernel_rfl) (by kernel_rfl) (by kernel_rfl) (fun _ _ _ h => h) (Or.inl ⟨by rfl, ?_⟩) (by assumption) ?_
  rotate_left
  · (intro ww hSw; (try dsimp only at hSw); go_simp; try with_reducible rfl)
  (try simp only [Act.put, List.setIfInBounds_toArray, List.set_cons_zero, List.set_cons_succ])
  refine wpAnyH_done (by kernel_rfl) ?_ _
  refine NoPanic.normal ?_
  have hf2 := (And.left hHeld).2.1
  rw [HBd.out] at hf2
  have HF := Lib.hid hf2
  clear hf2 hHeld k1 k2 hP'
  by_cases hl : 65535 < 20 + p.opts.size + p.pl + p.data.size
  · have HL : Hid (p.long = 3) := Lib.hid (if_pos hl)
    go_wp2_with fail
    go_ret
    rw [HL.out]
    exact ⟨rfl, HF.out⟩
  · have HL : Hid (p.long = 0) := Lib.hid (if_neg hl)
    go_wp2_with fail
    go_ret
    rw [HL.out]
    exact ⟨rfl, HF.out⟩
theorem refusal_any (p : Pkt) (w : World) (hd : p.data.size ≤ 70000) :
    Calls Try.prog 39 #[.agg p.vals.toArray] w fun e w' => e = .returned (.int .i64 p.why) ∧ Below w.heap.size w w' := by
  unfold Pkt.why
  cases hb : p.bnd
  · rw [if_pos rfl]
    exact refusal_range p w hb
  · rw [if_neg (by simp)]
    by_cases h40 : 40 < p.opts.size
    · rw [if_pos (.inl h40)]
      exact refusal_many p w hb h40
    · by_cases h4 : p.opts.size % 4 = 0
      · rw [if_neg (by omega)]
        have g4 : ((p.opts.size : Int) % 4 != 0) = false := by rw [show (p.opts.size : Int) % 4 = 0 by omega]; rfl
        cases hm : p.more
        · rw [if_neg (by simp)]
          exact refusal_end1 p w hb (by omega) g4 hm hd
        · by_cases h0 : p.data.size = 0
          · rw [if_pos ⟨rfl, .inl h0⟩]
            exact refusal_none p w hb (by omega) g4 hm (by rw [h0]; rfl)
          · have g0 : ((p.data.size : Int) == 0) = false := by rw [beq_eq_false_iff_ne]; omega
            by_cases h8 : p.data.size % 8 = 0
            · rw [if_neg (by omega)]
              exact refusal_end2 p w hb (by omega) g4 hm g0 (by rw [show (p.data.size : Int) % 8 = 0 by omega]; rfl) hd
            · rw [if_pos ⟨rfl, .inr h8⟩]
              exact refusal_eight p w hb (by omega) g4 hm g0 (by rw [bne_iff_ne]; omega)
      · rw [if_pos (.inr h4)]
        exact refusal_odd p w hb (by omega) (by rw [bne_iff_ne]; omega)

/-- Where a packet's data stand, with the bits beside. -/
def Pkt.place (p : Pkt) : Int := p.pl / 8 + ((if p.df then 16384 else 0) + (if p.more then 8192 else 0))
theorem or_high (x k m : Nat) (hk : k ≤ 20) (hm : m < 1024) (hx : x < 2 ^ k) : bits .or .i64 ((x : Nat) : Int) ((2 ^ k * m : Nat) : Int) = ((2 ^ k * m + x : Nat) : Int) := by
  have hp : 2 ^ k ≤ 2 ^ 20 := Nat.pow_le_pow_right (by omega) hk
  have hq : 2 ^ k * m ≤ 2 ^ 20 * 1024 := Nat.mul_le_mul hp (by omega)
  have hor : x ||| 2 ^ k * m = 2 ^ k * m + x := by
    rw [Nat.or_comm]
    exact (Nat.two_pow_add_eq_or_of_lt hx m).symm
  have h1 : (BitVec.ofInt 64 ((x : Nat) : Int)).toNat = x := by
    rw [BitVec.ofInt_natCast, BitVec.toNat_ofNat]; exact Nat.mod_eq_of_lt (by omega)
  have h2 : (BitVec.ofInt 64 ((2 ^ k * m : Nat) : Int)).toNat = 2 ^ k * m := by
    rw [BitVec.ofInt_natCast, BitVec.toNat_ofNat]; exact Nat.mod_eq_of_lt (by omega)
  show IntKind.i64.wrap ((BitVec.ofInt 64 ((x : Nat) : Int) ||| BitVec.ofInt 64 ((2 ^ k * m : Nat) : Int)).toNat : Int) = _
  rw [BitVec.toNat_or, h1, h2, hor, IntKind.wrap_i64]
  omega
theorem or_df (x : Int) (h0 : 0 ≤ x) (h1 : x < 8192) : bits .or .i64 x 16384 = x + 16384 := by
  obtain ⟨n, rfl⟩ : ∃ n : Nat, x = n := ⟨x.toNat, by omega⟩
  have := or_high n 14 1 (by decide) (by decide) (by omega)
  rw [show ((2 ^ 14 * 1 : Nat) : Int) = 16384 by decide] at this
  rw [this]; omega
theorem or_more (x : Int) (h0 : 0 ≤ x) (h1 : x < 8192) : bits .or .i64 x 8192 = x + 8192 := by
  obtain ⟨n, rfl⟩ : ∃ n : Nat, x = n := ⟨x.toNat, by omega⟩
  have := or_high n 13 1 (by decide) (by decide) (by omega)
  rw [show ((2 ^ 13 * 1 : Nat) : Int) = 8192 by decide] at this
  rw [this]; omega
theorem or_both (x : Int) (h0 : 0 ≤ x) (h1 : x < 8192) : bits .or .i64 (x + 16384) 8192 = x + 24576 := by
  obtain ⟨n, rfl⟩ : ∃ n : Nat, x = n := ⟨x.toNat, by omega⟩
  have e1 : (2 ^ 13 * 2 ||| n) = 2 ^ 13 * 2 + n := (Nat.two_pow_add_eq_or_of_lt (by omega) 2).symm
  have e3 : (2 ^ 13 * 3 ||| n) = 2 ^ 13 * 3 + n := (Nat.two_pow_add_eq_or_of_lt (by omega) 3).symm
  have hor : (n + 16384) ||| 8192 = n + 24576 := by
    rw [show n + 16384 = 2 ^ 13 * 2 ||| n by rw [e1]; omega, Nat.or_assoc, Nat.or_comm n, ← Nat.or_assoc, show (2 ^ 13 * 2 ||| 8192) = 2 ^ 13 * 3 by decide, e3]
    omega
  have a1 : (BitVec.ofInt 64 ((n : Int) + 16384)).toNat = n + 16384 := by
    rw [show (n : Int) + 16384 = ((n + 16384 : Nat) : Int) by omega, BitVec.ofInt_natCast, BitVec.toNat_ofNat]; exact Nat.mod_eq_of_lt (by omega)
  have a2 : (BitVec.ofInt 64 (8192 : Int)).toNat = 8192 := by decide
  show IntKind.i64.wrap ((BitVec.ofInt 64 ((n : Int) + 16384) ||| BitVec.ofInt 64 (8192 : Int)).toNat : Int) = _
  rw [BitVec.toNat_or, a1, a2, hor, IntKind.wrap_i64]
  omega
theorem place_lt {p : Pkt} (h0 : 0 ≤ p.pl) (h1 : p.pl ≤ 65528) : 0 ≤ p.place ∧ p.place < 32768 := by
  unfold Pkt.place
  cases p.df <;> cases p.more <;> simp <;> omega
set_option maxRecDepth 100000 in
theorem placeWord_any (p : Pkt) (w : World) (h0 : 0 ≤ p.pl) (h1 : p.pl ≤ 65528) :
    Calls Try.prog 61 #[.agg p.vals.toArray] w fun e w' => e = .returned (.int .i64 p.place) ∧ Below w.heap.size w w' := by
  show Calls _ _ #[.agg #[.int .i64 p.tos, .int .i64 p.id, .int .i64 p.ttl, .int .i64 p.proto, .int .i64 p.pl, .bool p.df, .bool p.more, .int .u8 p.a0, .int .u8 p.a1, .int .u8 p.a2, .int .u8 p.a3, .int .u8 p.b0, .int .u8 p.b1, .int .u8 p.b2, .int .u8 p.b3, .string p.opts, .string p.data]] _ _
  have g0 : 0 ≤ p.pl / 8 := by omega
  have g1 : p.pl / 8 < 8192 := by omega
  have o1 := or_df (p.pl / 8) g0 g1
  have o2 := or_more (p.pl / 8) g0 g1
  have o3 := or_both (p.pl / 8) g0 g1
  unfold Pkt.place
  cases hd : p.df <;> cases hm : p.more
  all_goals
    clear hd hm
    go_enter Try.func61, Try.ntmps61
    go_wp2_with fail
    go_ret
    refine ⟨?_, (Below.refl _ _).alloc (Nat.le_refl _) _⟩
    simp
theorem bigc1 (x : Int) (w : World) (h0 : 0 ≤ x) (h1 : x < 256) :
    Calls Try.prog 60 #[.int .i64 x, .int .i64 1] w fun e w' => e = .returned (.string (strOfNums [x])) ∧ Below w.heap.size w w' := by
  have HB := Lib.hid (fun W => big_ok1 x W h0 h1 (noHigh _ _ h0 h1))
  clear h0 h1
  go_enter Try.func60, Try.ntmps60
  go_wp2_with fail
  refine (HB.out _).mono ?_
  rintro e w1 ⟨rfl, b1⟩
  have B1 := Lib.hid b1
  clear b1
  go_wp2_with fail
  go_ret
  exact ⟨rfl, B1.out⟩
theorem bigc2 (x : Int) (w : World) (h0 : 0 ≤ x) (h1 : x < 65536) :
    Calls Try.prog 60 #[.int .i64 x, .int .i64 2] w fun e w' => e = .returned (.string (strOfNums [x / 256, x % 256])) ∧ Below w.heap.size w w' := by
  have HB := Lib.hid (fun W => big_ok2 x W h0 h1 (noHigh _ _ h0 h1))
  clear h0 h1
  go_enter Try.func60, Try.ntmps60
  go_wp2_with fail
  refine (HB.out _).mono ?_
  rintro e w1 ⟨rfl, b1⟩
  have B1 := Lib.hid b1
  clear b1
  go_wp2_with fail
  go_ret
  exact ⟨rfl, B1.out⟩

/-- The four bytes of a packet's block from an offset on, as a text. -/
theorem PB.conv7 {w0 w : World} {B b : Nat} {p : Pkt} (h : PB w0 B b p w) : (convert 67 9 (.slice (some ⟨b, 7, none⟩) 4 4)).run Try.prog w = .ok (.string (strOfNums [p.a0, p.a1, p.a2, p.a3])) w := by
  refine run_convert_bytes_arg _ 67 5 Try.underlying67 Try.underlying5 b 7 4 4 [p.a0, p.a1, p.a2, p.a3] rfl (fun i hi => ?_) 9 Try.underlying9
  have h1 := h.1
  rcases i with _ | _ | _ | _ | i
  · exact h1.c 7 _ rfl
  · exact h1.c 8 _ rfl
  · exact h1.c 9 _ rfl
  · exact h1.c 10 _ rfl
  · omega
theorem PB.conv11 {w0 w : World} {B b : Nat} {p : Pkt} (h : PB w0 B b p w) : (convert 67 9 (.slice (some ⟨b, 11, none⟩) 4 4)).run Try.prog w = .ok (.string (strOfNums [p.b0, p.b1, p.b2, p.b3])) w := by
  refine run_convert_bytes_arg _ 67 5 Try.underlying67 Try.underlying5 b 11 4 4 [p.b0, p.b1, p.b2, p.b3] rfl (fun i hi => ?_) 9 Try.underlying9
  have h1 := h.1
  rcases i with _ | _ | _ | _ | i
  · exact h1.c 11 _ rfl
  · exact h1.c 12 _ rfl
  · exact h1.c 13 _ rfl
  · exact h1.c 14 _ rfl
  · omega
theorem PB.loads2 {w0 w : World} {B b : Nat} {p : Pkt} (h : PB w0 B b p w) : PB w0 B b p w ∧ w.rangeAt b 0 p.vals ∧ (convert 67 9 (.slice (some ⟨b, 7, none⟩) 4 4)).run Try.prog w = .ok (.string (strOfNums [p.a0, p.a1, p.a2, p.a3])) w ∧ (convert 67 9 (.slice (some ⟨b, 11, none⟩) 4 4)).run Try.prog w = .ok (.string (strOfNums [p.b0, p.b1, p.b2, p.b3])) w ∧ w.cell? ⟨b, 0, none⟩ = some (.int .i64 p.tos) ∧ w.cell? ⟨b, 1, none⟩ = some (.int .i64 p.id) ∧ w.cell? ⟨b, 2, none⟩ = some (.int .i64 p.ttl) ∧ w.cell? ⟨b, 3, none⟩ = some (.int .i64 p.proto) ∧ w.cell? ⟨b, 4, none⟩ = some (.int .i64 p.pl) ∧ w.cell? ⟨b, 5, none⟩ = some (.bool p.df) ∧ w.cell? ⟨b, 6, none⟩ = some (.bool p.more) ∧ w.cell? ⟨b, 7, none⟩ = some (.int .u8 p.a0) ∧ w.cell? ⟨b, 8, none⟩ = some (.int .u8 p.a1) ∧ w.cell? ⟨b, 9, none⟩ = some (.int .u8 p.a2) ∧ w.cell? ⟨b, 10, none⟩ = some (.int .u8 p.a3) ∧ w.cell? ⟨b, 11, none⟩ = some (.int .u8 p.b0) ∧ w.cell? ⟨b, 12, none⟩ = some (.int .u8 p.b1) ∧ w.cell? ⟨b, 13, none⟩ = some (.int .u8 p.b2) ∧ w.cell? ⟨b, 14, none⟩ = some (.int .u8 p.b3) ∧ w.cell? ⟨b, 15, none⟩ = some (.string p.opts) ∧ w.cell? ⟨b, 16, none⟩ = some (.string p.data) := ⟨h, h.rng, h.conv7, h.conv11, h.cs⟩

/-- A packet's head, with what stands in its sum's place. -/
def Pkt.headB (p : Pkt) (s : Int) : ByteArray :=
  strOfNums [64 + (20 + p.opts.size : Int) / 4] ++ strOfNums [p.tos] ++ strOfNums [(20 + p.opts.size + p.data.size : Int) / 256, (20 + p.opts.size + p.data.size : Int) % 256] ++ strOfNums [p.id / 256, p.id % 256] ++ strOfNums [p.place / 256, p.place % 256] ++ strOfNums [p.ttl] ++ strOfNums [p.proto] ++ strOfNums [s / 256, s % 256] ++ strOfNums [p.a0, p.a1, p.a2, p.a3] ++ strOfNums [p.b0, p.b1, p.b2, p.b3] ++ p.opts

set_option maxRecDepth 100000 in
set_option maxHeartbeats 1000000 in
theorem head_any (p : Pkt) (s : Int) (w : World) (hb : p.bnd = true) (ho : p.opts.size ≤ 40) (hd : 20 + p.opts.size + p.data.size ≤ 65535) (hs0 : 0 ≤ s) (hs1 : s ≤ 65535) :
    Calls Try.prog 40 #[.agg p.vals.toArray, .int .i64 s] w fun e w' => e = .returned (.string (p.headB s)) ∧ Below w.heap.size w w' := by
  obtain ⟨t0, t1, l0, l1, r0, r1, i0, i1, p0, p1, _⟩ := bnd_pl hb
  obtain ⟨q0, q1⟩ := place_lt p0 p1
  have HF : Hid (p.headB s = strOfNums [64 + (20 + p.opts.size : Int) / 4] ++ strOfNums [p.tos] ++ strOfNums [(20 + p.opts.size + p.data.size : Int) / 256, (20 + p.opts.size + p.data.size : Int) % 256] ++ strOfNums [p.id / 256, p.id % 256] ++ strOfNums [p.place / 256, p.place % 256] ++ strOfNums [p.ttl] ++ strOfNums [p.proto] ++ strOfNums [s / 256, s % 256] ++ strOfNums [p.a0, p.a1, p.a2, p.a3] ++ strOfNums [p.b0, p.b1, p.b2, p.b3] ++ p.opts) := Lib.hid rfl
  have HW := Lib.hid (fun W => placeWord_any p W p0 p1)
  have A1 := Lib.hid (fun W => bigc1 (64 + (20 + p.opts.size : Int) / 4) W (by omega) (by omega))
  have A2 := Lib.hid (fun W => bigc1 p.tos W t0 (by omega))
  have A3 := Lib.hid (fun W => bigc2 (20 + p.opts.size + p.data.size : Int) W (by omega) (by omega))
  have A4 := Lib.hid (fun W => bigc2 p.id W i0 (by omega))
  have A5 := Lib.hid (fun W => bigc2 p.place W q0 (by omega))
  have A6 := Lib.hid (fun W => bigc1 p.ttl W l0 (by omega))
  have A7 := Lib.hid (fun W => bigc1 p.proto W r0 (by omega))
  have A8 := Lib.hid (fun W => bigc2 s W hs0 (by omega))
  clear hb t0 t1 l0 l1 r0 r1 i0 i1 p0 p1 q0 q1 hs0 hs1
  have hP0 := PB.new w p
  have HP0 := Lib.hid hP0
  have hr := hP0.rng
  have hz : p.opts.size ≤ 70000 := by omega
  clear hP0
  go_enter Try.func40, Try.ntmps40
  go_wp2_with (refine wpList_load_mid rfl 25 _ rfl _ 0 rfl p.vals _ hr Try.underlying25 rfl (Try.infoIp p) ?_)
  refine (headLength_any p _ hz).mono ?_
  rintro e w1 ⟨rfl, b1⟩
  have HP := Lib.hid (HP0.out.below b1 (Nat.le_refl _))
  clear b1 hr HP0
  go_wp2_with fail
  have k1 : IntKind.i64.wrap (20 + (p.opts.size : Int) + (p.data.size : Int)) = 20 + (p.opts.size : Int) + (p.data.size : Int) := IntWalk.i64_in _ (by omega)
  have k3 : (20 + (p.opts.size : Int)).tdiv 4 = (20 + (p.opts.size : Int)) / 4 := Int.tdiv_eq_ediv_of_nonneg (by omega)
  have k4 : IntKind.i64.wrap ((20 + (p.opts.size : Int)) / 4) = (20 + (p.opts.size : Int)) / 4 := IntWalk.i64_in _ (by omega)
  have k5 : IntKind.i64.wrap (64 + (20 + (p.opts.size : Int)) / 4) = 64 + (20 + (p.opts.size : Int)) / 4 := IntWalk.i64_in _ (by omega)
  have zc := cat_len
  have zs := fun x : Int => (show (strOfNums [x]).size = 1 from rfl)
  have zd := fun x y : Int => (show (strOfNums [x, y]).size = 2 from rfl)
  have zq := fun x y z t : Int => (show (strOfNums [x, y, z, t]).size = 4 from rfl)
  have zo : ¬ 9223372036854775807 < 20 + p.opts.size := by omega
  obtain ⟨B, hBd⟩ : ∃ B, B = w.heap.size := ⟨_, rfl⟩
  have hP' : PB w B w.heap.size p w1 := by rw [hBd]; exact HP.out
  have HBd := Lib.hid hBd
  clear HP hBd ho hd hz
  generalize w.heap.size = b at hP'
  refine wp_region_noPanic ?_
  refine wp_region_held_drew (S := fun w' => PB w B b p w' ∧ w'.rangeAt b 0 p.vals ∧ (convert 67 9 (.slice (some ⟨b, 7, none⟩) 4 4)).run Try.prog w' = .ok (.string (strOfNums [p.a0, p.a1, p.a2, p.a3])) w' ∧ (convert 67 9 (.slice (some ⟨b, 11, none⟩) 4 4)).run Try.prog w' = .ok (.string (strOfNums [p.b0, p.b1, p.b2, p.b3])) w' ∧ w'.cell? ⟨b, 0, none⟩ = some (.int .i64 p.tos) ∧ w'.cell? ⟨b, 1, none⟩ = some (.int .i64 p.id) ∧ w'.cell? ⟨b, 2, none⟩ = some (.int .i64 p.ttl) ∧ w'.cell? ⟨b, 3, none⟩ = some (.int .i64 p.proto) ∧ w'.cell? ⟨b, 4, none⟩ = some (.int .i64 p.pl) ∧ w'.cell? ⟨b, 5, none⟩ = some (.bool p.df) ∧ w'.cell? ⟨b, 6, none⟩ = some (.bool p.more) ∧ w'.cell? ⟨b, 7, none⟩ = some (.int .u8 p.a0) ∧ w'.cell? ⟨b, 8, none⟩ = some (.int .u8 p.a1) ∧ w'.cell? ⟨b, 9, none⟩ = some (.int .u8 p.a2) ∧ w'.cell? ⟨b, 10, none⟩ = some (.int .u8 p.a3) ∧ w'.cell? ⟨b, 11, none⟩ = some (.int .u8 p.b0) ∧ w'.cell? ⟨b, 12, none⟩ = some (.int .u8 p.b1) ∧ w'.cell? ⟨b, 13, none⟩ = some (.int .u8 p.b2) ∧ w'.cell? ⟨b, 14, none⟩ = some (.int .u8 p.b3) ∧ w'.cell? ⟨b, 15, none⟩ = some (.string p.opts) ∧ w'.cell? ⟨b, 16, none⟩ = some (.string p.data)) (by kernel_rfl) ((PB.below hP' ((Below.refl w1.heap.size w1).drew) (Nat.le_refl _)).loads2) (fun hHeld => ?_)
  refine wpAnyH_take (i := 0) (oi := { dst := some 8, op := Op.move (Operand.tmp 5), type := 3, pos := "ip4.go:74", after := #[], guard := none }) (v := ?_) rfl (by kernel_rfl) (by kernel_rfl) (by kernel_rfl) (fun _ _ _ h => h) (Or.inl ⟨by rfl, ?_⟩) (by assumption) ?_
  rotate_left
  · (intro ww hSw; (try dsimp only at hSw); go_simp; try with_reducible rfl)
  (try simp only [Act.put, List.setIfInBounds_toArray, List.set_cons_zero, List.set_cons_succ])
  refine wpAnyH_take (i := 1) (oi := { dst := some 9, op := Op.binOp BinOp.quo 3 (Operand.tmp 8) (Operand.const (Value.int IntKind.i64 4)) 3, type := 3, pos := "ip4.go:74", after := #[{ on := 0, ground := Ground.data }], guard := none }) (v := ?_) rfl (by kernel_rfl) (by kernel_rfl) (by kernel_rfl) (fun _ _ _ h => h) (Or.inl ⟨by rfl, ?_⟩) (by assumption) ?_
  rotate_left
  · (intro ww hSw; (try dsimp only at hSw); go_simp; try with_reducible rfl)
  (try simp only [Act.put, List.setIfInBounds_toArray, List.set_cons_zero, List.set_cons_succ])
  refine wpAnyH_take (i := 2) (oi := { dst := some 10, op := Op.binOp BinOp.add 3 (Operand.const (Value.int IntKind.i64 64)) (Operand.tmp 9) 3, type := 3, pos := "ip4.go:74", after := #[{ on := 1, ground := Ground.data }], guard := none }) (v := ?_) rfl (by kernel_rfl) (by kernel_rfl) (by kernel_rfl) (fun _ _ _ h => h) (Or.inl ⟨by rfl, ?_⟩) (by assumption) ?_
  rotate_left
  · (intro ww hSw; (try dsimp only at hSw); go_simp; try with_reducible rfl)
  (try simp only [Act.put, List.setIfInBounds_toArray, List.set_cons_zero, List.set_cons_succ])
  refine wpAnyH_take (i := 4) (oi := { dst := some 12, op := Op.fieldAddr 25 (Operand.tmp 2) 0, type := 0, pos := "ip4.go:74", after := #[], guard := none }) (v := ?_) rfl (by kernel_rfl) (by kernel_rfl) (by kernel_rfl) (fun _ _ _ h => h) (Or.inl ⟨by rfl, ?_⟩) (by assumption) ?_
  rotate_left
  · (intro ww hSw; (try dsimp only at hSw); go_simp; try with_reducible rfl)
  (try simp only [Act.put, List.setIfInBounds_toArray, List.set_cons_zero, List.set_cons_succ])
  refine wpAnyH_take (i := 5) (oi := { dst := some 13, op := Op.load 3 (Operand.tmp 12), type := 3, pos := "ip4.go:74", after := #[{ on := 4, ground := Ground.data }], guard := none }) (v := ?_) rfl (by kernel_rfl) (by kernel_rfl) (by kernel_rfl) (fun _ _ _ h => h) (Or.inl ⟨by rfl, ?_⟩) (by assumption) ?_
  rotate_left
  · (intro ww hSw; (try dsimp only at hSw); go_simp; try with_reducible rfl)
  (try simp only [Act.put, List.setIfInBounds_toArray, List.set_cons_zero, List.set_cons_succ])
  refine wpAnyH_take (i := 8) (oi := { dst := some 16, op := Op.move (Operand.tmp 5), type := 3, pos := "ip4.go:74", after := #[], guard := none }) (v := ?_) rfl (by kernel_rfl) (by kernel_rfl) (by kernel_rfl) (fun _ _ _ h => h) (Or.inl ⟨by rfl, ?_⟩) (by assumption) ?_
  rotate_left
  · (intro ww hSw; (try dsimp only at hSw); go_simp; try with_reducible rfl)
  (try simp only [Act.put, List.setIfInBounds_toArray, List.set_cons_zero, List.set_cons_succ])
  refine wpAnyH_take (i := 9) (oi := { dst := some 17, op := Op.fieldAddr 25 (Operand.tmp 2) 10, type := 0, pos := "ip4.go:74", after := #[], guard := none }) (v := ?_) rfl (by kernel_rfl) (by kernel_rfl) (by kernel_rfl) (fun _ _ _ h => h) (Or.inl ⟨by rfl, ?_⟩) (by assumption) ?_
  rotate_left
  · (intro ww hSw; (try dsimp only at hSw); go_simp; try with_reducible rfl)
  (try simp only [Act.put, List.setIfInBounds_toArray, List.set_cons_zero, List.set_cons_succ])
  refine wpAnyH_take (i := 10) (oi := { dst := some 18, op := Op.load 9 (Operand.tmp 17), type := 9, pos := "ip4.go:74", after := #[{ on := 9, ground := Ground.data }], guard := none }) (v := ?_) rfl (by kernel_rfl) (by kernel_rfl) (by kernel_rfl) (fun _ _ _ h => h) (Or.inl ⟨by rfl, ?_⟩) (by assumption) ?_
  rotate_left
  · (intro ww hSw; (try dsimp only at hSw); go_simp; try with_reducible rfl)
  (try simp only [Act.put, List.setIfInBounds_toArray, List.set_cons_zero, List.set_cons_succ])
  refine wpAnyH_take (i := 11) (oi := { dst := some 19, op := Op.call { callee := Callee.builtin Builtin.len, args := #[Operand.tmp 18], argTypes := #[9] }, type := 3, pos := "ip4.go:74", after := #[{ on := 10, ground := Ground.data }], guard := none }) (v := ?_) rfl (by kernel_rfl) (by kernel_rfl) (by kernel_rfl) (fun _ _ _ h => h) (Or.inl ⟨by rfl, ?_⟩) (by assumption) ?_
  rotate_left
  · (intro ww hSw; (try dsimp only at hSw); go_simp; try with_reducible rfl)
  (try simp only [Act.put, List.setIfInBounds_toArray, List.set_cons_zero, List.set_cons_succ])
  refine wpAnyH_take (i := 12) (oi := { dst := some 20, op := Op.binOp BinOp.add 3 (Operand.tmp 16) (Operand.tmp 19) 3, type := 3, pos := "ip4.go:74", after := #[{ on := 8, ground := Ground.data }, { on := 11, ground := Ground.data }], guard := none }) (v := ?_) rfl (by kernel_rfl) (by kernel_rfl) (by kernel_rfl) (fun _ _ _ h => h) (Or.inl ⟨by rfl, ?_⟩) (by assumption) ?_
  rotate_left
  · (intro ww hSw; (try dsimp only at hSw); go_simp; try with_reducible rfl)
  (try simp only [Act.put, List.setIfInBounds_toArray, List.set_cons_zero, List.set_cons_succ])
  refine wpAnyH_take (i := 15) (oi := { dst := some 23, op := Op.fieldAddr 25 (Operand.tmp 2) 1, type := 0, pos := "ip4.go:74", after := #[], guard := none }) (v := ?_) rfl (by kernel_rfl) (by kernel_rfl) (by kernel_rfl) (fun _ _ _ h => h) (Or.inl ⟨by rfl, ?_⟩) (by assumption) ?_
  rotate_left
  · (intro ww hSw; (try dsimp only at hSw); go_simp; try with_reducible rfl)
  (try simp only [Act.put, List.setIfInBounds_toArray, List.set_cons_zero, List.set_cons_succ])
  refine wpAnyH_take (i := 16) (oi := { dst := some 24, op := Op.load 3 (Operand.tmp 23), type := 3, pos := "ip4.go:74", after := #[{ on := 15, ground := Ground.data }], guard := none }) (v := ?_) rfl (by kernel_rfl) (by kernel_rfl) (by kernel_rfl) (fun _ _ _ h => h) (Or.inl ⟨by rfl, ?_⟩) (by assumption) ?_
  rotate_left
  · (intro ww hSw; (try dsimp only at hSw); go_simp; try with_reducible rfl)
  (try simp only [Act.put, List.setIfInBounds_toArray, List.set_cons_zero, List.set_cons_succ])
  refine wpAnyH_take (i := 19) (oi := { dst := some 27, op := Op.load 25 (Operand.tmp 2), type := 25, pos := "ip4.go:74", after := #[], guard := none }) (v := .agg (p.vals).toArray) rfl (by kernel_rfl) (by kernel_rfl) (by kernel_rfl) (fun _ _ _ h => h) (yieldsIf_load_mid (by rfl) _ _ rfl (b) 0 rfl (p.vals) _ (fun ww hSw => hSw.2.1) Try.underlying25 rfl (Try.infoIp p)) (by assumption) ?_
  (try simp only [Act.put, List.setIfInBounds_toArray, List.set_cons_zero, List.set_cons_succ])
  refine wpAnyH_take (i := 23) (oi := { dst := some 31, op := Op.fieldAddr 25 (Operand.tmp 2) 2, type := 0, pos := "ip4.go:74", after := #[], guard := none }) (v := ?_) rfl (by kernel_rfl) (by kernel_rfl) (by kernel_rfl) (fun _ _ _ h => h) (Or.inl ⟨by rfl, ?_⟩) (by assumption) ?_
  rotate_left
  · (intro ww hSw; (try dsimp only at hSw); go_simp; try with_reducible rfl)
  (try simp only [Act.put, List.setIfInBounds_toArray, List.set_cons_zero, List.set_cons_succ])
  refine wpAnyH_take (i := 24) (oi := { dst := some 32, op := Op.load 3 (Operand.tmp 31), type := 3, pos := "ip4.go:74", after := #[{ on := 23, ground := Ground.data }], guard := none }) (v := ?_) rfl (by kernel_rfl) (by kernel_rfl) (by kernel_rfl) (fun _ _ _ h => h) (Or.inl ⟨by rfl, ?_⟩) (by assumption) ?_
  rotate_left
  · (intro ww hSw; (try dsimp only at hSw); go_simp; try with_reducible rfl)
  (try simp only [Act.put, List.setIfInBounds_toArray, List.set_cons_zero, List.set_cons_succ])
  refine wpAnyH_take (i := 27) (oi := { dst := some 35, op := Op.fieldAddr 25 (Operand.tmp 2) 3, type := 0, pos := "ip4.go:74", after := #[], guard := none }) (v := ?_) rfl (by kernel_rfl) (by kernel_rfl) (by kernel_rfl) (fun _ _ _ h => h) (Or.inl ⟨by rfl, ?_⟩) (by assumption) ?_
  rotate_left
  · (intro ww hSw; (try dsimp only at hSw); go_simp; try with_reducible rfl)
  (try simp only [Act.put, List.setIfInBounds_toArray, List.set_cons_zero, List.set_cons_succ])
  refine wpAnyH_take (i := 28) (oi := { dst := some 36, op := Op.load 3 (Operand.tmp 35), type := 3, pos := "ip4.go:74", after := #[{ on := 27, ground := Ground.data }], guard := none }) (v := ?_) rfl (by kernel_rfl) (by kernel_rfl) (by kernel_rfl) (fun _ _ _ h => h) (Or.inl ⟨by rfl, ?_⟩) (by assumption) ?_
  rotate_left
  · (intro ww hSw; (try dsimp only at hSw); go_simp; try with_reducible rfl)
  (try simp only [Act.put, List.setIfInBounds_toArray, List.set_cons_zero, List.set_cons_succ])
  refine wpAnyH_take (i := 31) (oi := { dst := some 39, op := Op.move (Operand.tmp 1), type := 3, pos := "ip4.go:74", after := #[], guard := none }) (v := ?_) rfl (by kernel_rfl) (by kernel_rfl) (by kernel_rfl) (fun _ _ _ h => h) (Or.inl ⟨by rfl, ?_⟩) (by assumption) ?_
  rotate_left
  · (intro ww hSw; (try dsimp only at hSw); go_simp; try with_reducible rfl)
  (try simp only [Act.put, List.setIfInBounds_toArray, List.set_cons_zero, List.set_cons_succ])
  refine wpAnyH_take (i := 34) (oi := { dst := some 42, op := Op.fieldAddr 25 (Operand.tmp 2) 7, type := 0, pos := "ip4.go:74", after := #[], guard := none }) (v := ?_) rfl (by kernel_rfl) (by kernel_rfl) (by kernel_rfl) (fun _ _ _ h => h) (Or.inl ⟨by rfl, ?_⟩) (by assumption) ?_
  rotate_left
  · (intro ww hSw; (try dsimp only at hSw); go_simp; try with_reducible rfl)
  (try simp only [Act.put, List.setIfInBounds_toArray, List.set_cons_zero, List.set_cons_succ])
  refine wpAnyH_take (i := 35) (oi := { dst := some 43, op := Op.slice 23 (Operand.tmp 42) none none none, type := 67, pos := "ip4.go:74", after := #[{ on := 34, ground := Ground.data }], guard := none }) (v := ?_) rfl (by kernel_rfl) (by kernel_rfl) (by kernel_rfl) (fun _ _ _ h => h) (Or.inl ⟨by rfl, ?_⟩) (by assumption) ?_
  rotate_left
  · (intro ww hSw; (try dsimp only at hSw); go_simp; try with_reducible rfl)
  (try simp only [Act.put, List.setIfInBounds_toArray, List.set_cons_zero, List.set_cons_succ])
  refine wpAnyH_take (i := 36) (oi := { dst := some 44, op := Op.convert 67 9 (Operand.tmp 43), type := 9, pos := "ip4.go:74", after := #[{ on := 35, ground := Ground.data }], guard := none }) (v := ?_) rfl (by kernel_rfl) (by kernel_rfl) (by kernel_rfl) (fun _ _ _ h => h) (Or.inl ⟨by rfl, ?_⟩) (by assumption) ?_
  rotate_left
  · (intro ww hSw; (try dsimp only at hSw); go_simp; try with_reducible rfl)
  (try simp only [Act.put, List.setIfInBounds_toArray, List.set_cons_zero, List.set_cons_succ])
  refine wpAnyH_take (i := 38) (oi := { dst := some 46, op := Op.fieldAddr 25 (Operand.tmp 2) 8, type := 0, pos := "ip4.go:74", after := #[], guard := none }) (v := ?_) rfl (by kernel_rfl) (by kernel_rfl) (by kernel_rfl) (fun _ _ _ h => h) (Or.inl ⟨by rfl, ?_⟩) (by assumption) ?_
  rotate_left
  · (intro ww hSw; (try dsimp only at hSw); go_simp; try with_reducible rfl)
  (try simp only [Act.put, List.setIfInBounds_toArray, List.set_cons_zero, List.set_cons_succ])
  refine wpAnyH_take (i := 39) (oi := { dst := some 47, op := Op.slice 23 (Operand.tmp 46) none none none, type := 67, pos := "ip4.go:74", after := #[{ on := 38, ground := Ground.data }], guard := none }) (v := ?_) rfl (by kernel_rfl) (by kernel_rfl) (by kernel_rfl) (fun _ _ _ h => h) (Or.inl ⟨by rfl, ?_⟩) (by assumption) ?_
  rotate_left
  · (intro ww hSw; (try dsimp only at hSw); go_simp; try with_reducible rfl)
  (try simp only [Act.put, List.setIfInBounds_toArray, List.set_cons_zero, List.set_cons_succ])
  refine wpAnyH_take (i := 40) (oi := { dst := some 48, op := Op.convert 67 9 (Operand.tmp 47), type := 9, pos := "ip4.go:74", after := #[{ on := 39, ground := Ground.data }], guard := none }) (v := ?_) rfl (by kernel_rfl) (by kernel_rfl) (by kernel_rfl) (fun _ _ _ h => h) (Or.inl ⟨by rfl, ?_⟩) (by assumption) ?_
  rotate_left
  · (intro ww hSw; (try dsimp only at hSw); go_simp; try with_reducible rfl)
  (try simp only [Act.put, List.setIfInBounds_toArray, List.set_cons_zero, List.set_cons_succ])
  refine wpAnyH_take (i := 42) (oi := { dst := some 50, op := Op.fieldAddr 25 (Operand.tmp 2) 9, type := 0, pos := "ip4.go:74", after := #[], guard := none }) (v := ?_) rfl (by kernel_rfl) (by kernel_rfl) (by kernel_rfl) (fun _ _ _ h => h) (Or.inl ⟨by rfl, ?_⟩) (by assumption) ?_
  rotate_left
  · (intro ww hSw; (try dsimp only at hSw); go_simp; try with_reducible rfl)
  (try simp only [Act.put, List.setIfInBounds_toArray, List.set_cons_zero, List.set_cons_succ])
  refine wpAnyH_take (i := 43) (oi := { dst := some 51, op := Op.load 9 (Operand.tmp 50), type := 9, pos := "ip4.go:74", after := #[{ on := 42, ground := Ground.data }], guard := none }) (v := ?_) rfl (by kernel_rfl) (by kernel_rfl) (by kernel_rfl) (fun _ _ _ h => h) (Or.inl ⟨by rfl, ?_⟩) (by assumption) ?_
  rotate_left
  · (intro ww hSw; (try dsimp only at hSw); go_simp; try with_reducible rfl)
  (try simp only [Act.put, List.setIfInBounds_toArray, List.set_cons_zero, List.set_cons_succ])
  refine wpAnyH_ready (rs := [3]) (by kernel_rfl) (by simp) ?_
  refine AllReadyH.cons (o := { dst := some 11, op := Op.call { callee := Callee.value (Operand.func 60), args := #[Operand.tmp 10, Operand.const (Value.int IntKind.i64 1)], argTypes := #[3, 3] }, type := 9, pos := "ip4.go:74", after := #[{ on := 2, ground := Ground.data }], guard := none }) rfl (fun K hK => ?_) AllReadyH.nil
  go_simp
  ((with_reducible refine (A1.out _).mono ?_); rintro e w9 ⟨rfl, hb9⟩)
  refine hK.out _ _ ((PB.below (And.left hHeld) hb9 (Nat.le_refl _)).loads2) (fun hHeld => ?_)
  clear hK K
  (try simp only [Act.put, List.setIfInBounds_toArray, List.set_cons_zero, List.set_cons_succ])
  refine wpAnyH_ready (rs := [6]) (by kernel_rfl) (by simp) ?_
  refine AllReadyH.cons (o := { dst := some 14, op := Op.call { callee := Callee.value (Operand.func 60), args := #[Operand.tmp 13, Operand.const (Value.int IntKind.i64 1)], argTypes := #[3, 3] }, type := 9, pos := "ip4.go:74", after := #[{ on := 5, ground := Ground.data }, { on := 3, ground := Ground.chain }], guard := none }) rfl (fun K hK => ?_) AllReadyH.nil
  go_simp
  ((with_reducible refine (A2.out _).mono ?_); rintro e w9 ⟨rfl, hb9⟩)
  refine hK.out _ _ ((PB.below (And.left hHeld) hb9 (Nat.le_refl _)).loads2) (fun hHeld => ?_)
  clear hK K
  (try simp only [Act.put, List.setIfInBounds_toArray, List.set_cons_zero, List.set_cons_succ])
  refine wpAnyH_take (i := 7) (oi := { dst := some 15, op := Op.binOp BinOp.add 9 (Operand.tmp 11) (Operand.tmp 14) 9, type := 9, pos := "ip4.go:74", after := #[{ on := 3, ground := Ground.data }, { on := 6, ground := Ground.data }], guard := none }) (v := ?_) rfl (by kernel_rfl) (by kernel_rfl) (by kernel_rfl) (fun _ _ _ h => h) (Or.inl ⟨by rfl, ?_⟩) (by assumption) ?_
  rotate_left
  · (intro ww hSw; (try dsimp only at hSw); go_simp; try with_reducible rfl)
  (try simp only [Act.put, List.setIfInBounds_toArray, List.set_cons_zero, List.set_cons_succ])
  refine wpAnyH_ready (rs := [13]) (by kernel_rfl) (by simp) ?_
  refine AllReadyH.cons (o := { dst := some 21, op := Op.call { callee := Callee.value (Operand.func 60), args := #[Operand.tmp 20, Operand.const (Value.int IntKind.i64 2)], argTypes := #[3, 3] }, type := 9, pos := "ip4.go:74", after := #[{ on := 12, ground := Ground.data }, { on := 6, ground := Ground.chain }], guard := none }) rfl (fun K hK => ?_) AllReadyH.nil
  go_simp
  ((with_reducible refine (A3.out _).mono ?_); rintro e w9 ⟨rfl, hb9⟩)
  refine hK.out _ _ ((PB.below (And.left hHeld) hb9 (Nat.le_refl _)).loads2) (fun hHeld => ?_)
  clear hK K
  (try simp only [Act.put, List.setIfInBounds_toArray, List.set_cons_zero, List.set_cons_succ])
  refine wpAnyH_take (i := 14) (oi := { dst := some 22, op := Op.binOp BinOp.add 9 (Operand.tmp 15) (Operand.tmp 21) 9, type := 9, pos := "ip4.go:74", after := #[{ on := 7, ground := Ground.data }, { on := 13, ground := Ground.data }], guard := none }) (v := ?_) rfl (by kernel_rfl) (by kernel_rfl) (by kernel_rfl) (fun _ _ _ h => h) (Or.inl ⟨by rfl, ?_⟩) (by assumption) ?_
  rotate_left
  · (intro ww hSw; (try dsimp only at hSw); go_simp; try with_reducible rfl)
  (try simp only [Act.put, List.setIfInBounds_toArray, List.set_cons_zero, List.set_cons_succ])
  refine wpAnyH_ready (rs := [17]) (by kernel_rfl) (by simp) ?_
  refine AllReadyH.cons (o := { dst := some 25, op := Op.call { callee := Callee.value (Operand.func 60), args := #[Operand.tmp 24, Operand.const (Value.int IntKind.i64 2)], argTypes := #[3, 3] }, type := 9, pos := "ip4.go:75", after := #[{ on := 16, ground := Ground.data }, { on := 13, ground := Ground.chain }], guard := none }) rfl (fun K hK => ?_) AllReadyH.nil
  go_simp
  ((with_reducible refine (A4.out _).mono ?_); rintro e w9 ⟨rfl, hb9⟩)
  refine hK.out _ _ ((PB.below (And.left hHeld) hb9 (Nat.le_refl _)).loads2) (fun hHeld => ?_)
  clear hK K
  (try simp only [Act.put, List.setIfInBounds_toArray, List.set_cons_zero, List.set_cons_succ])
  refine wpAnyH_take (i := 18) (oi := { dst := some 26, op := Op.binOp BinOp.add 9 (Operand.tmp 22) (Operand.tmp 25) 9, type := 9, pos := "ip4.go:74", after := #[{ on := 14, ground := Ground.data }, { on := 17, ground := Ground.data }], guard := none }) (v := ?_) rfl (by kernel_rfl) (by kernel_rfl) (by kernel_rfl) (fun _ _ _ h => h) (Or.inl ⟨by rfl, ?_⟩) (by assumption) ?_
  rotate_left
  · (intro ww hSw; (try dsimp only at hSw); go_simp; try with_reducible rfl)
  (try simp only [Act.put, List.setIfInBounds_toArray, List.set_cons_zero, List.set_cons_succ])
  refine wpAnyH_ready (rs := [20]) (by kernel_rfl) (by simp) ?_
  refine AllReadyH.cons (o := { dst := some 28, op := Op.call { callee := Callee.value (Operand.func 61), args := #[Operand.tmp 27], argTypes := #[25] }, type := 3, pos := "ip4.go:75", after := #[{ on := 19, ground := Ground.data }, { on := 17, ground := Ground.chain }], guard := none }) rfl (fun K hK => ?_) AllReadyH.nil
  go_simp
  ((with_reducible refine (HW.out _).mono ?_); rintro e w9 ⟨rfl, hb9⟩)
  refine hK.out _ _ ((PB.below (And.left hHeld) hb9 (Nat.le_refl _)).loads2) (fun hHeld => ?_)
  clear hK K
  (try simp only [Act.put, List.setIfInBounds_toArray, List.set_cons_zero, List.set_cons_succ])
  refine wpAnyH_ready (rs := [21]) (by kernel_rfl) (by simp) ?_
  refine AllReadyH.cons (o := { dst := some 29, op := Op.call { callee := Callee.value (Operand.func 60), args := #[Operand.tmp 28, Operand.const (Value.int IntKind.i64 2)], argTypes := #[3, 3] }, type := 9, pos := "ip4.go:75", after := #[{ on := 20, ground := Ground.data }, { on := 20, ground := Ground.chain }], guard := none }) rfl (fun K hK => ?_) AllReadyH.nil
  go_simp
  ((with_reducible refine (A5.out _).mono ?_); rintro e w9 ⟨rfl, hb9⟩)
  refine hK.out _ _ ((PB.below (And.left hHeld) hb9 (Nat.le_refl _)).loads2) (fun hHeld => ?_)
  clear hK K
  (try simp only [Act.put, List.setIfInBounds_toArray, List.set_cons_zero, List.set_cons_succ])
  refine wpAnyH_take (i := 22) (oi := { dst := some 30, op := Op.binOp BinOp.add 9 (Operand.tmp 26) (Operand.tmp 29) 9, type := 9, pos := "ip4.go:74", after := #[{ on := 18, ground := Ground.data }, { on := 21, ground := Ground.data }], guard := none }) (v := ?_) rfl (by kernel_rfl) (by kernel_rfl) (by kernel_rfl) (fun _ _ _ h => h) (Or.inl ⟨by rfl, ?_⟩) (by assumption) ?_
  rotate_left
  · (intro ww hSw; (try dsimp only at hSw); go_simp; try with_reducible rfl)
  (try simp only [Act.put, List.setIfInBounds_toArray, List.set_cons_zero, List.set_cons_succ])
  refine wpAnyH_ready (rs := [25]) (by kernel_rfl) (by simp) ?_
  refine AllReadyH.cons (o := { dst := some 33, op := Op.call { callee := Callee.value (Operand.func 60), args := #[Operand.tmp 32, Operand.const (Value.int IntKind.i64 1)], argTypes := #[3, 3] }, type := 9, pos := "ip4.go:76", after := #[{ on := 24, ground := Ground.data }, { on := 21, ground := Ground.chain }], guard := none }) rfl (fun K hK => ?_) AllReadyH.nil
  go_simp
  ((with_reducible refine (A6.out _).mono ?_); rintro e w9 ⟨rfl, hb9⟩)
  refine hK.out _ _ ((PB.below (And.left hHeld) hb9 (Nat.le_refl _)).loads2) (fun hHeld => ?_)
  clear hK K
  (try simp only [Act.put, List.setIfInBounds_toArray, List.set_cons_zero, List.set_cons_succ])
  refine wpAnyH_take (i := 26) (oi := { dst := some 34, op := Op.binOp BinOp.add 9 (Operand.tmp 30) (Operand.tmp 33) 9, type := 9, pos := "ip4.go:74", after := #[{ on := 22, ground := Ground.data }, { on := 25, ground := Ground.data }], guard := none }) (v := ?_) rfl (by kernel_rfl) (by kernel_rfl) (by kernel_rfl) (fun _ _ _ h => h) (Or.inl ⟨by rfl, ?_⟩) (by assumption) ?_
  rotate_left
  · (intro ww hSw; (try dsimp only at hSw); go_simp; try with_reducible rfl)
  (try simp only [Act.put, List.setIfInBounds_toArray, List.set_cons_zero, List.set_cons_succ])
  refine wpAnyH_ready (rs := [29]) (by kernel_rfl) (by simp) ?_
  refine AllReadyH.cons (o := { dst := some 37, op := Op.call { callee := Callee.value (Operand.func 60), args := #[Operand.tmp 36, Operand.const (Value.int IntKind.i64 1)], argTypes := #[3, 3] }, type := 9, pos := "ip4.go:76", after := #[{ on := 28, ground := Ground.data }, { on := 25, ground := Ground.chain }], guard := none }) rfl (fun K hK => ?_) AllReadyH.nil
  go_simp
  ((with_reducible refine (A7.out _).mono ?_); rintro e w9 ⟨rfl, hb9⟩)
  refine hK.out _ _ ((PB.below (And.left hHeld) hb9 (Nat.le_refl _)).loads2) (fun hHeld => ?_)
  clear hK K
  (try simp only [Act.put, List.setIfInBounds_toArray, List.set_cons_zero, List.set_cons_succ])
  refine wpAnyH_take (i := 30) (oi := { dst := some 38, op := Op.binOp BinOp.add 9 (Operand.tmp 34) (Operand.tmp 37) 9, type := 9, pos := "ip4.go:74", after := #[{ on := 26, ground := Ground.data }, { on := 29, ground := Ground.data }], guard := none }) (v := ?_) rfl (by kernel_rfl) (by kernel_rfl) (by kernel_rfl) (fun _ _ _ h => h) (Or.inl ⟨by rfl, ?_⟩) (by assumption) ?_
  rotate_left
  · (intro ww hSw; (try dsimp only at hSw); go_simp; try with_reducible rfl)
  (try simp only [Act.put, List.setIfInBounds_toArray, List.set_cons_zero, List.set_cons_succ])
  refine wpAnyH_ready (rs := [32]) (by kernel_rfl) (by simp) ?_
  refine AllReadyH.cons (o := { dst := some 40, op := Op.call { callee := Callee.value (Operand.func 60), args := #[Operand.tmp 39, Operand.const (Value.int IntKind.i64 2)], argTypes := #[3, 3] }, type := 9, pos := "ip4.go:76", after := #[{ on := 31, ground := Ground.data }, { on := 29, ground := Ground.chain }], guard := none }) rfl (fun K hK => ?_) AllReadyH.nil
  go_simp
  ((with_reducible refine (A8.out _).mono ?_); rintro e w9 ⟨rfl, hb9⟩)
  refine hK.out _ _ ((PB.below (And.left hHeld) hb9 (Nat.le_refl _)).loads2) (fun hHeld => ?_)
  clear hK K
  (try simp only [Act.put, List.setIfInBounds_toArray, List.set_cons_zero, List.set_cons_succ])
  refine wpAnyH_take (i := 33) (oi := { dst := some 41, op := Op.binOp BinOp.add 9 (Operand.tmp 38) (Operand.tmp 40) 9, type := 9, pos := "ip4.go:74", after := #[{ on := 30, ground := Ground.data }, { on := 32, ground := Ground.data }], guard := none }) (v := ?_) rfl (by kernel_rfl) (by kernel_rfl) (by kernel_rfl) (fun _ _ _ h => h) (Or.inl ⟨by rfl, ?_⟩) (by assumption) ?_
  rotate_left
  · (intro ww hSw; (try dsimp only at hSw); go_simp; try with_reducible rfl)
  (try simp only [Act.put, List.setIfInBounds_toArray, List.set_cons_zero, List.set_cons_succ])
  refine wpAnyH_take (i := 37) (oi := { dst := some 45, op := Op.binOp BinOp.add 9 (Operand.tmp 41) (Operand.tmp 44) 9, type := 9, pos := "ip4.go:74", after := #[{ on := 33, ground := Ground.data }, { on := 36, ground := Ground.data }], guard := none }) (v := ?_) rfl (by kernel_rfl) (by kernel_rfl) (by kernel_rfl) (fun _ _ _ h => h) (Or.inl ⟨by rfl, ?_⟩) (by assumption) ?_
  rotate_left
  · (intro ww hSw; (try dsimp only at hSw); go_simp; try with_reducible rfl)
  (try simp only [Act.put, List.setIfInBounds_toArray, List.set_cons_zero, List.set_cons_succ])
  refine wpAnyH_take (i := 41) (oi := { dst := some 49, op := Op.binOp BinOp.add 9 (Operand.tmp 45) (Operand.tmp 48) 9, type := 9, pos := "ip4.go:74", after := #[{ on := 37, ground := Ground.data }, { on := 40, ground := Ground.data }], guard := none }) (v := ?_) rfl (by kernel_rfl) (by kernel_rfl) (by kernel_rfl) (fun _ _ _ h => h) (Or.inl ⟨by rfl, ?_⟩) (by assumption) ?_
  rotate_left
  · (intro ww hSw; (try dsimp only at hSw); go_simp; try with_reducible rfl)
  (try simp only [Act.put, List.setIfInBounds_toArray, List.set_cons_zero, List.set_cons_succ])
  refine wpAnyH_take (i := 44) (oi := { dst := some 52, op := Op.binOp BinOp.add 9 (Operand.tmp 49) (Operand.tmp 51) 9, type := 9, pos := "ip4.go:74", after := #[{ on := 41, ground := Ground.data }, { on := 43, ground := Ground.data }], guard := none }) (v := ?_) rfl (by kernel_rfl) (by kernel_rfl) (by kernel_rfl) (fun _ _ _ h => h) (Or.inl ⟨by rfl, ?_⟩) (by assumption) ?_
  rotate_left
  · (intro ww hSw; (try dsimp only at hSw); go_simp; try with_reducible rfl)
  (try simp only [Act.put, List.setIfInBounds_toArray, List.set_cons_zero, List.set_cons_succ])
  refine wpAnyH_take (i := 45) (oi := { dst := some 4, op := Op.assign (Operand.tmp 52), type := 9, pos := "ip4.go:74", after := #[{ on := 44, ground := Ground.data }, { on := 32, ground := Ground.chain }, { on := 0, ground := Ground.phase }, { on := 1, ground := Ground.phase }, { on := 2, ground := Ground.phase }, { on := 3, ground := Ground.phase }, { on := 4, ground := Ground.phase }, { on := 5, ground := Ground.phase }, { on := 6, ground := Ground.phase }, { on := 7, ground := Ground.phase }, { on := 8, ground := Ground.phase }, { on := 9, ground := Ground.phase }, { on := 10, ground := Ground.phase }, { on := 11, ground := Ground.phase }, { on := 12, ground := Ground.phase }, { on := 13, ground := Ground.phase }, { on := 14, ground := Ground.phase }, { on := 15, ground := Ground.phase }, { on := 16, ground := Ground.phase }, { on := 17, ground := Ground.phase }, { on := 18, ground := Ground.phase }, { on := 19, ground := Ground.phase }, { on := 20, ground := Ground.phase }, { on := 21, ground := Ground.phase }, { on := 22, ground := Ground.phase }, { on := 23, ground := Ground.phase }, { on := 24, ground := Ground.phase }, { on := 25, ground := Ground.phase }, { on := 26, ground := Ground.phase }, { on := 27, ground := Ground.phase }, { on := 28, ground := Ground.phase }, { on := 29, ground := Ground.phase }, { on := 30, ground := Ground.phase }, { on := 31, ground := Ground.phase }, { on := 32, ground := Ground.phase }, { on := 33, ground := Ground.phase }, { on := 34, ground := Ground.phase }, { on := 35, ground := Ground.phase }, { on := 36, ground := Ground.phase }, { on := 37, ground := Ground.phase }, { on := 38, ground := Ground.phase }, { on := 39, ground := Ground.phase }, { on := 40, ground := Ground.phase }, { on := 41, ground := Ground.phase }, { on := 42, ground := Ground.phase }, { on := 43, ground := Ground.phase }, { on := 44, ground := Ground.phase }], guard := none }) (v := ?_) rfl (by kernel_rfl) (by kernel_rfl) (by kernel_rfl) (fun _ _ _ h => h) (Or.inl ⟨by rfl, ?_⟩) (by assumption) ?_
  rotate_left
  · (intro ww hSw; (try dsimp only at hSw); go_simp; try with_reducible rfl)
  (try simp only [Act.put, List.setIfInBounds_toArray, List.set_cons_zero, List.set_cons_succ])
  refine wpAnyH_done (by kernel_rfl) ?_ _
  refine NoPanic.normal ?_
  have hf2 := (And.left hHeld).2.1
  rw [HBd.out] at hf2
  have HE := Lib.hid hf2
  clear hf2 hHeld k1 k3 k4 k5 zc zs zd zq zo hP'
  go_wp2_with fail
  go_ret
  rw [HF.out]
  exact ⟨rfl, HE.out⟩
end Go.Proofs.Ytkihhmnlefekoaa.P4
