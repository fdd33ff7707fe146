/-
  Proved here: what the document's Bytes answers.
  Conditions: none.
-/
import Derived.Test.YtjfkfeobmcnonaaFieldsPlain
import Derived.Test.YtjfkfeobmcnonaaLawKit
import Derived.Test.YtjfkfeobmcnonaaWhy
import Derived.Test.YtjfkfeobmcnonaaRefOf
import Derived.Lib.AppendStr
import Derived.Laws.AppendOwn
namespace Go.Proofs.Ytjfkfeobmcnonaa
open Go.RowKit

/-- Bytes as cells. -/
def bytV (l : List UInt8) : List Value := l.map fun c => Value.int .u8 (c.toNat : Int)
/-- A row of bytes that may be written. -/
def Byts (w : World) (g : Nat) (l : List UInt8) : Prop := ∀ j (h : j < l.length), w.cell? ⟨g, j, none⟩ = some (.int .u8 (l[j].toNat : Int)) ∧ w.frozen? ⟨g, j, none⟩ = false
theorem own_byts {w : World} {base n : Nat} {v : Value} {l : List UInt8} (h : w.ownsRow base 5 1 v n (bytV l)) (hn : 0 < n) : ∃ g cap, v = .slice (some ⟨g, 0, none⟩) n cap ∧ base ≤ g ∧ g < w.heap.size ∧ Byts w g l ∧ l.length = n := by
  obtain ⟨hl, ⟨_, h0⟩ | ⟨g, cap, cur, rfl, hb, hh, h3, h4, h5, h6⟩⟩ := h
  · omega
  · have hll : l.length = n := by simpa [bytV] using hl
    refine ⟨g, cap, rfl, hb, ?_, fun j hj => ⟨?_, ?_⟩, hll⟩
    · rcases Nat.lt_or_ge g w.heap.size with hlt | hge
      · exact hlt
      · rw [Array.getElem?_eq_none hge] at hh; cases hh
    · have hc : cur[j]? = some (.int .u8 (l[j].toNat : Int)) := by
        have e := congrArg (fun x : List Value => x[j]?) h6
        simp only [Nat.mul_one] at e
        rw [List.getElem?_take, if_pos (by omega)] at e
        have e2 : (bytV l)[j]? = some (.int .u8 (l[j].toNat : Int)) := by
          unfold bytV
          rw [List.getElem?_map, List.getElem?_eq_getElem hj]
          rfl
        rw [e2] at e
        simpa using e
      simp only [World.cell?, hh]
      exact hc
    · simp [World.frozen?, hh]
theorem byts_conv {w : World} {g : Nat} {l : List UInt8} (cap : Nat) (h : Byts w g l) (n : Nat) (hn : l.length = n) :
    (convert 45 9 (.slice (some ⟨g, 0, none⟩) n cap)).run Try.prog w = .ok (.string ⟨l.toArray⟩) w := by
  subst hn
  exact run_convert_bytes_back (P := Try.prog) w 45 9 5 ⟨g, 0, none⟩ cap l Try.underlying45 Try.underlying5 Try.underlying9 (fun j hj => by
    have e : (⟨g, 0, none⟩ : Addr).add j = ⟨g, j, none⟩ := by unfold Addr.add; split <;> simp_all
    rw [e]
    exact (h j hj).1)
theorem byts_set {w : World} {g : Nat} {l : List UInt8} (h : Byts w g l) (K : Nat) (y : UInt8) (hK : K < l.length) : Byts (w.setCell ⟨g, K, none⟩ (.int .u8 (y.toNat : Int))) g (l.set K y) := by
  intro j hj
  have hj' : j < l.length := by simpa using hj
  refine ⟨?_, ?_⟩
  · rw [List.getElem_set]
    split
    · rename_i hkj
      subst hkj
      exact World.cell?_setCell_same w ⟨g, K, none⟩ _ (h K hK).1
    · rename_i hkj
      rw [World.cell?_setCell_other w _ _ _ (fun he => hkj (by injection he))]
      exact (h j hj').1
  · rw [World.frozen?_setCell]
    exact (h j hj').2
theorem byts_below {w w' : World} {B g : Nat} {l : List UInt8} (h : Byts w g l) (hb : Below B w w') (hg : g < B) : Byts w' g l := fun j hj => ⟨(hb.cell (p := ⟨g, j, none⟩) hg).trans (h j hj).1, (hb.frozen (p := ⟨g, j, none⟩) hg).trans (h j hj).2⟩
theorem strCells_bytV (s : ByteArray) : Go.Lib.strCells s = bytV s.data.toList := rfl
theorem QB.grown {w0 w w' : World} {B b : Nat} {V : List Value} {row : Option Nat} (h : QB w0 B b V w) (g : w.grownBy w' row) (hne : ∀ k, row = some k → b < k) (hB : B ≤ b) : QB w0 B b V w' :=
  ⟨h.1.grown g (fun he => by have := hne b he.symm; omega), h.2.1.grown g h.2.2 (fun k hk => by have := hne k hk; omega), Nat.le_trans h.2.2 g.size⟩
theorem Try.infoU8 : (Try.prog.info? 5).map (fun i => (i.zero, i.size, i.bytes)) = some (some (.int .u8 0), 1, 1) := by kernel_rfl
theorem bytV12 {x0 x1 x2 x3 x4 x5 x6 x7 x8 x9 : Int} (h0 : 0 ≤ x0 ∧ x0 < 256) (h1 : 0 ≤ x1 ∧ x1 < 256) (h2 : 0 ≤ x2 ∧ x2 < 256) (h3 : 0 ≤ x3 ∧ x3 < 256) (h4 : 0 ≤ x4 ∧ x4 < 256) (h5 : 0 ≤ x5 ∧ x5 < 256) (h6 : 0 ≤ x6 ∧ x6 < 256) (h7 : 0 ≤ x7 ∧ x7 < 256) (h8 : 0 ≤ x8 ∧ x8 < 256) (h9 : 0 ≤ x9 ∧ x9 < 256) :
    #[Value.int .u8 x0, .int .u8 x1, .int .u8 x2, .int .u8 x3, .int .u8 x4, .int .u8 x5, .int .u8 x6, .int .u8 x7, .int .u8 x8, .int .u8 x9, .int .u8 0, .int .u8 0] = (bytV [u8 x0, u8 x1, u8 x2, u8 x3, u8 x4, u8 x5, u8 x6, u8 x7, u8 x8, u8 x9, u8 0, u8 0]).toArray := by
  unfold bytV
  simp only [List.map_cons, List.map_nil]
  rw [u8_nat h0.1 h0.2, u8_nat h1.1 h1.2, u8_nat h2.1 h2.2, u8_nat h3.1 h3.2, u8_nat h4.1 h4.2, u8_nat h5.1 h5.2, u8_nat h6.1 h6.2, u8_nat h7.1 h7.2, u8_nat h8.1 h8.2, u8_nat h9.1 h9.2]
  rfl
theorem bytV_snoc (l : List UInt8) (A : List UInt8) (k : Nat) (hk : k < A.length) : bytV (l ++ A.take k) ++ [.int .u8 ((A.getD k 0).toNat : Int)] = bytV (l ++ A.take (k + 1)) := by
  unfold bytV
  rw [List.take_succ_eq_append_getElem hk, List.getD_eq_getElem?_getD, List.getElem?_eq_getElem hk]
  simp only [List.map_append, List.map_cons, List.map_nil, List.append_assoc]
  rfl
theorem own_start {w : World} {base : Nat} (A : Array Value) (l : List UInt8) (hA : A = (bytV l).toArray) (n : Nat) (hn : l.length = n) (hnm : n ≤ maxLen) (hb : base ≤ w.heap.size) :
    (w.alloc (.cells A 5)).ownsRow base 5 1 (.slice (some ⟨w.heap.size, 0, none⟩) n n) n (bytV l) := by
  subst hA
  have hl : (bytV l).length = n := by simpa [bytV] using hn
  refine ⟨by rw [hl, Nat.mul_one], .inr ⟨w.heap.size, n, (bytV l).toArray, rfl, hb, heap_alloc_new _ _, Nat.le_refl _, hnm, by simpa using hl, ?_⟩⟩
  rw [List.toList_toArray, List.take_of_length_le (by rw [hl, Nat.mul_one]; exact Nat.le_refl _)]
theorem set_two (p : Pkt) (y z : UInt8) (l : List UInt8) : (((p.b8 ++ [u8 p.ttl, u8 p.proto, u8 0, u8 0]) ++ l).set 10 y).set 11 z = (p.b8 ++ [u8 p.ttl, u8 p.proto, y, z]) ++ l := rfl
theorem head_cells (p : Pkt) (l12 AF AT : List UInt8) (h1 : l12 = p.b8 ++ [u8 p.ttl, u8 p.proto, u8 0, u8 0]) (h2 : AF = [u8 p.a0, u8 p.a1, u8 p.a2, u8 p.a3]) (h3 : AT = [u8 p.b0, u8 p.b1, u8 p.b2, u8 p.b3]) :
    l12 ++ AF ++ AT ++ p.opts.data.toList = (p.headB 0).data.toList := by
  rw [headB_list, fix_b8, h1, h2, h3, show ((0 : Int) / 256) = 0 from rfl, show ((0 : Int) % 256) = 0 from rfl]
  simp only [List.append_assoc, List.cons_append, List.nil_append]
theorem whole_cells (p : Pkt) (l12 AF AT : List UInt8) (h1 : l12 = p.b8 ++ [u8 p.ttl, u8 p.proto, u8 0, u8 0]) (h2 : AF = [u8 p.a0, u8 p.a1, u8 p.a2, u8 p.a3]) (h3 : AT = [u8 p.b0, u8 p.b1, u8 p.b2, u8 p.b3]) :
    (⟨(((l12 ++ AF ++ AT ++ p.opts.data.toList).set 10 (u8 ((p.sum : Int) / 256))).set 11 (u8 ((p.sum : Int) % 256))).toArray⟩ : ByteArray) ++ p.data = p.bytes := by
  apply ba_ext
  rw [bytes_list, ByteArray.data_append, Array.toList_append, List.toList_toArray, h1, List.append_assoc, List.append_assoc, set_two, fix_b8, h2, h3]
  simp only [List.append_assoc, List.cons_append, List.nil_append]
theorem bytV_cat (a b : List UInt8) : bytV a ++ bytV b = bytV (a ++ b) := by unfold bytV; rw [List.map_append]
set_option maxRecDepth 100000 in
set_option maxHeartbeats 400000 in
theorem rbytes_bad (p : Pkt) (w : World) (hd : p.data.size ≤ 70000) (ho : p.opts.size ≤ 70000) (hy : (p.why != 0) = true) :
    Calls Try.prog 20 #[.agg p.vals.toArray] w fun e w' => e = .returned (.tuple #[.string ⟨#[]⟩, .int .i64 p.why]) ∧ Below w.heap.size w w' := by
  obtain ⟨V, hV⟩ : ∃ V, V = (p).vals := ⟨_, rfl⟩
  have HIV : Hid ((Try.prog.info? 29).map (·.size) = some V.length) := Lib.hid (by rw [hV]; exact Try.infoIp (p))
  have HOV : Hid (V.toArray.all (·.oneCell') = true) := Lib.hid (by rw [hV]; exact vals_one (p))
  have HPV : Hid (∀ q : Pkt, puts q.vals.toArray 0 V = V.toArray) := Lib.hid (fun q => by rw [hV]; exact puts_all q (p))
  have HSV : Hid (V.toArray.size = 17) := Lib.hid (by rw [hV]; rfl)
  have HWy : Hid (∀ W, Calls Try.prog 38 #[.agg V.toArray] W fun e w' => e = .returned (.int .i64 p.why) ∧ Below W.heap.size W w') := Lib.hid (fun W => by rw [hV]; exact rwhy_any p W hd ho)
  rw [← hV]
  clear hV
  generalize p.why = cc at *
  have HQ0 := Lib.hid (QB.new w V)
  have hr := HQ0.out.1.range
  go_enter Try.func20, Try.ntmps20
  go_wp2_with (refine wpList_load_mid rfl 29 _ rfl w.heap.size 0 rfl V _ hr Try.underlying29 rfl HIV.out ?_)
  clear hr
  refine (HWy.out _).mono ?_
  rintro e w1 ⟨rfl, b1⟩
  have HQw1 := Lib.hid (HQ0.out.below b1 (Nat.le_refl _))
  clear b1 HQ0
  go_wp2_with fail
  go_ret2
  exact ⟨rfl, HQw1.out.2.1⟩
set_option maxRecDepth 100000 in
set_option maxHeartbeats 1000000 in
theorem rbytes_tt (p : Pkt) (w : World) (hy : p.why = 0) (ha : p.byt) (hdf : p.df = true) (hmo : p.more = true) :
    Calls Try.prog 20 #[.agg p.vals.toArray] w fun e w' => e = .returned (.tuple #[.string p.bytes, .int .i64 0]) ∧ Below w.heap.size w w' := by
  obtain ⟨hb, ho, ho4, _, hl⟩ := why_ok hy
  obtain ⟨t0, t1, l0, l1, r0, r1, i0, i1, p0, p1, p8⟩ := bnd_pl hb
  obtain ⟨q0, q1⟩ := place_lt p0 p1
  obtain ⟨V, hV⟩ : ∃ V, V = (p).vals := ⟨_, rfl⟩
  have HIV : Hid ((Try.prog.info? 29).map (·.size) = some V.length) := Lib.hid (by rw [hV]; exact Try.infoIp (p))
  have HOV : Hid (V.toArray.all (·.oneCell') = true) := Lib.hid (by rw [hV]; exact vals_one (p))
  have HPV : Hid (∀ q : Pkt, puts q.vals.toArray 0 V = V.toArray) := Lib.hid (fun q => by rw [hV]; exact puts_all q (p))
  have HSV : Hid (V.toArray.size = 17) := Lib.hid (by rw [hV]; rfl)
  have HWy : Hid (∀ W, Calls Try.prog 38 #[.agg V.toArray] W fun e w' => e = .returned (.int .i64 0) ∧ Below W.heap.size W w') := Lib.hid (fun W => by rw [hV, ← hy]; exact rwhy_any p W (by omega) (by omega))
  have HC : Hid (V[16]? = some (.string p.data) ∧ V[15]? = some (.string p.opts) ∧ V[0]? = some (.int .i64 p.tos) ∧ V[1]? = some (.int .i64 p.id) ∧ V[2]? = some (.int .i64 p.ttl) ∧ V[3]? = some (.int .i64 p.proto) ∧ V[4]? = some (.int .i64 p.pl) ∧ V[5]? = some (.bool true) ∧ V[6]? = some (.bool true)) := Lib.hid (by rw [hV]; exact ⟨rfl, rfl, rfl, rfl, rfl, rfl, rfl, by show some (Value.bool p.df) = _; rw [hdf], by show some (Value.bool p.more) = _; rw [hmo]⟩)
  have hP : p.place = p.pl / 8 + 24576 := by unfold Pkt.place; rw [hdf, hmo]; simp
  rw [← hV]
  have HV := Lib.hid hV
  clear hV
  have HQ0 := Lib.hid (QB.new w V)
  have hr := HQ0.out.1.range
  have HU := Lib.hid (And.intro hy (And.intro hb (And.intro hdf hmo)))
  have HPl := Lib.hid hP
  clear hy hb hdf hmo hP q0 q1
  go_enter Try.func20, Try.ntmps20
  go_wp2_with (refine wpList_load_mid rfl 29 _ rfl w.heap.size 0 rfl V _ hr Try.underlying29 rfl HIV.out ?_)
  clear hr
  refine (HWy.out _).mono ?_
  rintro e w1 ⟨rfl, b1⟩
  have HQw1 := Lib.hid (HQ0.out.below b1 (Nat.le_refl _))
  clear b1 HQ0
  obtain ⟨N, hN⟩ : ∃ N : Nat, (20 : Int) + (p.opts.size : Int) = (N : Int) := ⟨20 + p.opts.size, by omega⟩
  obtain ⟨L, hL⟩ : ∃ L : Nat, (N : Int) + (p.data.size : Int) = (L : Int) := ⟨N + p.data.size, by omega⟩
  have hN1 : N ≤ 60 := by omega
  have hL1 : L ≤ 65535 := by omega
  obtain ⟨g16, g15, g0, g1, g2, g3, g4, g5, g6⟩ := HC.out
  have c16 := HQw1.out.at g16
  have c15 := HQw1.out.at g15
  have c0 := HQw1.out.at g0
  have c1 := HQw1.out.at g1
  have c2 := HQw1.out.at g2
  have c3 := HQw1.out.at g3
  have c4 := HQw1.out.at g4
  have c5 := HQw1.out.at g5
  have c6 := HQw1.out.at g6
  have hP8 : 0 ≤ p.pl / 8 := by omega
  have hP9 : p.pl / 8 ≤ 8191 := by omega
  clear g16 g15 g0 g1 g2 g3 g4 g5 g6
  go_upto_region 12 with (fail)
  clear c16 c15 c0 c1 c2 c3 c4 c5 c6
  obtain ⟨l12, hl12⟩ : ∃ l : List UInt8, l = [u8 (64 + (N : Int) / 4), u8 p.tos, u8 ((L : Int) / 256), u8 ((L : Int) % 256), u8 (p.id / 256), u8 (p.id % 256), u8 ((p.pl / 8 + 8192 + 16384) / 256), u8 ((p.pl / 8 + 8192 + 16384) % 256), u8 p.ttl, u8 p.proto, u8 0, u8 0] := ⟨_, rfl⟩
  have hA := bytV12 (x0 := 64 + (N : Int) / 4) (x1 := p.tos) (x2 := (L : Int) / 256) (x3 := (L : Int) % 256) (x4 := p.id / 256) (x5 := p.id % 256) (x6 := (p.pl / 8 + 8192 + 16384) / 256) (x7 := (p.pl / 8 + 8192 + 16384) % 256) (x8 := p.ttl) (x9 := p.proto) (by omega) (by omega) (by omega) (by omega) (by omega) (by omega) (by omega) (by omega) (by omega) (by omega)
  rw [← hl12] at hA
  have hz12 : l12.length = 12 := by rw [hl12]; rfl
  have HL12 : Hid (l12 = p.b8 ++ [u8 p.ttl, u8 p.proto, u8 0, u8 0]) := Lib.hid (by
    have hpp : p.place = (p.pl / 8 + 8192 + 16384) := by have := HPl.out; omega
    rw [hl12]
    unfold Pkt.b8 Pkt.all
    rw [hN, hL, hpp]
    rfl)
  rw [hA]
  have hw := own_start (w := w1) (base := w.heap.size + 1) _ l12 rfl 12 hz12 (by unfold maxLen; omega) HQw1.out.1.lt
  have HO := Lib.hid hw
  have HQw2 := Lib.hid (HQw1.out.alloc (.cells (bytV l12).toArray 5))
  clear hA hl12 HQw1 hw hP8 hP9
  generalize w1.alloc (.cells (bytV l12).toArray 5) = w2 at *
  generalize (.slice (some ⟨w1.heap.size, 0, none⟩) 12 12 : Value) = v0 at *
  obtain ⟨i9, hi9, hz0, hz1, hz2⟩ := info_parts Try.infoU8
  have HI := Lib.hid hi9
  have H0 := Lib.hid hz0
  have H1 := Lib.hid hz1
  have H2 := Lib.hid hz2
  have HZ12 := Lib.hid hz12
  clear hi9 hz0 hz1 hz2 hz12
  obtain ⟨AF, hAF⟩ : ∃ l : List UInt8, l = [u8 p.a0, u8 p.a1, u8 p.a2, u8 p.a3] := ⟨_, rfl⟩
  obtain ⟨AT, hAT⟩ : ∃ l : List UInt8, l = [u8 p.b0, u8 p.b1, u8 p.b2, u8 p.b3] := ⟨_, rfl⟩
  obtain ⟨⟨a00, a01⟩, ⟨a10, a11⟩, ⟨a20, a21⟩, ⟨a30, a31⟩, ⟨b00, b01⟩, ⟨b10, b11⟩, ⟨b20, b21⟩, ⟨b30, b31⟩⟩ := ha
  have HF : Hid (AF.length = 4 ∧ ∀ k, k < 4 → V[7 + k]? = some (.int .u8 ((AF.getD k 0).toNat : Int))) := Lib.hid ⟨by rw [hAF]; rfl, fun k hk => by
    rw [HV.out, hAF]
    match k, hk with
    | 0, _ => show some (Value.int .u8 p.a0) = some (.int .u8 ((u8 p.a0).toNat : Int)); rw [u8_nat a00 a01]
    | 1, _ => show some (Value.int .u8 p.a1) = some (.int .u8 ((u8 p.a1).toNat : Int)); rw [u8_nat a10 a11]
    | 2, _ => show some (Value.int .u8 p.a2) = some (.int .u8 ((u8 p.a2).toNat : Int)); rw [u8_nat a20 a21]
    | 3, _ => show some (Value.int .u8 p.a3) = some (.int .u8 ((u8 p.a3).toNat : Int)); rw [u8_nat a30 a31]⟩
  have HT : Hid (AT.length = 4 ∧ ∀ k, k < 4 → V[11 + k]? = some (.int .u8 ((AT.getD k 0).toNat : Int))) := Lib.hid ⟨by rw [hAT]; rfl, fun k hk => by
    rw [HV.out, hAT]
    match k, hk with
    | 0, _ => show some (Value.int .u8 p.b0) = some (.int .u8 ((u8 p.b0).toNat : Int)); rw [u8_nat b00 b01]
    | 1, _ => show some (Value.int .u8 p.b1) = some (.int .u8 ((u8 p.b1).toNat : Int)); rw [u8_nat b10 b11]
    | 2, _ => show some (Value.int .u8 p.b2) = some (.int .u8 ((u8 p.b2).toNat : Int)); rw [u8_nat b20 b21]
    | 3, _ => show some (Value.int .u8 p.b3) = some (.int .u8 ((u8 p.b3).toNat : Int)); rw [u8_nat b30 b31]⟩
  have HFT := Lib.hid (And.intro hAF hAT)
  clear hAF hAT a00 a01 a10 a11 a20 a21 a30 a31 b00 b01 b10 b11 b20 b21 b30 b31
  go_wp2_with fail
  go_loopw [8, 9] (fun v i wr => ∃ k : Nat, k ≤ 4 ∧ i = .int .i64 k ∧ wr.ownsRow (w.heap.size + 1) 5 1 v (12 + k) (bytV (l12 ++ AF.take k)) ∧ QB w w.heap.size w.heap.size V wr) (fun _ i _ => 4 - (intOf i).toNat)
  case atStart => exact ⟨0, by omega, rfl, by simpa using HO.out, HQw2.out⟩
  case round =>
    obtain ⟨k, hk, rfl, hown, hq⟩ := hrel
    have HOk := Lib.hid hown
    have HQk := Lib.hid hq
    clear hown hq
    by_cases hlt : k < 4
    · have ck := HQk.out.at (HF.out.2 k hlt)
      have HX1 : Hid (12 + k + 1 ≤ maxLen) := Lib.hid (by unfold maxLen; omega)
      have HX2 : Hid ((12 + k + 1) * 1 ≤ 140737488355328) := Lib.hid (by omega)
      have hlt2 : (k : Int) < 4 := by omega
      have HSN := Lib.hid (bytV_snoc l12 AF k (by rw [HF.out.1]; exact hlt))
      generalize AF.getD k 0 = cc at *
      have HX3 : Hid (w.heap.size + 1 ≤ (wr.alloc (.cells #[.int .u8 (cc.toNat : Int)] 5)).heap.size) := Lib.hid (by have := HQk.out.1.lt; simp; omega)
      go_wp2_with (at_builtin; refine wpList_append_own _ rfl _ _ 45 rfl (w.heap.size + 1) 5 i9 (.int .u8 0) 1 1 Try.underlying45 HI.out H0.out H1.out H2.out rfl Nat.one_pos _ (12 + k) (bytV (l12 ++ AF.take k)) rfl (HOk.out.alloc _) ⟨wr.heap.size, 0, none⟩ 1 1 [.int .u8 (cc.toNat : Int)] rfl rfl (World.news_of_block (cs := #[.int .u8 (cc.toNat : Int)]) (t := 5) (fr := (0, 0)) (heap_alloc_new wr _)) (by simp [Value.oneCell']) HX1.out HX2.out HX3.out ?_; intro v1 w3 hown1 hgrow hnil)
      rw [HSN.out] at hown1
      have HQ3 := Lib.hid ((HQk.out.alloc (.cells #[.int .u8 (cc.toNat : Int)] 5)).grown hgrow (fun j hj => (HOk.out.lt j hj).1) (Nat.le_refl _))
      have HO3 := Lib.hid hown1
      clear hown1 hgrow hnil ck
      go_wp2_with fail
      go_roundw
      case rel => exact ⟨k + 1, by omega, by go_num, HO3.out, HQ3.out⟩
      case measure => simp [intOf]; omega
    · obtain rfl : k = 4 := by omega
      clear hlt hk HO HQw2
      have h := HOk.out
      rw [List.take_of_length_le (by rw [HF.out.1]; exact Nat.le_refl _)] at h
      have HO4 := Lib.hid h
      have hzf : (l12 ++ AF).length = 16 := by rw [List.length_append, HZ12.out, HF.out.1]
      have HZF := Lib.hid hzf
      clear h hzf HOk
      simp only [Int.cast_ofNat_Int]
      go_wp2_with fail
      go_loopw [8, 10] (fun v i wr => ∃ k : Nat, k ≤ 4 ∧ i = .int .i64 k ∧ wr.ownsRow (w.heap.size + 1) 5 1 v (12 + 4 + k) (bytV ((l12 ++ AF) ++ AT.take k)) ∧ QB w w.heap.size w.heap.size V wr) (fun _ i _ => 4 - (intOf i).toNat)
      case atStart => exact ⟨0, by omega, rfl, by simpa using HO4.out, HQk.out⟩
      case round =>
        obtain ⟨k, hk, rfl, hown, hq⟩ := hrel
        have HOk := Lib.hid hown
        have HQr := Lib.hid hq
        clear hown hq
        by_cases hlt : k < 4
        · have ck := HQr.out.at (HT.out.2 k hlt)
          have HX1 : Hid (12 + 4 + k + 1 ≤ maxLen) := Lib.hid (by unfold maxLen; omega)
          have HX2 : Hid ((12 + 4 + k + 1) * 1 ≤ 140737488355328) := Lib.hid (by omega)
          have hlt2 : (k : Int) < 4 := by omega
          have HSN := Lib.hid (bytV_snoc (l12 ++ AF) AT k (by rw [HT.out.1]; exact hlt))
          generalize AT.getD k 0 = cc at *
          have HX3 : Hid (w.heap.size + 1 ≤ (wr.alloc (.cells #[.int .u8 (cc.toNat : Int)] 5)).heap.size) := Lib.hid (by have := HQr.out.1.lt; simp; omega)
          go_wp2_with (at_builtin; refine wpList_append_own _ rfl _ _ 45 rfl (w.heap.size + 1) 5 i9 (.int .u8 0) 1 1 Try.underlying45 HI.out H0.out H1.out H2.out rfl Nat.one_pos _ (12 + 4 + k) (bytV ((l12 ++ AF) ++ AT.take k)) rfl (HOk.out.alloc _) ⟨wr.heap.size, 0, none⟩ 1 1 [.int .u8 (cc.toNat : Int)] rfl rfl (World.news_of_block (cs := #[.int .u8 (cc.toNat : Int)]) (t := 5) (fr := (0, 0)) (heap_alloc_new wr _)) (by simp [Value.oneCell']) HX1.out HX2.out HX3.out ?_; intro v1 w3 hown1 hgrow hnil)
          rw [HSN.out] at hown1
          have HQ3 := Lib.hid ((HQr.out.alloc (.cells #[.int .u8 (cc.toNat : Int)] 5)).grown hgrow (fun j hj => (HOk.out.lt j hj).1) (Nat.le_refl _))
          have HO3 := Lib.hid hown1
          clear hown1 hgrow hnil ck
          go_wp2_with fail
          go_roundw
          case rel => exact ⟨k + 1, by omega, by go_num, HO3.out, HQ3.out⟩
          case measure => simp [intOf]; omega
        · obtain rfl : k = 4 := by omega
          clear hlt hk HO4 HQk
          have h := HOk.out
          rw [List.take_of_length_le (by rw [HT.out.1]; exact Nat.le_refl _)] at h
          have HO5 := Lib.hid h
          clear h HOk
          have c15 := HQr.out.at HC.out.2.1
          have HX1 : Hid (12 + 4 + 4 + p.opts.size ≤ maxLen) := Lib.hid (by unfold maxLen; omega)
          have HX2 : Hid (12 + 4 + 4 + p.opts.size ≤ 140737488355328) := Lib.hid (by omega)
          have HX3 : Hid (w.heap.size + 1 ≤ wr.heap.size) := Lib.hid HQr.out.1.lt
          go_upto_region 21 with (at_builtin; refine Go.Lib.wpList_append_own_string _ rfl _ _ 45 9 rfl (w.heap.size + 1) 5 i9 Try.underlying45 Try.underlying9 HI.out H0.out H1.out H2.out _ (12 + 4 + 4) (bytV ((l12 ++ AF) ++ AT)) rfl HO5.out p.opts rfl HX1.out HX2.out HX3.out ?_; intro v1 w3 hown1 hgrow hnil)
          rw [strCells_bytV, bytV_cat] at hown1
          obtain ⟨n, hn⟩ : ∃ n, n = 12 + 4 + 4 + p.opts.size := ⟨_, rfl⟩
          rw [← hn] at hown1
          have hn20 : 20 ≤ n := by omega
          have hn60 : n ≤ 60 := by omega
          have HQ3 := Lib.hid (HQr.out.grown hgrow (fun j hj => (HO5.out.lt j hj).1) (Nat.le_refl _))
          obtain ⟨g, cap, rfl, hg, hglt, hby, hlen⟩ := own_byts hown1 (by omega)
          have hsum : p.sum = sumL (l12 ++ AF ++ AT ++ p.opts.data.toList) := by
            unfold Pkt.sum
            rw [head_cells p l12 AF AT HL12.out HFT.out.1 HFT.out.2]
          have HW := Lib.hid (whole_cells p l12 AF AT HL12.out HFT.out.1 HFT.out.2)
          have hs := psum_le p
          have HNe := Lib.hid hn
          clear hown1 hgrow hnil hn HQr HO5 c15
          generalize l12 ++ AF ++ AT ++ p.opts.data.toList = l at *
          have HOf : Hid (∀ W, Calls Try.prog 22 #[.string ⟨l.toArray⟩] W fun e w' => e = .returned (.int .i64 (p.sum : Nat)) ∧ Below W.heap.size W w') := Lib.hid (fun W => by
            have h := rof_any ⟨l.toArray⟩ W (by show l.toArray.size ≤ 70000; simp; omega)
            rw [hsum]
            exact h)
          have hcv := byts_conv cap hby n hlen
          have HBy := Lib.hid hby
          have HLen := Lib.hid hlen
          have HG := Lib.hid (And.intro hg hglt)
          clear hsum hby hlen hg hglt
          generalize p.sum = S at *
          go_wp2_with fail
          clear hcv
          refine (HOf.out _).mono ?_
          rintro e w4 ⟨rfl, bb⟩
          have HQ4 := Lib.hid (HQ3.out.below bb (Nat.le_refl _))
          have HB4 := Lib.hid (byts_below HBy.out bb HG.out.2)
          have HG4 := Lib.hid (Nat.lt_of_lt_of_le HG.out.2 bb.size)
          clear bb HQ3 HBy
          have y1 := u8_nat (x := (S : Int) / 256) (by omega) (by omega)
          have y2 := u8_nat (x := (S : Int) % 256) (by omega) (by omega)
          have h10 := HB4.out 10 (by have := HLen.out; omega)
          have c10 := h10.1
          have z10 := h10.2
          have HY1 := Lib.hid y1
          have HY2 := Lib.hid y2
          clear h10 y1 y2
          have hi10 : (10 : Int) < (n : Int) := by omega
          have hi11 : (11 : Int) < (n : Int) := by omega
          go_upto_region 23 with (fail)
          clear c10 z10
          have hb5 := byts_set HB4.out 10 (Go.Proofs.Ytjfkfeobmcnonaa.u8 ((S : Int) / 256)) (by have := HLen.out; omega)
          rw [HY1.out] at hb5
          have HB5 := Lib.hid hb5
          have HQ5 := Lib.hid (HQ4.out.set (c := g) (by have := HG.out.1; omega) (by have := HG.out.1; omega) 10 (.int .u8 ((S : Int) / 256)))
          clear hb5 HB4 HQ4
          generalize w4.setCell ⟨g, 10, none⟩ (.int .u8 ((S : Int) / 256)) = w5 at *
          have h11 := HB5.out 11 (by have := HLen.out; simp; omega)
          have c11 := h11.1
          have z11 := h11.2
          clear h11
          go_upto_region 24 with (fail)
          clear c11 z11
          have hb6 := byts_set HB5.out 11 (Go.Proofs.Ytjfkfeobmcnonaa.u8 ((S : Int) % 256)) (by have := HLen.out; simp; omega)
          rw [HY2.out] at hb6
          have HQ6 := Lib.hid (HQ5.out.set (c := g) (by have := HG.out.1; omega) (by have := HG.out.1; omega) 11 (.int .u8 ((S : Int) % 256)))
          have hcv := byts_conv cap hb6 n (by have := HLen.out; simp; omega)
          clear hb6 HB5 HQ5
          generalize w5.setCell ⟨g, 11, none⟩ (.int .u8 ((S : Int) % 256)) = w6 at *
          obtain ⟨T, hT⟩ : ∃ T : ByteArray, T = ⟨((l.set 10 (Go.Proofs.Ytjfkfeobmcnonaa.u8 ((S : Int) / 256))).set 11 (Go.Proofs.Ytjfkfeobmcnonaa.u8 ((S : Int) % 256))).toArray⟩ := ⟨_, rfl⟩
          have hTz : T.size = n := by rw [hT, ← ba_size, List.toList_toArray, List.length_set, List.length_set]; exact HLen.out
          have hw := HW.out
          rw [← hT] at hcv hw
          have HW2 := Lib.hid hw
          clear hT hw HW
          have c16 := HQ6.out.at HC.out.1
          have zc := cat_len
          have zo : ¬ 9223372036854775807 < n + p.data.size := by omega
          go_wp2_with fail
          go_ret2
          rw [HW2.out]
          exact ⟨rfl, HQ6.out.2.1⟩
set_option maxRecDepth 100000 in
set_option maxHeartbeats 1000000 in
theorem rbytes_tf (p : Pkt) (w : World) (hy : p.why = 0) (ha : p.byt) (hdf : p.df = true) (hmo : p.more = false) :
    Calls Try.prog 20 #[.agg p.vals.toArray] w fun e w' => e = .returned (.tuple #[.string p.bytes, .int .i64 0]) ∧ Below w.heap.size w w' := by
  obtain ⟨hb, ho, ho4, _, hl⟩ := why_ok hy
  obtain ⟨t0, t1, l0, l1, r0, r1, i0, i1, p0, p1, p8⟩ := bnd_pl hb
  obtain ⟨q0, q1⟩ := place_lt p0 p1
  obtain ⟨V, hV⟩ : ∃ V, V = (p).vals := ⟨_, rfl⟩
  have HIV : Hid ((Try.prog.info? 29).map (·.size) = some V.length) := Lib.hid (by rw [hV]; exact Try.infoIp (p))
  have HOV : Hid (V.toArray.all (·.oneCell') = true) := Lib.hid (by rw [hV]; exact vals_one (p))
  have HPV : Hid (∀ q : Pkt, puts q.vals.toArray 0 V = V.toArray) := Lib.hid (fun q => by rw [hV]; exact puts_all q (p))
  have HSV : Hid (V.toArray.size = 17) := Lib.hid (by rw [hV]; rfl)
  have HWy : Hid (∀ W, Calls Try.prog 38 #[.agg V.toArray] W fun e w' => e = .returned (.int .i64 0) ∧ Below W.heap.size W w') := Lib.hid (fun W => by rw [hV, ← hy]; exact rwhy_any p W (by omega) (by omega))
  have HC : Hid (V[16]? = some (.string p.data) ∧ V[15]? = some (.string p.opts) ∧ V[0]? = some (.int .i64 p.tos) ∧ V[1]? = some (.int .i64 p.id) ∧ V[2]? = some (.int .i64 p.ttl) ∧ V[3]? = some (.int .i64 p.proto) ∧ V[4]? = some (.int .i64 p.pl) ∧ V[5]? = some (.bool true) ∧ V[6]? = some (.bool false)) := Lib.hid (by rw [hV]; exact ⟨rfl, rfl, rfl, rfl, rfl, rfl, rfl, by show some (Value.bool p.df) = _; rw [hdf], by show some (Value.bool p.more) = _; rw [hmo]⟩)
  have hP : p.place = p.pl / 8 + 16384 := by unfold Pkt.place; rw [hdf, hmo]; simp
  rw [← hV]
  have HV := Lib.hid hV
  clear hV
  have HQ0 := Lib.hid (QB.new w V)
  have hr := HQ0.out.1.range
  have HU := Lib.hid (And.intro hy (And.intro hb (And.intro hdf hmo)))
  have HPl := Lib.hid hP
  clear hy hb hdf hmo hP q0 q1
  go_enter Try.func20, Try.ntmps20
  go_wp2_with (refine wpList_load_mid rfl 29 _ rfl w.heap.size 0 rfl V _ hr Try.underlying29 rfl HIV.out ?_)
  clear hr
  refine (HWy.out _).mono ?_
  rintro e w1 ⟨rfl, b1⟩
  have HQw1 := Lib.hid (HQ0.out.below b1 (Nat.le_refl _))
  clear b1 HQ0
  obtain ⟨N, hN⟩ : ∃ N : Nat, (20 : Int) + (p.opts.size : Int) = (N : Int) := ⟨20 + p.opts.size, by omega⟩
  obtain ⟨L, hL⟩ : ∃ L : Nat, (N : Int) + (p.data.size : Int) = (L : Int) := ⟨N + p.data.size, by omega⟩
  have hN1 : N ≤ 60 := by omega
  have hL1 : L ≤ 65535 := by omega
  obtain ⟨g16, g15, g0, g1, g2, g3, g4, g5, g6⟩ := HC.out
  have c16 := HQw1.out.at g16
  have c15 := HQw1.out.at g15
  have c0 := HQw1.out.at g0
  have c1 := HQw1.out.at g1
  have c2 := HQw1.out.at g2
  have c3 := HQw1.out.at g3
  have c4 := HQw1.out.at g4
  have c5 := HQw1.out.at g5
  have c6 := HQw1.out.at g6
  have hP8 : 0 ≤ p.pl / 8 := by omega
  have hP9 : p.pl / 8 ≤ 8191 := by omega
  clear g16 g15 g0 g1 g2 g3 g4 g5 g6
  go_upto_region 12 with (fail)
  clear c16 c15 c0 c1 c2 c3 c4 c5 c6
  obtain ⟨l12, hl12⟩ : ∃ l : List UInt8, l = [u8 (64 + (N : Int) / 4), u8 p.tos, u8 ((L : Int) / 256), u8 ((L : Int) % 256), u8 (p.id / 256), u8 (p.id % 256), u8 ((p.pl / 8 + 16384) / 256), u8 ((p.pl / 8 + 16384) % 256), u8 p.ttl, u8 p.proto, u8 0, u8 0] := ⟨_, rfl⟩
  have hA := bytV12 (x0 := 64 + (N : Int) / 4) (x1 := p.tos) (x2 := (L : Int) / 256) (x3 := (L : Int) % 256) (x4 := p.id / 256) (x5 := p.id % 256) (x6 := (p.pl / 8 + 16384) / 256) (x7 := (p.pl / 8 + 16384) % 256) (x8 := p.ttl) (x9 := p.proto) (by omega) (by omega) (by omega) (by omega) (by omega) (by omega) (by omega) (by omega) (by omega) (by omega)
  rw [← hl12] at hA
  have hz12 : l12.length = 12 := by rw [hl12]; rfl
  have HL12 : Hid (l12 = p.b8 ++ [u8 p.ttl, u8 p.proto, u8 0, u8 0]) := Lib.hid (by
    have hpp : p.place = (p.pl / 8 + 16384) := by have := HPl.out; omega
    rw [hl12]
    unfold Pkt.b8 Pkt.all
    rw [hN, hL, hpp]
    rfl)
  rw [hA]
  have hw := own_start (w := w1) (base := w.heap.size + 1) _ l12 rfl 12 hz12 (by unfold maxLen; omega) HQw1.out.1.lt
  have HO := Lib.hid hw
  have HQw2 := Lib.hid (HQw1.out.alloc (.cells (bytV l12).toArray 5))
  clear hA hl12 HQw1 hw hP8 hP9
  generalize w1.alloc (.cells (bytV l12).toArray 5) = w2 at *
  generalize (.slice (some ⟨w1.heap.size, 0, none⟩) 12 12 : Value) = v0 at *
  obtain ⟨i9, hi9, hz0, hz1, hz2⟩ := info_parts Try.infoU8
  have HI := Lib.hid hi9
  have H0 := Lib.hid hz0
  have H1 := Lib.hid hz1
  have H2 := Lib.hid hz2
  have HZ12 := Lib.hid hz12
  clear hi9 hz0 hz1 hz2 hz12
  obtain ⟨AF, hAF⟩ : ∃ l : List UInt8, l = [u8 p.a0, u8 p.a1, u8 p.a2, u8 p.a3] := ⟨_, rfl⟩
  obtain ⟨AT, hAT⟩ : ∃ l : List UInt8, l = [u8 p.b0, u8 p.b1, u8 p.b2, u8 p.b3] := ⟨_, rfl⟩
  obtain ⟨⟨a00, a01⟩, ⟨a10, a11⟩, ⟨a20, a21⟩, ⟨a30, a31⟩, ⟨b00, b01⟩, ⟨b10, b11⟩, ⟨b20, b21⟩, ⟨b30, b31⟩⟩ := ha
  have HF : Hid (AF.length = 4 ∧ ∀ k, k < 4 → V[7 + k]? = some (.int .u8 ((AF.getD k 0).toNat : Int))) := Lib.hid ⟨by rw [hAF]; rfl, fun k hk => by
    rw [HV.out, hAF]
    match k, hk with
    | 0, _ => show some (Value.int .u8 p.a0) = some (.int .u8 ((u8 p.a0).toNat : Int)); rw [u8_nat a00 a01]
    | 1, _ => show some (Value.int .u8 p.a1) = some (.int .u8 ((u8 p.a1).toNat : Int)); rw [u8_nat a10 a11]
    | 2, _ => show some (Value.int .u8 p.a2) = some (.int .u8 ((u8 p.a2).toNat : Int)); rw [u8_nat a20 a21]
    | 3, _ => show some (Value.int .u8 p.a3) = some (.int .u8 ((u8 p.a3).toNat : Int)); rw [u8_nat a30 a31]⟩
  have HT : Hid (AT.length = 4 ∧ ∀ k, k < 4 → V[11 + k]? = some (.int .u8 ((AT.getD k 0).toNat : Int))) := Lib.hid ⟨by rw [hAT]; rfl, fun k hk => by
    rw [HV.out, hAT]
    match k, hk with
    | 0, _ => show some (Value.int .u8 p.b0) = some (.int .u8 ((u8 p.b0).toNat : Int)); rw [u8_nat b00 b01]
    | 1, _ => show some (Value.int .u8 p.b1) = some (.int .u8 ((u8 p.b1).toNat : Int)); rw [u8_nat b10 b11]
    | 2, _ => show some (Value.int .u8 p.b2) = some (.int .u8 ((u8 p.b2).toNat : Int)); rw [u8_nat b20 b21]
    | 3, _ => show some (Value.int .u8 p.b3) = some (.int .u8 ((u8 p.b3).toNat : Int)); rw [u8_nat b30 b31]⟩
  have HFT := Lib.hid (And.intro hAF hAT)
  clear hAF hAT a00 a01 a10 a11 a20 a21 a30 a31 b00 b01 b10 b11 b20 b21 b30 b31
  go_wp2_with fail
  go_loopw [8, 9] (fun v i wr => ∃ k : Nat, k ≤ 4 ∧ i = .int .i64 k ∧ wr.ownsRow (w.heap.size + 1) 5 1 v (12 + k) (bytV (l12 ++ AF.take k)) ∧ QB w w.heap.size w.heap.size V wr) (fun _ i _ => 4 - (intOf i).toNat)
  case atStart => exact ⟨0, by omega, rfl, by simpa using HO.out, HQw2.out⟩
  case round =>
    obtain ⟨k, hk, rfl, hown, hq⟩ := hrel
    have HOk := Lib.hid hown
    have HQk := Lib.hid hq
    clear hown hq
    by_cases hlt : k < 4
    · have ck := HQk.out.at (HF.out.2 k hlt)
      have HX1 : Hid (12 + k + 1 ≤ maxLen) := Lib.hid (by unfold maxLen; omega)
      have HX2 : Hid ((12 + k + 1) * 1 ≤ 140737488355328) := Lib.hid (by omega)
      have hlt2 : (k : Int) < 4 := by omega
      have HSN := Lib.hid (bytV_snoc l12 AF k (by rw [HF.out.1]; exact hlt))
      generalize AF.getD k 0 = cc at *
      have HX3 : Hid (w.heap.size + 1 ≤ (wr.alloc (.cells #[.int .u8 (cc.toNat : Int)] 5)).heap.size) := Lib.hid (by have := HQk.out.1.lt; simp; omega)
      go_wp2_with (at_builtin; refine wpList_append_own _ rfl _ _ 45 rfl (w.heap.size + 1) 5 i9 (.int .u8 0) 1 1 Try.underlying45 HI.out H0.out H1.out H2.out rfl Nat.one_pos _ (12 + k) (bytV (l12 ++ AF.take k)) rfl (HOk.out.alloc _) ⟨wr.heap.size, 0, none⟩ 1 1 [.int .u8 (cc.toNat : Int)] rfl rfl (World.news_of_block (cs := #[.int .u8 (cc.toNat : Int)]) (t := 5) (fr := (0, 0)) (heap_alloc_new wr _)) (by simp [Value.oneCell']) HX1.out HX2.out HX3.out ?_; intro v1 w3 hown1 hgrow hnil)
      rw [HSN.out] at hown1
      have HQ3 := Lib.hid ((HQk.out.alloc (.cells #[.int .u8 (cc.toNat : Int)] 5)).grown hgrow (fun j hj => (HOk.out.lt j hj).1) (Nat.le_refl _))
      have HO3 := Lib.hid hown1
      clear hown1 hgrow hnil ck
      go_wp2_with fail
      go_roundw
      case rel => exact ⟨k + 1, by omega, by go_num, HO3.out, HQ3.out⟩
      case measure => simp [intOf]; omega
    · obtain rfl : k = 4 := by omega
      clear hlt hk HO HQw2
      have h := HOk.out
      rw [List.take_of_length_le (by rw [HF.out.1]; exact Nat.le_refl _)] at h
      have HO4 := Lib.hid h
      have hzf : (l12 ++ AF).length = 16 := by rw [List.length_append, HZ12.out, HF.out.1]
      have HZF := Lib.hid hzf
      clear h hzf HOk
      simp only [Int.cast_ofNat_Int]
      go_wp2_with fail
      go_loopw [8, 10] (fun v i wr => ∃ k : Nat, k ≤ 4 ∧ i = .int .i64 k ∧ wr.ownsRow (w.heap.size + 1) 5 1 v (12 + 4 + k) (bytV ((l12 ++ AF) ++ AT.take k)) ∧ QB w w.heap.size w.heap.size V wr) (fun _ i _ => 4 - (intOf i).toNat)
      case atStart => exact ⟨0, by omega, rfl, by simpa using HO4.out, HQk.out⟩
      case round =>
        obtain ⟨k, hk, rfl, hown, hq⟩ := hrel
        have HOk := Lib.hid hown
        have HQr := Lib.hid hq
        clear hown hq
        by_cases hlt : k < 4
        · have ck := HQr.out.at (HT.out.2 k hlt)
          have HX1 : Hid (12 + 4 + k + 1 ≤ maxLen) := Lib.hid (by unfold maxLen; omega)
          have HX2 : Hid ((12 + 4 + k + 1) * 1 ≤ 140737488355328) := Lib.hid (by omega)
          have hlt2 : (k : Int) < 4 := by omega
          have HSN := Lib.hid (bytV_snoc (l12 ++ AF) AT k (by rw [HT.out.1]; exact hlt))
          generalize AT.getD k 0 = cc at *
          have HX3 : Hid (w.heap.size + 1 ≤ (wr.alloc (.cells #[.int .u8 (cc.toNat : Int)] 5)).heap.size) := Lib.hid (by have := HQr.out.1.lt; simp; omega)
          go_wp2_with (at_builtin; refine wpList_append_own _ rfl _ _ 45 rfl (w.heap.size + 1) 5 i9 (.int .u8 0) 1 1 Try.underlying45 HI.out H0.out H1.out H2.out rfl Nat.one_pos _ (12 + 4 + k) (bytV ((l12 ++ AF) ++ AT.take k)) rfl (HOk.out.alloc _) ⟨wr.heap.size, 0, none⟩ 1 1 [.int .u8 (cc.toNat : Int)] rfl rfl (World.news_of_block (cs := #[.int .u8 (cc.toNat : Int)]) (t := 5) (fr := (0, 0)) (heap_alloc_new wr _)) (by simp [Value.oneCell']) HX1.out HX2.out HX3.out ?_; intro v1 w3 hown1 hgrow hnil)
          rw [HSN.out] at hown1
          have HQ3 := Lib.hid ((HQr.out.alloc (.cells #[.int .u8 (cc.toNat : Int)] 5)).grown hgrow (fun j hj => (HOk.out.lt j hj).1) (Nat.le_refl _))
          have HO3 := Lib.hid hown1
          clear hown1 hgrow hnil ck
          go_wp2_with fail
          go_roundw
          case rel => exact ⟨k + 1, by omega, by go_num, HO3.out, HQ3.out⟩
          case measure => simp [intOf]; omega
        · obtain rfl : k = 4 := by omega
          clear hlt hk HO4 HQk
          have h := HOk.out
          rw [List.take_of_length_le (by rw [HT.out.1]; exact Nat.le_refl _)] at h
          have HO5 := Lib.hid h
          clear h HOk
          have c15 := HQr.out.at HC.out.2.1
          have HX1 : Hid (12 + 4 + 4 + p.opts.size ≤ maxLen) := Lib.hid (by unfold maxLen; omega)
          have HX2 : Hid (12 + 4 + 4 + p.opts.size ≤ 140737488355328) := Lib.hid (by omega)
          have HX3 : Hid (w.heap.size + 1 ≤ wr.heap.size) := Lib.hid HQr.out.1.lt
          go_upto_region 21 with (at_builtin; refine Go.Lib.wpList_append_own_string _ rfl _ _ 45 9 rfl (w.heap.size + 1) 5 i9 Try.underlying45 Try.underlying9 HI.out H0.out H1.out H2.out _ (12 + 4 + 4) (bytV ((l12 ++ AF) ++ AT)) rfl HO5.out p.opts rfl HX1.out HX2.out HX3.out ?_; intro v1 w3 hown1 hgrow hnil)
          rw [strCells_bytV, bytV_cat] at hown1
          obtain ⟨n, hn⟩ : ∃ n, n = 12 + 4 + 4 + p.opts.size := ⟨_, rfl⟩
          rw [← hn] at hown1
          have hn20 : 20 ≤ n := by omega
          have hn60 : n ≤ 60 := by omega
          have HQ3 := Lib.hid (HQr.out.grown hgrow (fun j hj => (HO5.out.lt j hj).1) (Nat.le_refl _))
          obtain ⟨g, cap, rfl, hg, hglt, hby, hlen⟩ := own_byts hown1 (by omega)
          have hsum : p.sum = sumL (l12 ++ AF ++ AT ++ p.opts.data.toList) := by
            unfold Pkt.sum
            rw [head_cells p l12 AF AT HL12.out HFT.out.1 HFT.out.2]
          have HW := Lib.hid (whole_cells p l12 AF AT HL12.out HFT.out.1 HFT.out.2)
          have hs := psum_le p
          have HNe := Lib.hid hn
          clear hown1 hgrow hnil hn HQr HO5 c15
          generalize l12 ++ AF ++ AT ++ p.opts.data.toList = l at *
          have HOf : Hid (∀ W, Calls Try.prog 22 #[.string ⟨l.toArray⟩] W fun e w' => e = .returned (.int .i64 (p.sum : Nat)) ∧ Below W.heap.size W w') := Lib.hid (fun W => by
            have h := rof_any ⟨l.toArray⟩ W (by show l.toArray.size ≤ 70000; simp; omega)
            rw [hsum]
            exact h)
          have hcv := byts_conv cap hby n hlen
          have HBy := Lib.hid hby
          have HLen := Lib.hid hlen
          have HG := Lib.hid (And.intro hg hglt)
          clear hsum hby hlen hg hglt
          generalize p.sum = S at *
          go_wp2_with fail
          clear hcv
          refine (HOf.out _).mono ?_
          rintro e w4 ⟨rfl, bb⟩
          have HQ4 := Lib.hid (HQ3.out.below bb (Nat.le_refl _))
          have HB4 := Lib.hid (byts_below HBy.out bb HG.out.2)
          have HG4 := Lib.hid (Nat.lt_of_lt_of_le HG.out.2 bb.size)
          clear bb HQ3 HBy
          have y1 := u8_nat (x := (S : Int) / 256) (by omega) (by omega)
          have y2 := u8_nat (x := (S : Int) % 256) (by omega) (by omega)
          have h10 := HB4.out 10 (by have := HLen.out; omega)
          have c10 := h10.1
          have z10 := h10.2
          have HY1 := Lib.hid y1
          have HY2 := Lib.hid y2
          clear h10 y1 y2
          have hi10 : (10 : Int) < (n : Int) := by omega
          have hi11 : (11 : Int) < (n : Int) := by omega
          go_upto_region 23 with (fail)
          clear c10 z10
          have hb5 := byts_set HB4.out 10 (Go.Proofs.Ytjfkfeobmcnonaa.u8 ((S : Int) / 256)) (by have := HLen.out; omega)
          rw [HY1.out] at hb5
          have HB5 := Lib.hid hb5
          have HQ5 := Lib.hid (HQ4.out.set (c := g) (by have := HG.out.1; omega) (by have := HG.out.1; omega) 10 (.int .u8 ((S : Int) / 256)))
          clear hb5 HB4 HQ4
          generalize w4.setCell ⟨g, 10, none⟩ (.int .u8 ((S : Int) / 256)) = w5 at *
          have h11 := HB5.out 11 (by have := HLen.out; simp; omega)
          have c11 := h11.1
          have z11 := h11.2
          clear h11
          go_upto_region 24 with (fail)
          clear c11 z11
          have hb6 := byts_set HB5.out 11 (Go.Proofs.Ytjfkfeobmcnonaa.u8 ((S : Int) % 256)) (by have := HLen.out; simp; omega)
          rw [HY2.out] at hb6
          have HQ6 := Lib.hid (HQ5.out.set (c := g) (by have := HG.out.1; omega) (by have := HG.out.1; omega) 11 (.int .u8 ((S : Int) % 256)))
          have hcv := byts_conv cap hb6 n (by have := HLen.out; simp; omega)
          clear hb6 HB5 HQ5
          generalize w5.setCell ⟨g, 11, none⟩ (.int .u8 ((S : Int) % 256)) = w6 at *
          obtain ⟨T, hT⟩ : ∃ T : ByteArray, T = ⟨((l.set 10 (Go.Proofs.Ytjfkfeobmcnonaa.u8 ((S : Int) / 256))).set 11 (Go.Proofs.Ytjfkfeobmcnonaa.u8 ((S : Int) % 256))).toArray⟩ := ⟨_, rfl⟩
          have hTz : T.size = n := by rw [hT, ← ba_size, List.toList_toArray, List.length_set, List.length_set]; exact HLen.out
          have hw := HW.out
          rw [← hT] at hcv hw
          have HW2 := Lib.hid hw
          clear hT hw HW
          have c16 := HQ6.out.at HC.out.1
          have zc := cat_len
          have zo : ¬ 9223372036854775807 < n + p.data.size := by omega
          go_wp2_with fail
          go_ret2
          rw [HW2.out]
          exact ⟨rfl, HQ6.out.2.1⟩
set_option maxRecDepth 100000 in
set_option maxHeartbeats 1000000 in
theorem rbytes_ft (p : Pkt) (w : World) (hy : p.why = 0) (ha : p.byt) (hdf : p.df = false) (hmo : p.more = true) :
    Calls Try.prog 20 #[.agg p.vals.toArray] w fun e w' => e = .returned (.tuple #[.string p.bytes, .int .i64 0]) ∧ Below w.heap.size w w' := by
  obtain ⟨hb, ho, ho4, _, hl⟩ := why_ok hy
  obtain ⟨t0, t1, l0, l1, r0, r1, i0, i1, p0, p1, p8⟩ := bnd_pl hb
  obtain ⟨q0, q1⟩ := place_lt p0 p1
  obtain ⟨V, hV⟩ : ∃ V, V = (p).vals := ⟨_, rfl⟩
  have HIV : Hid ((Try.prog.info? 29).map (·.size) = some V.length) := Lib.hid (by rw [hV]; exact Try.infoIp (p))
  have HOV : Hid (V.toArray.all (·.oneCell') = true) := Lib.hid (by rw [hV]; exact vals_one (p))
  have HPV : Hid (∀ q : Pkt, puts q.vals.toArray 0 V = V.toArray) := Lib.hid (fun q => by rw [hV]; exact puts_all q (p))
  have HSV : Hid (V.toArray.size = 17) := Lib.hid (by rw [hV]; rfl)
  have HWy : Hid (∀ W, Calls Try.prog 38 #[.agg V.toArray] W fun e w' => e = .returned (.int .i64 0) ∧ Below W.heap.size W w') := Lib.hid (fun W => by rw [hV, ← hy]; exact rwhy_any p W (by omega) (by omega))
  have HC : Hid (V[16]? = some (.string p.data) ∧ V[15]? = some (.string p.opts) ∧ V[0]? = some (.int .i64 p.tos) ∧ V[1]? = some (.int .i64 p.id) ∧ V[2]? = some (.int .i64 p.ttl) ∧ V[3]? = some (.int .i64 p.proto) ∧ V[4]? = some (.int .i64 p.pl) ∧ V[5]? = some (.bool false) ∧ V[6]? = some (.bool true)) := Lib.hid (by rw [hV]; exact ⟨rfl, rfl, rfl, rfl, rfl, rfl, rfl, by show some (Value.bool p.df) = _; rw [hdf], by show some (Value.bool p.more) = _; rw [hmo]⟩)
  have hP : p.place = p.pl / 8 + 8192 := by unfold Pkt.place; rw [hdf, hmo]; simp
  rw [← hV]
  have HV := Lib.hid hV
  clear hV
  have HQ0 := Lib.hid (QB.new w V)
  have hr := HQ0.out.1.range
  have HU := Lib.hid (And.intro hy (And.intro hb (And.intro hdf hmo)))
  have HPl := Lib.hid hP
  clear hy hb hdf hmo hP q0 q1
  go_enter Try.func20, Try.ntmps20
  go_wp2_with (refine wpList_load_mid rfl 29 _ rfl w.heap.size 0 rfl V _ hr Try.underlying29 rfl HIV.out ?_)
  clear hr
  refine (HWy.out _).mono ?_
  rintro e w1 ⟨rfl, b1⟩
  have HQw1 := Lib.hid (HQ0.out.below b1 (Nat.le_refl _))
  clear b1 HQ0
  obtain ⟨N, hN⟩ : ∃ N : Nat, (20 : Int) + (p.opts.size : Int) = (N : Int) := ⟨20 + p.opts.size, by omega⟩
  obtain ⟨L, hL⟩ : ∃ L : Nat, (N : Int) + (p.data.size : Int) = (L : Int) := ⟨N + p.data.size, by omega⟩
  have hN1 : N ≤ 60 := by omega
  have hL1 : L ≤ 65535 := by omega
  obtain ⟨g16, g15, g0, g1, g2, g3, g4, g5, g6⟩ := HC.out
  have c16 := HQw1.out.at g16
  have c15 := HQw1.out.at g15
  have c0 := HQw1.out.at g0
  have c1 := HQw1.out.at g1
  have c2 := HQw1.out.at g2
  have c3 := HQw1.out.at g3
  have c4 := HQw1.out.at g4
  have c5 := HQw1.out.at g5
  have c6 := HQw1.out.at g6
  have hP8 : 0 ≤ p.pl / 8 := by omega
  have hP9 : p.pl / 8 ≤ 8191 := by omega
  clear g16 g15 g0 g1 g2 g3 g4 g5 g6
  go_upto_region 12 with (fail)
  clear c16 c15 c0 c1 c2 c3 c4 c5 c6
  obtain ⟨l12, hl12⟩ : ∃ l : List UInt8, l = [u8 (64 + (N : Int) / 4), u8 p.tos, u8 ((L : Int) / 256), u8 ((L : Int) % 256), u8 (p.id / 256), u8 (p.id % 256), u8 ((p.pl / 8 + 8192) / 256), u8 ((p.pl / 8 + 8192) % 256), u8 p.ttl, u8 p.proto, u8 0, u8 0] := ⟨_, rfl⟩
  have hA := bytV12 (x0 := 64 + (N : Int) / 4) (x1 := p.tos) (x2 := (L : Int) / 256) (x3 := (L : Int) % 256) (x4 := p.id / 256) (x5 := p.id % 256) (x6 := (p.pl / 8 + 8192) / 256) (x7 := (p.pl / 8 + 8192) % 256) (x8 := p.ttl) (x9 := p.proto) (by omega) (by omega) (by omega) (by omega) (by omega) (by omega) (by omega) (by omega) (by omega) (by omega)
  rw [← hl12] at hA
  have hz12 : l12.length = 12 := by rw [hl12]; rfl
  have HL12 : Hid (l12 = p.b8 ++ [u8 p.ttl, u8 p.proto, u8 0, u8 0]) := Lib.hid (by
    have hpp : p.place = (p.pl / 8 + 8192) := by have := HPl.out; omega
    rw [hl12]
    unfold Pkt.b8 Pkt.all
    rw [hN, hL, hpp]
    rfl)
  rw [hA]
  have hw := own_start (w := w1) (base := w.heap.size + 1) _ l12 rfl 12 hz12 (by unfold maxLen; omega) HQw1.out.1.lt
  have HO := Lib.hid hw
  have HQw2 := Lib.hid (HQw1.out.alloc (.cells (bytV l12).toArray 5))
  clear hA hl12 HQw1 hw hP8 hP9
  generalize w1.alloc (.cells (bytV l12).toArray 5) = w2 at *
  generalize (.slice (some ⟨w1.heap.size, 0, none⟩) 12 12 : Value) = v0 at *
  obtain ⟨i9, hi9, hz0, hz1, hz2⟩ := info_parts Try.infoU8
  have HI := Lib.hid hi9
  have H0 := Lib.hid hz0
  have H1 := Lib.hid hz1
  have H2 := Lib.hid hz2
  have HZ12 := Lib.hid hz12
  clear hi9 hz0 hz1 hz2 hz12
  obtain ⟨AF, hAF⟩ : ∃ l : List UInt8, l = [u8 p.a0, u8 p.a1, u8 p.a2, u8 p.a3] := ⟨_, rfl⟩
  obtain ⟨AT, hAT⟩ : ∃ l : List UInt8, l = [u8 p.b0, u8 p.b1, u8 p.b2, u8 p.b3] := ⟨_, rfl⟩
  obtain ⟨⟨a00, a01⟩, ⟨a10, a11⟩, ⟨a20, a21⟩, ⟨a30, a31⟩, ⟨b00, b01⟩, ⟨b10, b11⟩, ⟨b20, b21⟩, ⟨b30, b31⟩⟩ := ha
  have HF : Hid (AF.length = 4 ∧ ∀ k, k < 4 → V[7 + k]? = some (.int .u8 ((AF.getD k 0).toNat : Int))) := Lib.hid ⟨by rw [hAF]; rfl, fun k hk => by
    rw [HV.out, hAF]
    match k, hk with
    | 0, _ => show some (Value.int .u8 p.a0) = some (.int .u8 ((u8 p.a0).toNat : Int)); rw [u8_nat a00 a01]
    | 1, _ => show some (Value.int .u8 p.a1) = some (.int .u8 ((u8 p.a1).toNat : Int)); rw [u8_nat a10 a11]
    | 2, _ => show some (Value.int .u8 p.a2) = some (.int .u8 ((u8 p.a2).toNat : Int)); rw [u8_nat a20 a21]
    | 3, _ => show some (Value.int .u8 p.a3) = some (.int .u8 ((u8 p.a3).toNat : Int)); rw [u8_nat a30 a31]⟩
  have HT : Hid (AT.length = 4 ∧ ∀ k, k < 4 → V[11 + k]? = some (.int .u8 ((AT.getD k 0).toNat : Int))) := Lib.hid ⟨by rw [hAT]; rfl, fun k hk => by
    rw [HV.out, hAT]
    match k, hk with
    | 0, _ => show some (Value.int .u8 p.b0) = some (.int .u8 ((u8 p.b0).toNat : Int)); rw [u8_nat b00 b01]
    | 1, _ => show some (Value.int .u8 p.b1) = some (.int .u8 ((u8 p.b1).toNat : Int)); rw [u8_nat b10 b11]
    | 2, _ => show some (Value.int .u8 p.b2) = some (.int .u8 ((u8 p.b2).toNat : Int)); rw [u8_nat b20 b21]
    | 3, _ => show some (Value.int .u8 p.b3) = some (.int .u8 ((u8 p.b3).toNat : Int)); rw [u8_nat b30 b31]⟩
  have HFT := Lib.hid (And.intro hAF hAT)
  clear hAF hAT a00 a01 a10 a11 a20 a21 a30 a31 b00 b01 b10 b11 b20 b21 b30 b31
  go_wp2_with fail
  go_loopw [8, 9] (fun v i wr => ∃ k : Nat, k ≤ 4 ∧ i = .int .i64 k ∧ wr.ownsRow (w.heap.size + 1) 5 1 v (12 + k) (bytV (l12 ++ AF.take k)) ∧ QB w w.heap.size w.heap.size V wr) (fun _ i _ => 4 - (intOf i).toNat)
  case atStart => exact ⟨0, by omega, rfl, by simpa using HO.out, HQw2.out⟩
  case round =>
    obtain ⟨k, hk, rfl, hown, hq⟩ := hrel
    have HOk := Lib.hid hown
    have HQk := Lib.hid hq
    clear hown hq
    by_cases hlt : k < 4
    · have ck := HQk.out.at (HF.out.2 k hlt)
      have HX1 : Hid (12 + k + 1 ≤ maxLen) := Lib.hid (by unfold maxLen; omega)
      have HX2 : Hid ((12 + k + 1) * 1 ≤ 140737488355328) := Lib.hid (by omega)
      have hlt2 : (k : Int) < 4 := by omega
      have HSN := Lib.hid (bytV_snoc l12 AF k (by rw [HF.out.1]; exact hlt))
      generalize AF.getD k 0 = cc at *
      have HX3 : Hid (w.heap.size + 1 ≤ (wr.alloc (.cells #[.int .u8 (cc.toNat : Int)] 5)).heap.size) := Lib.hid (by have := HQk.out.1.lt; simp; omega)
      go_wp2_with (at_builtin; refine wpList_append_own _ rfl _ _ 45 rfl (w.heap.size + 1) 5 i9 (.int .u8 0) 1 1 Try.underlying45 HI.out H0.out H1.out H2.out rfl Nat.one_pos _ (12 + k) (bytV (l12 ++ AF.take k)) rfl (HOk.out.alloc _) ⟨wr.heap.size, 0, none⟩ 1 1 [.int .u8 (cc.toNat : Int)] rfl rfl (World.news_of_block (cs := #[.int .u8 (cc.toNat : Int)]) (t := 5) (fr := (0, 0)) (heap_alloc_new wr _)) (by simp [Value.oneCell']) HX1.out HX2.out HX3.out ?_; intro v1 w3 hown1 hgrow hnil)
      rw [HSN.out] at hown1
      have HQ3 := Lib.hid ((HQk.out.alloc (.cells #[.int .u8 (cc.toNat : Int)] 5)).grown hgrow (fun j hj => (HOk.out.lt j hj).1) (Nat.le_refl _))
      have HO3 := Lib.hid hown1
      clear hown1 hgrow hnil ck
      go_wp2_with fail
      go_roundw
      case rel => exact ⟨k + 1, by omega, by go_num, HO3.out, HQ3.out⟩
      case measure => simp [intOf]; omega
    · obtain rfl : k = 4 := by omega
      clear hlt hk HO HQw2
      have h := HOk.out
      rw [List.take_of_length_le (by rw [HF.out.1]; exact Nat.le_refl _)] at h
      have HO4 := Lib.hid h
      have hzf : (l12 ++ AF).length = 16 := by rw [List.length_append, HZ12.out, HF.out.1]
      have HZF := Lib.hid hzf
      clear h hzf HOk
      simp only [Int.cast_ofNat_Int]
      go_wp2_with fail
      go_loopw [8, 10] (fun v i wr => ∃ k : Nat, k ≤ 4 ∧ i = .int .i64 k ∧ wr.ownsRow (w.heap.size + 1) 5 1 v (12 + 4 + k) (bytV ((l12 ++ AF) ++ AT.take k)) ∧ QB w w.heap.size w.heap.size V wr) (fun _ i _ => 4 - (intOf i).toNat)
      case atStart => exact ⟨0, by omega, rfl, by simpa using HO4.out, HQk.out⟩
      case round =>
        obtain ⟨k, hk, rfl, hown, hq⟩ := hrel
        have HOk := Lib.hid hown
        have HQr := Lib.hid hq
        clear hown hq
        by_cases hlt : k < 4
        · have ck := HQr.out.at (HT.out.2 k hlt)
          have HX1 : Hid (12 + 4 + k + 1 ≤ maxLen) := Lib.hid (by unfold maxLen; omega)
          have HX2 : Hid ((12 + 4 + k + 1) * 1 ≤ 140737488355328) := Lib.hid (by omega)
          have hlt2 : (k : Int) < 4 := by omega
          have HSN := Lib.hid (bytV_snoc (l12 ++ AF) AT k (by rw [HT.out.1]; exact hlt))
          generalize AT.getD k 0 = cc at *
          have HX3 : Hid (w.heap.size + 1 ≤ (wr.alloc (.cells #[.int .u8 (cc.toNat : Int)] 5)).heap.size) := Lib.hid (by have := HQr.out.1.lt; simp; omega)
          go_wp2_with (at_builtin; refine wpList_append_own _ rfl _ _ 45 rfl (w.heap.size + 1) 5 i9 (.int .u8 0) 1 1 Try.underlying45 HI.out H0.out H1.out H2.out rfl Nat.one_pos _ (12 + 4 + k) (bytV ((l12 ++ AF) ++ AT.take k)) rfl (HOk.out.alloc _) ⟨wr.heap.size, 0, none⟩ 1 1 [.int .u8 (cc.toNat : Int)] rfl rfl (World.news_of_block (cs := #[.int .u8 (cc.toNat : Int)]) (t := 5) (fr := (0, 0)) (heap_alloc_new wr _)) (by simp [Value.oneCell']) HX1.out HX2.out HX3.out ?_; intro v1 w3 hown1 hgrow hnil)
          rw [HSN.out] at hown1
          have HQ3 := Lib.hid ((HQr.out.alloc (.cells #[.int .u8 (cc.toNat : Int)] 5)).grown hgrow (fun j hj => (HOk.out.lt j hj).1) (Nat.le_refl _))
          have HO3 := Lib.hid hown1
          clear hown1 hgrow hnil ck
          go_wp2_with fail
          go_roundw
          case rel => exact ⟨k + 1, by omega, by go_num, HO3.out, HQ3.out⟩
          case measure => simp [intOf]; omega
        · obtain rfl : k = 4 := by omega
          clear hlt hk HO4 HQk
          have h := HOk.out
          rw [List.take_of_length_le (by rw [HT.out.1]; exact Nat.le_refl _)] at h
          have HO5 := Lib.hid h
          clear h HOk
          have c15 := HQr.out.at HC.out.2.1
          have HX1 : Hid (12 + 4 + 4 + p.opts.size ≤ maxLen) := Lib.hid (by unfold maxLen; omega)
          have HX2 : Hid (12 + 4 + 4 + p.opts.size ≤ 140737488355328) := Lib.hid (by omega)
          have HX3 : Hid (w.heap.size + 1 ≤ wr.heap.size) := Lib.hid HQr.out.1.lt
          go_upto_region 21 with (at_builtin; refine Go.Lib.wpList_append_own_string _ rfl _ _ 45 9 rfl (w.heap.size + 1) 5 i9 Try.underlying45 Try.underlying9 HI.out H0.out H1.out H2.out _ (12 + 4 + 4) (bytV ((l12 ++ AF) ++ AT)) rfl HO5.out p.opts rfl HX1.out HX2.out HX3.out ?_; intro v1 w3 hown1 hgrow hnil)
          rw [strCells_bytV, bytV_cat] at hown1
          obtain ⟨n, hn⟩ : ∃ n, n = 12 + 4 + 4 + p.opts.size := ⟨_, rfl⟩
          rw [← hn] at hown1
          have hn20 : 20 ≤ n := by omega
          have hn60 : n ≤ 60 := by omega
          have HQ3 := Lib.hid (HQr.out.grown hgrow (fun j hj => (HO5.out.lt j hj).1) (Nat.le_refl _))
          obtain ⟨g, cap, rfl, hg, hglt, hby, hlen⟩ := own_byts hown1 (by omega)
          have hsum : p.sum = sumL (l12 ++ AF ++ AT ++ p.opts.data.toList) := by
            unfold Pkt.sum
            rw [head_cells p l12 AF AT HL12.out HFT.out.1 HFT.out.2]
          have HW := Lib.hid (whole_cells p l12 AF AT HL12.out HFT.out.1 HFT.out.2)
          have hs := psum_le p
          have HNe := Lib.hid hn
          clear hown1 hgrow hnil hn HQr HO5 c15
          generalize l12 ++ AF ++ AT ++ p.opts.data.toList = l at *
          have HOf : Hid (∀ W, Calls Try.prog 22 #[.string ⟨l.toArray⟩] W fun e w' => e = .returned (.int .i64 (p.sum : Nat)) ∧ Below W.heap.size W w') := Lib.hid (fun W => by
            have h := rof_any ⟨l.toArray⟩ W (by show l.toArray.size ≤ 70000; simp; omega)
            rw [hsum]
            exact h)
          have hcv := byts_conv cap hby n hlen
          have HBy := Lib.hid hby
          have HLen := Lib.hid hlen
          have HG := Lib.hid (And.intro hg hglt)
          clear hsum hby hlen hg hglt
          generalize p.sum = S at *
          go_wp2_with fail
          clear hcv
          refine (HOf.out _).mono ?_
          rintro e w4 ⟨rfl, bb⟩
          have HQ4 := Lib.hid (HQ3.out.below bb (Nat.le_refl _))
          have HB4 := Lib.hid (byts_below HBy.out bb HG.out.2)
          have HG4 := Lib.hid (Nat.lt_of_lt_of_le HG.out.2 bb.size)
          clear bb HQ3 HBy
          have y1 := u8_nat (x := (S : Int) / 256) (by omega) (by omega)
          have y2 := u8_nat (x := (S : Int) % 256) (by omega) (by omega)
          have h10 := HB4.out 10 (by have := HLen.out; omega)
          have c10 := h10.1
          have z10 := h10.2
          have HY1 := Lib.hid y1
          have HY2 := Lib.hid y2
          clear h10 y1 y2
          have hi10 : (10 : Int) < (n : Int) := by omega
          have hi11 : (11 : Int) < (n : Int) := by omega
          go_upto_region 23 with (fail)
          clear c10 z10
          have hb5 := byts_set HB4.out 10 (Go.Proofs.Ytjfkfeobmcnonaa.u8 ((S : Int) / 256)) (by have := HLen.out; omega)
          rw [HY1.out] at hb5
          have HB5 := Lib.hid hb5
          have HQ5 := Lib.hid (HQ4.out.set (c := g) (by have := HG.out.1; omega) (by have := HG.out.1; omega) 10 (.int .u8 ((S : Int) / 256)))
          clear hb5 HB4 HQ4
          generalize w4.setCell ⟨g, 10, none⟩ (.int .u8 ((S : Int) / 256)) = w5 at *
          have h11 := HB5.out 11 (by have := HLen.out; simp; omega)
          have c11 := h11.1
          have z11 := h11.2
          clear h11
          go_upto_region 24 with (fail)
          clear c11 z11
          have hb6 := byts_set HB5.out 11 (Go.Proofs.Ytjfkfeobmcnonaa.u8 ((S : Int) % 256)) (by have := HLen.out; simp; omega)
          rw [HY2.out] at hb6
          have HQ6 := Lib.hid (HQ5.out.set (c := g) (by have := HG.out.1; omega) (by have := HG.out.1; omega) 11 (.int .u8 ((S : Int) % 256)))
          have hcv := byts_conv cap hb6 n (by have := HLen.out; simp; omega)
          clear hb6 HB5 HQ5
          generalize w5.setCell ⟨g, 11, none⟩ (.int .u8 ((S : Int) % 256)) = w6 at *
          obtain ⟨T, hT⟩ : ∃ T : ByteArray, T = ⟨((l.set 10 (Go.Proofs.Ytjfkfeobmcnonaa.u8 ((S : Int) / 256))).set 11 (Go.Proofs.Ytjfkfeobmcnonaa.u8 ((S : Int) % 256))).toArray⟩ := ⟨_, rfl⟩
          have hTz : T.size = n := by rw [hT, ← ba_size, List.toList_toArray, List.length_set, List.length_set]; exact HLen.out
          have hw := HW.out
          rw [← hT] at hcv hw
          have HW2 := Lib.hid hw
          clear hT hw HW
          have c16 := HQ6.out.at HC.out.1
          have zc := cat_len
          have zo : ¬ 9223372036854775807 < n + p.data.size := by omega
          go_wp2_with fail
          go_ret2
          rw [HW2.out]
          exact ⟨rfl, HQ6.out.2.1⟩
set_option maxRecDepth 100000 in
set_option maxHeartbeats 1000000 in
theorem rbytes_ff (p : Pkt) (w : World) (hy : p.why = 0) (ha : p.byt) (hdf : p.df = false) (hmo : p.more = false) :
    Calls Try.prog 20 #[.agg p.vals.toArray] w fun e w' => e = .returned (.tuple #[.string p.bytes, .int .i64 0]) ∧ Below w.heap.size w w' := by
  obtain ⟨hb, ho, ho4, _, hl⟩ := why_ok hy
  obtain ⟨t0, t1, l0, l1, r0, r1, i0, i1, p0, p1, p8⟩ := bnd_pl hb
  obtain ⟨q0, q1⟩ := place_lt p0 p1
  obtain ⟨V, hV⟩ : ∃ V, V = (p).vals := ⟨_, rfl⟩
  have HIV : Hid ((Try.prog.info? 29).map (·.size) = some V.length) := Lib.hid (by rw [hV]; exact Try.infoIp (p))
  have HOV : Hid (V.toArray.all (·.oneCell') = true) := Lib.hid (by rw [hV]; exact vals_one (p))
  have HPV : Hid (∀ q : Pkt, puts q.vals.toArray 0 V = V.toArray) := Lib.hid (fun q => by rw [hV]; exact puts_all q (p))
  have HSV : Hid (V.toArray.size = 17) := Lib.hid (by rw [hV]; rfl)
  have HWy : Hid (∀ W, Calls Try.prog 38 #[.agg V.toArray] W fun e w' => e = .returned (.int .i64 0) ∧ Below W.heap.size W w') := Lib.hid (fun W => by rw [hV, ← hy]; exact rwhy_any p W (by omega) (by omega))
  have HC : Hid (V[16]? = some (.string p.data) ∧ V[15]? = some (.string p.opts) ∧ V[0]? = some (.int .i64 p.tos) ∧ V[1]? = some (.int .i64 p.id) ∧ V[2]? = some (.int .i64 p.ttl) ∧ V[3]? = some (.int .i64 p.proto) ∧ V[4]? = some (.int .i64 p.pl) ∧ V[5]? = some (.bool false) ∧ V[6]? = some (.bool false)) := Lib.hid (by rw [hV]; exact ⟨rfl, rfl, rfl, rfl, rfl, rfl, rfl, by show some (Value.bool p.df) = _; rw [hdf], by show some (Value.bool p.more) = _; rw [hmo]⟩)
  have hP : p.place = p.pl / 8 + 0 := by unfold Pkt.place; rw [hdf, hmo]; simp
  rw [← hV]
  have HV := Lib.hid hV
  clear hV
  have HQ0 := Lib.hid (QB.new w V)
  have hr := HQ0.out.1.range
  have HU := Lib.hid (And.intro hy (And.intro hb (And.intro hdf hmo)))
  have HPl := Lib.hid hP
  clear hy hb hdf hmo hP q0 q1
  go_enter Try.func20, Try.ntmps20
  go_wp2_with (refine wpList_load_mid rfl 29 _ rfl w.heap.size 0 rfl V _ hr Try.underlying29 rfl HIV.out ?_)
  clear hr
  refine (HWy.out _).mono ?_
  rintro e w1 ⟨rfl, b1⟩
  have HQw1 := Lib.hid (HQ0.out.below b1 (Nat.le_refl _))
  clear b1 HQ0
  obtain ⟨N, hN⟩ : ∃ N : Nat, (20 : Int) + (p.opts.size : Int) = (N : Int) := ⟨20 + p.opts.size, by omega⟩
  obtain ⟨L, hL⟩ : ∃ L : Nat, (N : Int) + (p.data.size : Int) = (L : Int) := ⟨N + p.data.size, by omega⟩
  have hN1 : N ≤ 60 := by omega
  have hL1 : L ≤ 65535 := by omega
  obtain ⟨g16, g15, g0, g1, g2, g3, g4, g5, g6⟩ := HC.out
  have c16 := HQw1.out.at g16
  have c15 := HQw1.out.at g15
  have c0 := HQw1.out.at g0
  have c1 := HQw1.out.at g1
  have c2 := HQw1.out.at g2
  have c3 := HQw1.out.at g3
  have c4 := HQw1.out.at g4
  have c5 := HQw1.out.at g5
  have c6 := HQw1.out.at g6
  have hP8 : 0 ≤ p.pl / 8 := by omega
  have hP9 : p.pl / 8 ≤ 8191 := by omega
  clear g16 g15 g0 g1 g2 g3 g4 g5 g6
  go_upto_region 12 with (fail)
  clear c16 c15 c0 c1 c2 c3 c4 c5 c6
  obtain ⟨l12, hl12⟩ : ∃ l : List UInt8, l = [u8 (64 + (N : Int) / 4), u8 p.tos, u8 ((L : Int) / 256), u8 ((L : Int) % 256), u8 (p.id / 256), u8 (p.id % 256), u8 ((p.pl / 8) / 256), u8 ((p.pl / 8) % 256), u8 p.ttl, u8 p.proto, u8 0, u8 0] := ⟨_, rfl⟩
  have hA := bytV12 (x0 := 64 + (N : Int) / 4) (x1 := p.tos) (x2 := (L : Int) / 256) (x3 := (L : Int) % 256) (x4 := p.id / 256) (x5 := p.id % 256) (x6 := (p.pl / 8) / 256) (x7 := (p.pl / 8) % 256) (x8 := p.ttl) (x9 := p.proto) (by omega) (by omega) (by omega) (by omega) (by omega) (by omega) (by omega) (by omega) (by omega) (by omega)
  rw [← hl12] at hA
  have hz12 : l12.length = 12 := by rw [hl12]; rfl
  have HL12 : Hid (l12 = p.b8 ++ [u8 p.ttl, u8 p.proto, u8 0, u8 0]) := Lib.hid (by
    have hpp : p.place = (p.pl / 8) := by have := HPl.out; omega
    rw [hl12]
    unfold Pkt.b8 Pkt.all
    rw [hN, hL, hpp]
    rfl)
  rw [hA]
  have hw := own_start (w := w1) (base := w.heap.size + 1) _ l12 rfl 12 hz12 (by unfold maxLen; omega) HQw1.out.1.lt
  have HO := Lib.hid hw
  have HQw2 := Lib.hid (HQw1.out.alloc (.cells (bytV l12).toArray 5))
  clear hA hl12 HQw1 hw hP8 hP9
  generalize w1.alloc (.cells (bytV l12).toArray 5) = w2 at *
  generalize (.slice (some ⟨w1.heap.size, 0, none⟩) 12 12 : Value) = v0 at *
  obtain ⟨i9, hi9, hz0, hz1, hz2⟩ := info_parts Try.infoU8
  have HI := Lib.hid hi9
  have H0 := Lib.hid hz0
  have H1 := Lib.hid hz1
  have H2 := Lib.hid hz2
  have HZ12 := Lib.hid hz12
  clear hi9 hz0 hz1 hz2 hz12
  obtain ⟨AF, hAF⟩ : ∃ l : List UInt8, l = [u8 p.a0, u8 p.a1, u8 p.a2, u8 p.a3] := ⟨_, rfl⟩
  obtain ⟨AT, hAT⟩ : ∃ l : List UInt8, l = [u8 p.b0, u8 p.b1, u8 p.b2, u8 p.b3] := ⟨_, rfl⟩
  obtain ⟨⟨a00, a01⟩, ⟨a10, a11⟩, ⟨a20, a21⟩, ⟨a30, a31⟩, ⟨b00, b01⟩, ⟨b10, b11⟩, ⟨b20, b21⟩, ⟨b30, b31⟩⟩ := ha
  have HF : Hid (AF.length = 4 ∧ ∀ k, k < 4 → V[7 + k]? = some (.int .u8 ((AF.getD k 0).toNat : Int))) := Lib.hid ⟨by rw [hAF]; rfl, fun k hk => by
    rw [HV.out, hAF]
    match k, hk with
    | 0, _ => show some (Value.int .u8 p.a0) = some (.int .u8 ((u8 p.a0).toNat : Int)); rw [u8_nat a00 a01]
    | 1, _ => show some (Value.int .u8 p.a1) = some (.int .u8 ((u8 p.a1).toNat : Int)); rw [u8_nat a10 a11]
    | 2, _ => show some (Value.int .u8 p.a2) = some (.int .u8 ((u8 p.a2).toNat : Int)); rw [u8_nat a20 a21]
    | 3, _ => show some (Value.int .u8 p.a3) = some (.int .u8 ((u8 p.a3).toNat : Int)); rw [u8_nat a30 a31]⟩
  have HT : Hid (AT.length = 4 ∧ ∀ k, k < 4 → V[11 + k]? = some (.int .u8 ((AT.getD k 0).toNat : Int))) := Lib.hid ⟨by rw [hAT]; rfl, fun k hk => by
    rw [HV.out, hAT]
    match k, hk with
    | 0, _ => show some (Value.int .u8 p.b0) = some (.int .u8 ((u8 p.b0).toNat : Int)); rw [u8_nat b00 b01]
    | 1, _ => show some (Value.int .u8 p.b1) = some (.int .u8 ((u8 p.b1).toNat : Int)); rw [u8_nat b10 b11]
    | 2, _ => show some (Value.int .u8 p.b2) = some (.int .u8 ((u8 p.b2).toNat : Int)); rw [u8_nat b20 b21]
    | 3, _ => show some (Value.int .u8 p.b3) = some (.int .u8 ((u8 p.b3).toNat : Int)); rw [u8_nat b30 b31]⟩
  have HFT := Lib.hid (And.intro hAF hAT)
  clear hAF hAT a00 a01 a10 a11 a20 a21 a30 a31 b00 b01 b10 b11 b20 b21 b30 b31
  go_wp2_with fail
  go_loopw [8, 9] (fun v i wr => ∃ k : Nat, k ≤ 4 ∧ i = .int .i64 k ∧ wr.ownsRow (w.heap.size + 1) 5 1 v (12 + k) (bytV (l12 ++ AF.take k)) ∧ QB w w.heap.size w.heap.size V wr) (fun _ i _ => 4 - (intOf i).toNat)
  case atStart => exact ⟨0, by omega, rfl, by simpa using HO.out, HQw2.out⟩
  case round =>
    obtain ⟨k, hk, rfl, hown, hq⟩ := hrel
    have HOk := Lib.hid hown
    have HQk := Lib.hid hq
    clear hown hq
    by_cases hlt : k < 4
    · have ck := HQk.out.at (HF.out.2 k hlt)
      have HX1 : Hid (12 + k + 1 ≤ maxLen) := Lib.hid (by unfold maxLen; omega)
      have HX2 : Hid ((12 + k + 1) * 1 ≤ 140737488355328) := Lib.hid (by omega)
      have hlt2 : (k : Int) < 4 := by omega
      have HSN := Lib.hid (bytV_snoc l12 AF k (by rw [HF.out.1]; exact hlt))
      generalize AF.getD k 0 = cc at *
      have HX3 : Hid (w.heap.size + 1 ≤ (wr.alloc (.cells #[.int .u8 (cc.toNat : Int)] 5)).heap.size) := Lib.hid (by have := HQk.out.1.lt; simp; omega)
      go_wp2_with (at_builtin; refine wpList_append_own _ rfl _ _ 45 rfl (w.heap.size + 1) 5 i9 (.int .u8 0) 1 1 Try.underlying45 HI.out H0.out H1.out H2.out rfl Nat.one_pos _ (12 + k) (bytV (l12 ++ AF.take k)) rfl (HOk.out.alloc _) ⟨wr.heap.size, 0, none⟩ 1 1 [.int .u8 (cc.toNat : Int)] rfl rfl (World.news_of_block (cs := #[.int .u8 (cc.toNat : Int)]) (t := 5) (fr := (0, 0)) (heap_alloc_new wr _)) (by simp [Value.oneCell']) HX1.out HX2.out HX3.out ?_; intro v1 w3 hown1 hgrow hnil)
      rw [HSN.out] at hown1
      have HQ3 := Lib.hid ((HQk.out.alloc (.cells #[.int .u8 (cc.toNat : Int)] 5)).grown hgrow (fun j hj => (HOk.out.lt j hj).1) (Nat.le_refl _))
      have HO3 := Lib.hid hown1
      clear hown1 hgrow hnil ck
      go_wp2_with fail
      go_roundw
      case rel => exact ⟨k + 1, by omega, by go_num, HO3.out, HQ3.out⟩
      case measure => simp [intOf]; omega
    · obtain rfl : k = 4 := by omega
      clear hlt hk HO HQw2
      have h := HOk.out
      rw [List.take_of_length_le (by rw [HF.out.1]; exact Nat.le_refl _)] at h
      have HO4 := Lib.hid h
      have hzf : (l12 ++ AF).length = 16 := by rw [List.length_append, HZ12.out, HF.out.1]
      have HZF := Lib.hid hzf
      clear h hzf HOk
      simp only [Int.cast_ofNat_Int]
      go_wp2_with fail
      go_loopw [8, 10] (fun v i wr => ∃ k : Nat, k ≤ 4 ∧ i = .int .i64 k ∧ wr.ownsRow (w.heap.size + 1) 5 1 v (12 + 4 + k) (bytV ((l12 ++ AF) ++ AT.take k)) ∧ QB w w.heap.size w.heap.size V wr) (fun _ i _ => 4 - (intOf i).toNat)
      case atStart => exact ⟨0, by omega, rfl, by simpa using HO4.out, HQk.out⟩
      case round =>
        obtain ⟨k, hk, rfl, hown, hq⟩ := hrel
        have HOk := Lib.hid hown
        have HQr := Lib.hid hq
        clear hown hq
        by_cases hlt : k < 4
        · have ck := HQr.out.at (HT.out.2 k hlt)
          have HX1 : Hid (12 + 4 + k + 1 ≤ maxLen) := Lib.hid (by unfold maxLen; omega)
          have HX2 : Hid ((12 + 4 + k + 1) * 1 ≤ 140737488355328) := Lib.hid (by omega)
          have hlt2 : (k : Int) < 4 := by omega
          have HSN := Lib.hid (bytV_snoc (l12 ++ AF) AT k (by rw [HT.out.1]; exact hlt))
          generalize AT.getD k 0 = cc at *
          have HX3 : Hid (w.heap.size + 1 ≤ (wr.alloc (.cells #[.int .u8 (cc.toNat : Int)] 5)).heap.size) := Lib.hid (by have := HQr.out.1.lt; simp; omega)
          go_wp2_with (at_builtin; refine wpList_append_own _ rfl _ _ 45 rfl (w.heap.size + 1) 5 i9 (.int .u8 0) 1 1 Try.underlying45 HI.out H0.out H1.out H2.out rfl Nat.one_pos _ (12 + 4 + k) (bytV ((l12 ++ AF) ++ AT.take k)) rfl (HOk.out.alloc _) ⟨wr.heap.size, 0, none⟩ 1 1 [.int .u8 (cc.toNat : Int)] rfl rfl (World.news_of_block (cs := #[.int .u8 (cc.toNat : Int)]) (t := 5) (fr := (0, 0)) (heap_alloc_new wr _)) (by simp [Value.oneCell']) HX1.out HX2.out HX3.out ?_; intro v1 w3 hown1 hgrow hnil)
          rw [HSN.out] at hown1
          have HQ3 := Lib.hid ((HQr.out.alloc (.cells #[.int .u8 (cc.toNat : Int)] 5)).grown hgrow (fun j hj => (HOk.out.lt j hj).1) (Nat.le_refl _))
          have HO3 := Lib.hid hown1
          clear hown1 hgrow hnil ck
          go_wp2_with fail
          go_roundw
          case rel => exact ⟨k + 1, by omega, by go_num, HO3.out, HQ3.out⟩
          case measure => simp [intOf]; omega
        · obtain rfl : k = 4 := by omega
          clear hlt hk HO4 HQk
          have h := HOk.out
          rw [List.take_of_length_le (by rw [HT.out.1]; exact Nat.le_refl _)] at h
          have HO5 := Lib.hid h
          clear h HOk
          have c15 := HQr.out.at HC.out.2.1
          have HX1 : Hid (12 + 4 + 4 + p.opts.size ≤ maxLen) := Lib.hid (by unfold maxLen; omega)
          have HX2 : Hid (12 + 4 + 4 + p.opts.size ≤ 140737488355328) := Lib.hid (by omega)
          have HX3 : Hid (w.heap.size + 1 ≤ wr.heap.size) := Lib.hid HQr.out.1.lt
          go_upto_region 21 with (at_builtin; refine Go.Lib.wpList_append_own_string _ rfl _ _ 45 9 rfl (w.heap.size + 1) 5 i9 Try.underlying45 Try.underlying9 HI.out H0.out H1.out H2.out _ (12 + 4 + 4) (bytV ((l12 ++ AF) ++ AT)) rfl HO5.out p.opts rfl HX1.out HX2.out HX3.out ?_; intro v1 w3 hown1 hgrow hnil)
          rw [strCells_bytV, bytV_cat] at hown1
          obtain ⟨n, hn⟩ : ∃ n, n = 12 + 4 + 4 + p.opts.size := ⟨_, rfl⟩
          rw [← hn] at hown1
          have hn20 : 20 ≤ n := by omega
          have hn60 : n ≤ 60 := by omega
          have HQ3 := Lib.hid (HQr.out.grown hgrow (fun j hj => (HO5.out.lt j hj).1) (Nat.le_refl _))
          obtain ⟨g, cap, rfl, hg, hglt, hby, hlen⟩ := own_byts hown1 (by omega)
          have hsum : p.sum = sumL (l12 ++ AF ++ AT ++ p.opts.data.toList) := by
            unfold Pkt.sum
            rw [head_cells p l12 AF AT HL12.out HFT.out.1 HFT.out.2]
          have HW := Lib.hid (whole_cells p l12 AF AT HL12.out HFT.out.1 HFT.out.2)
          have hs := psum_le p
          have HNe := Lib.hid hn
          clear hown1 hgrow hnil hn HQr HO5 c15
          generalize l12 ++ AF ++ AT ++ p.opts.data.toList = l at *
          have HOf : Hid (∀ W, Calls Try.prog 22 #[.string ⟨l.toArray⟩] W fun e w' => e = .returned (.int .i64 (p.sum : Nat)) ∧ Below W.heap.size W w') := Lib.hid (fun W => by
            have h := rof_any ⟨l.toArray⟩ W (by show l.toArray.size ≤ 70000; simp; omega)
            rw [hsum]
            exact h)
          have hcv := byts_conv cap hby n hlen
          have HBy := Lib.hid hby
          have HLen := Lib.hid hlen
          have HG := Lib.hid (And.intro hg hglt)
          clear hsum hby hlen hg hglt
          generalize p.sum = S at *
          go_wp2_with fail
          clear hcv
          refine (HOf.out _).mono ?_
          rintro e w4 ⟨rfl, bb⟩
          have HQ4 := Lib.hid (HQ3.out.below bb (Nat.le_refl _))
          have HB4 := Lib.hid (byts_below HBy.out bb HG.out.2)
          have HG4 := Lib.hid (Nat.lt_of_lt_of_le HG.out.2 bb.size)
          clear bb HQ3 HBy
          have y1 := u8_nat (x := (S : Int) / 256) (by omega) (by omega)
          have y2 := u8_nat (x := (S : Int) % 256) (by omega) (by omega)
          have h10 := HB4.out 10 (by have := HLen.out; omega)
          have c10 := h10.1
          have z10 := h10.2
          have HY1 := Lib.hid y1
          have HY2 := Lib.hid y2
          clear h10 y1 y2
          have hi10 : (10 : Int) < (n : Int) := by omega
          have hi11 : (11 : Int) < (n : Int) := by omega
          go_upto_region 23 with (fail)
          clear c10 z10
          have hb5 := byts_set HB4.out 10 (Go.Proofs.Ytjfkfeobmcnonaa.u8 ((S : Int) / 256)) (by have := HLen.out; omega)
          rw [HY1.out] at hb5
          have HB5 := Lib.hid hb5
          have HQ5 := Lib.hid (HQ4.out.set (c := g) (by have := HG.out.1; omega) (by have := HG.out.1; omega) 10 (.int .u8 ((S : Int) / 256)))
          clear hb5 HB4 HQ4
          generalize w4.setCell ⟨g, 10, none⟩ (.int .u8 ((S : Int) / 256)) = w5 at *
          have h11 := HB5.out 11 (by have := HLen.out; simp; omega)
          have c11 := h11.1
          have z11 := h11.2
          clear h11
          go_upto_region 24 with (fail)
          clear c11 z11
          have hb6 := byts_set HB5.out 11 (Go.Proofs.Ytjfkfeobmcnonaa.u8 ((S : Int) % 256)) (by have := HLen.out; simp; omega)
          rw [HY2.out] at hb6
          have HQ6 := Lib.hid (HQ5.out.set (c := g) (by have := HG.out.1; omega) (by have := HG.out.1; omega) 11 (.int .u8 ((S : Int) % 256)))
          have hcv := byts_conv cap hb6 n (by have := HLen.out; simp; omega)
          clear hb6 HB5 HQ5
          generalize w5.setCell ⟨g, 11, none⟩ (.int .u8 ((S : Int) % 256)) = w6 at *
          obtain ⟨T, hT⟩ : ∃ T : ByteArray, T = ⟨((l.set 10 (Go.Proofs.Ytjfkfeobmcnonaa.u8 ((S : Int) / 256))).set 11 (Go.Proofs.Ytjfkfeobmcnonaa.u8 ((S : Int) % 256))).toArray⟩ := ⟨_, rfl⟩
          have hTz : T.size = n := by rw [hT, ← ba_size, List.toList_toArray, List.length_set, List.length_set]; exact HLen.out
          have hw := HW.out
          rw [← hT] at hcv hw
          have HW2 := Lib.hid hw
          clear hT hw HW
          have c16 := HQ6.out.at HC.out.1
          have zc := cat_len
          have zo : ¬ 9223372036854775807 < n + p.data.size := by omega
          go_wp2_with fail
          go_ret2
          rw [HW2.out]
          exact ⟨rfl, HQ6.out.2.1⟩
theorem rbytes_ok (p : Pkt) (w : World) (hy : p.why = 0) (ha : p.byt) :
    Calls Try.prog 20 #[.agg p.vals.toArray] w fun e w' => e = .returned (.tuple #[.string p.bytes, .int .i64 0]) ∧ Below w.heap.size w w' := by
  cases hdf : p.df <;> cases hmo : p.more
  · exact rbytes_ff p w hy ha hdf hmo
  · exact rbytes_ft p w hy ha hdf hmo
  · exact rbytes_tf p w hy ha hdf hmo
  · exact rbytes_tt p w hy ha hdf hmo
end Go.Proofs.Ytjfkfeobmcnonaa
