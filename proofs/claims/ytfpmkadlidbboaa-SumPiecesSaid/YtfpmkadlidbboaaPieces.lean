/-
  Proved here: the law SumPieces answers true at every input, and leaves old memory as it was.
  Conditions: the cuts' cells hold numbers of 16 bits.
-/
import Derived.Test.YtfpmkadlidbboaaUpd
import Derived.Test.YtfpmkadlidbboaaWords
import Derived.Laws.IdiomStrings
import Derived.Lib.IndexBytes
import Derived.Lib.RabinKarpLaws
namespace Go.Proofs.Ytfpmkadlidbboaa
open Go.RowKit

/-- The cells of a slice of numbers of 16 bits. -/
def Halves (w : World) (ao : Option Addr) (len : Nat) (D : Nat → Nat) : Prop :=
  ∀ i, i < len → ∃ b o, ao = some ⟨b, o, none⟩ ∧ w.cell? ⟨b, o + i, none⟩ = some (.int .u16 (D i : Nat)) ∧ D i < 65536
theorem Try.infoStr : (Try.prog.info? 9).map (fun i => (i.zero, i.size, i.bytes)) = some (some (.string ⟨#[]⟩), 1, 16) := by kernel_rfl
/-- The pieces cut so far, and the rest. -/
def Cutted (s : ByteArray) (w wr : World) (v : Value) (k : Nat) (rest : ByteArray) : Prop :=
  ∃ Ps : List ByteArray, Ps.length = k ∧ allOf Ps ++ rest.data.toList = s.data.toList ∧ wr.ownsRow w.heap.size 9 1 v k (Ps.map Value.string) ∧ Below w.heap.size w wr
theorem Cutted.le {s : ByteArray} {w wr : World} {v : Value} {k : Nat} {rest : ByteArray} (h : Cutted s w wr v k rest) : rest.size ≤ s.size := by
  obtain ⟨Ps, _, h2, _⟩ := h
  have := congrArg List.length h2
  simp at this
  omega

theorem cut_list (r : ByteArray) (N : Nat) : (r.extract 0 N).data.toList ++ (r.extract N r.size).data.toList = r.data.toList := by
  rw [Lib.extract_data, Lib.extract_to_end, List.drop_zero, Nat.sub_zero, List.take_append_drop]
theorem cut_next {s : ByteArray} {w wr w2 : World} {v : Value} {k N gg cap : Nat} {rest : ByteArray} {Ps : List ByteArray} {ob : Obj} (hP : Ps.length = k) (hc : allOf Ps ++ rest.data.toList = s.data.toList)
    (hO : wr.ownsRow w.heap.size 9 1 v k (Ps.map Value.string)) (hB : Below w.heap.size w wr)
    (hown : w2.ownsRow w.heap.size 9 1 (.slice (some ⟨gg, 0, none⟩) (k + 1) cap) (k + 1) (Ps.map Value.string ++ [.string (rest.extract 0 N)])) (hg : (wr.alloc ob).grownBy w2 v.ownBlock) :
    Cutted s w w2 (.slice (some ⟨gg, 0, none⟩) (k + 1) cap) (k + 1) (rest.extract N rest.size) := by
  refine ⟨Ps ++ [rest.extract 0 N], by simp [hP], ?_, by simpa using hown, (hB.alloc hB.size _).grown hg (by have := hB.size; simp; omega) (fun j hj => (hO.lt j hj).1)⟩
  rw [← hc, show allOf (Ps ++ [rest.extract 0 N]) = allOf Ps ++ (rest.extract 0 N).data.toList by simp [allOf], List.append_assoc, cut_list rest N]
theorem cut_end {s : ByteArray} {w w2 : World} {k gg cap : Nat} {rest : ByteArray} {Ps : List ByteArray} (hP : Ps.length = k) (hc : allOf Ps ++ rest.data.toList = s.data.toList)
    (hown : w2.ownsRow w.heap.size 9 1 (.slice (some ⟨gg, 0, none⟩) (k + 1) cap) (k + 1) (Ps.map Value.string ++ [.string rest])) :
    Pcs w2 (some ⟨gg, 0, none⟩) (k + 1) (nth (Ps ++ [rest])) ∧ catL (nth (Ps ++ [rest])) (k + 1) = s.data.toList := by
  have hl : (Ps ++ [rest]).length = k + 1 := by simp [hP]
  constructor
  · intro i hi
    refine ⟨_, _, rfl, ?_⟩
    have := hown.cells (g := gg) rfl i (.string (nth (Ps ++ [rest]) i)) (by
      rw [show Ps.map Value.string ++ [Value.string rest] = (Ps ++ [rest]).map Value.string by simp, List.getElem?_map, List.getElem?_eq_getElem (by omega)]
      unfold nth
      rw [List.getD_eq_getElem?_getD, List.getElem?_eq_getElem (by omega)]
      rfl)
    rw [← this]
    simp [Addr.add]
    split <;> simp_all
  · rw [← hl, catL_nth _ _ (Nat.le_refl _), List.take_length, ← hc]
    simp [allOf]

/-- A row of bytes that may be written. -/
def Byt (w : World) (g : Nat) (l : List UInt8) : Prop := ∀ j (h : j < l.length), w.cell? ⟨g, j, none⟩ = some (.int .u8 (l[j].toNat : Int)) ∧ w.frozen? ⟨g, j, none⟩ = false
theorem bytes_new (s : ByteArray) (w : World) : ∃ g cap w', (convert 9 42 (.string s)).run Try.prog w = .ok (.slice (some ⟨g, 0, none⟩) s.size cap) w' ∧ (Byt w' g s.data.toList ∧ w.heap.size ≤ g) ∧ Below w.heap.size w w' := by
  refine ⟨_, _, _, run_bytes_of_string w 9 42 5 s Try.underlying9 Try.underlying42 Try.underlying5, ⟨fun j hj => ⟨?_, ?_⟩, Nat.le_refl _⟩, ?_⟩
  · rw [show w.heap.size = w.drew.heap.size from rfl, World.cell?_alloc_mark, bytesRow_at s _ j (by simpa using hj)]
    rfl
  · rw [show w.heap.size = w.drew.heap.size from rfl, World.frozen?_alloc_mark]
    have : j < (bytesRow s (grownCap w s.size 0 5)).size := by
      unfold bytesRow
      simp at hj ⊢
      omega
    simp
    omega
  · exact ((Below.refl w.heap.size w).drew).alloc (Nat.le_refl _) _

theorem of1_at (w : World) (b : Nat) (hb : b = w.heap.size) (a : ByteArray) (h : a.size ≤ 1099511627776) :
    Calls Try.prog 13 #[.slice (some ⟨b, 0, none⟩) 1 1] (w.alloc (.cells #[.string a] 9)) fun e w' => e = .returned (.int .i64 (sumL a.data.toList : Nat)) ∧ Below w.heap.size w w' := by
  subst hb
  exact of1 w a h
theorem xor_u8 (a c : Nat) (ha : a < 256) (hc : c < 256) : bits .xor .u8 (a : Int) (c : Int) = ((a ^^^ c : Nat) : Int) := by
  have h1 : (BitVec.ofInt 8 (a : Int)).toNat = a := by
    rw [BitVec.ofInt_natCast, BitVec.toNat_ofNat]; exact Nat.mod_eq_of_lt (by omega)
  have h2 : (BitVec.ofInt 8 (c : Int)).toNat = c := by
    rw [BitVec.ofInt_natCast, BitVec.toNat_ofNat]; exact Nat.mod_eq_of_lt (by omega)
  have h3 : a ^^^ c < 2 ^ 8 := Nat.xor_lt_two_pow ha hc
  show IntKind.u8.wrap ((BitVec.ofInt 8 (a : Int) ^^^ BitVec.ofInt 8 (c : Int)).toNat : Int) = _
  rw [BitVec.toNat_xor, h1, h2]
  simp only [IntKind.wrap, IntKind.bits, IntKind.signed]
  simp
  omega
theorem turn_bit (c : UInt8) (m : Nat) (m' : Int) (hm' : m' = (m : Int)) (hm : m < 256) (h0 : 0 < m) : ∃ y : UInt8, bits .xor .u8 (c.toNat : Int) m' = (y.toNat : Int) ∧ y ≠ c := by
  subst hm'
  refine ⟨c ^^^ UInt8.ofNat m, ?_, ?_⟩
  · rw [xor_u8 _ _ c.toNat_lt hm, UInt8.toNat_xor, UInt8.toNat_ofNat', Nat.mod_eq_of_lt hm]
  · intro h
    have h1 := congrArg UInt8.toNat h
    rw [UInt8.toNat_xor, UInt8.toNat_ofNat', Nat.mod_eq_of_lt hm] at h1
    have h2 : c.toNat ^^^ (c.toNat ^^^ m) = c.toNat ^^^ c.toNat := by rw [h1]
    rw [← Nat.xor_assoc, Nat.xor_self, Nat.zero_xor] at h2
    omega
theorem byt_back {w : World} {g : Nat} {l : List UInt8} {K : Nat} (cap : Nat) (h : Byt w g l) (hK : K < l.length) (y : UInt8) (n : Nat) (hn : l.length = n) :
    (convert 42 9 (.slice (some ⟨g, 0, none⟩) n cap)).run Try.prog (w.setCell ⟨g, K, none⟩ (.int .u8 (y.toNat : Int))) = .ok (.string ⟨(l.set K y).toArray⟩) (w.setCell ⟨g, K, none⟩ (.int .u8 (y.toNat : Int))) := by
  subst hn
  have := run_convert_bytes_back (P := Try.prog) (w.setCell ⟨g, K, none⟩ (.int .u8 (y.toNat : Int))) 42 9 5 ⟨g, 0, none⟩ cap (l.set K y) Try.underlying42 Try.underlying5 Try.underlying9 (fun j hj => by
    have hj' : j < l.length := by simpa using hj
    have e : (⟨g, 0, none⟩ : Addr).add j = ⟨g, j, none⟩ := by unfold Addr.add; split <;> simp_all
    rw [e, List.getElem_set]
    split
    · rename_i hkj
      subst hkj
      exact World.cell?_setCell_same w ⟨g, K, none⟩ _ (h K hK).1
    · rename_i hkj
      rw [World.cell?_setCell_other w _ _ _ (fun he => hkj (by injection he))]
      exact (h j hj').1)
  rwa [List.length_set] at this
theorem acc_mid (p r : List UInt8) : ∃ (x f : Nat), (f = 1 ∨ f = 256) ∧ ∀ c : UInt8, acc true (p ++ (c :: r)) = x + f * c.toNat := by
  cases he : evn p.length
  · refine ⟨acc true p + acc true r, 1, .inl rfl, fun c => ?_⟩
    rw [acc_append, he]
    show acc true p + (c.toNat + acc true r) = _
    omega
  · refine ⟨acc true p + acc false r, 256, .inr rfl, fun c => ?_⟩
    rw [acc_append, he]
    show acc true p + (c.toNat * 256 + acc false r) = _
    omega
theorem fold_near {a b : Nat} (h : a ≠ b) (h1 : a < b + 65535) (h2 : b < a + 65535) : fold a ≠ fold b := by
  intro he
  obtain ⟨q, hq⟩ := fold_form a
  obtain ⟨q', hq'⟩ := fold_form b
  rw [he] at hq
  have : q = q' := by omega
  omega
theorem sum_turned {l : List UInt8} {K : Nat} (hK : K < l.length) {y : UInt8} (hne : y ≠ l[K]) : sumL (l.set K y) ≠ sumL l := by
  obtain ⟨x, f, hf, hx⟩ := acc_mid (l.take K) (l.drop (K + 1))
  have e1 : acc true l = x + f * l[K].toNat := by
    have := hx l[K]
    rwa [List.getElem_cons_drop, List.take_append_drop] at this
  have e2 : acc true (l.set K y) = x + f * y.toNat := by
    rw [List.set_eq_take_append_cons_drop, if_pos hK]
    exact hx y
  have hn : y.toNat ≠ l[K].toNat := fun h => hne (UInt8.toNat_inj.1 h)
  have b1 := y.toNat_lt
  have b2 := l[K].toNat_lt
  have h9 : fold (acc true (l.set K y)) ≠ fold (acc true l) := by
    rw [e1, e2]
    rcases hf with rfl | rfl
    · exact fold_near (by omega) (by omega) (by omega)
    · exact fold_near (by omega) (by omega) (by omega)
  unfold sumL
  have := fold_le (acc true (l.set K y))
  have := fold_le (acc true l)
  omega
theorem turned {w : World} {g : Nat} (s : ByteArray) (K cap : Nat) (h : Byt w g s.data.toList) (hK : K < s.size) (m : Nat) (m' : Int) (hm' : m' = (m : Int)) (hm : m < 256) (h0 : 0 < m) :
    ∃ (y : UInt8) (s2 : ByteArray), bits .xor .u8 (s[K].toNat : Int) m' = (y.toNat : Int) ∧
      (convert 42 9 (.slice (some ⟨g, 0, none⟩) s.size cap)).run Try.prog (w.setCell ⟨g, K, none⟩ (.int .u8 (y.toNat : Int))) = .ok (.string s2) (w.setCell ⟨g, K, none⟩ (.int .u8 (y.toNat : Int))) ∧
      s2.size ≤ s.size ∧ (((sumL s2.data.toList : Nat) : Int) != ((sumL s.data.toList : Nat) : Int)) = true := by
  obtain ⟨y, hy, hne⟩ := turn_bit s[K] m m' hm' hm h0
  have hK' : K < s.data.toList.length := by simpa using hK
  refine ⟨y, _, hy, byt_back cap h hK' y s.size (by simp), ?_, ?_⟩
  · show (s.data.toList.set K y).toArray.size ≤ s.size
    simp
  · have := sum_turned hK' (y := y) hne
    rw [bne_iff_ne]
    intro h9
    exact this (Int.ofNat.inj h9)

set_option maxRecDepth 100000 in
set_option maxHeartbeats 4000000 in
theorem sumPieces_walk (s t : ByteArray) (ao : Option Addr) (len cap : Nat) (D : Nat → Nat) (pos bit : Nat) (w : World) (hs : s.size ≤ 3000) (ht : t.size ≤ 3000) (hl : len ≤ 50) (hD : Halves w ao len D) (hpos : pos < 65536) (hbit : bit < 256) :
    Calls Try.prog 8 #[.string s, .string t, .slice ao len cap, .int .u16 pos, .int .u8 bit] w fun e w' => e = .returned (.bool true) ∧ Below w.heap.size w w' := by
  obtain ⟨i0, hi0, hz0, hz1, hz2⟩ := info_parts Try.infoStr
  have HI := Lib.hid hi0
  have H0 := Lib.hid hz0
  have H1 := Lib.hid hz1
  have H2 := Lib.hid hz2
  have HD := Lib.hid hD
  clear hi0 hz0 hz1 hz2 hD
  go_enter Try.func8, Try.ntmps8
  go_wp2_with fail
  refine (awake_true w).mono ?_
  rintro e w1 ⟨rfl, b1⟩
  have hB1 := Lib.hid b1
  clear b1
  go_wp2_with fail
  go_loopw [11, 12, 13] (fun v r i wr => ∃ (k : Nat) (rest : ByteArray), k ≤ len ∧ i = .int .i64 k ∧ r = .string rest ∧ Cutted s w wr v k rest) (fun _ _ i _ => len - (intOf i).toNat)
  case atStart => exact ⟨0, s, Nat.zero_le _, rfl, rfl, [], rfl, rfl, ⟨rfl, .inl ⟨rfl, rfl⟩⟩, hB1.out⟩
  case round =>
    obtain ⟨k, rest, hk, rfl, rfl, hC⟩ := hrel
    have hz := hC.le
    have HC := Lib.hid hC
    clear hC
    by_cases hlt : k < len
    · obtain ⟨b, o, rfl, hc0, hd⟩ := HD.out k hlt
      have hcell : wr.cell? ⟨b, o + k, none⟩ = some (.int .u16 (D k : Nat)) := by
        obtain ⟨_, _, _, _, hb⟩ := HC.out
        exact (hb.cell (World.block_lt_of_cell? w _ hc0)).trans hc0
      clear hc0
      obtain ⟨N, hN, hNle⟩ : ∃ N : Nat, (D k : Int) % ((rest.size : Int) + 1) = (N : Int) ∧ N ≤ rest.size := by
        have hm0 : (0 : Int) ≤ (D k : Int) % ((rest.size : Int) + 1) := Int.emod_nonneg _ (by omega)
        have hm1 : (D k : Int) % ((rest.size : Int) + 1) < (rest.size : Int) + 1 := Int.emod_lt_of_pos _ (by omega)
        exact ⟨((D k : Int) % ((rest.size : Int) + 1)).toNat, by omega, by omega⟩
      generalize D k = dk at hcell hd hN
      have HX1 : Hid (k + 1 ≤ maxLen) := Lib.hid (by unfold maxLen; omega)
      have HX2 : Hid ((k + 1) * 16 ≤ 140737488355328) := Lib.hid (by omega)
      obtain ⟨Ps, hPs, hcat, hown, hbl⟩ := HC.out
      have HX3 : Hid (w.heap.size ≤ (wr.alloc (.cells #[.string (rest.extract 0 N)] 9)).heap.size) := Lib.hid (by have := hbl.size; simp; omega)
      have HO := Lib.hid hown
      have HP := Lib.hid hPs
      have HB := Lib.hid hbl
      have HCat := Lib.hid hcat
      clear hown hPs hbl hcat
      go_wp2_with (at_builtin; refine wpList_append_lies _ rfl _ _ _ rfl w.heap.size 9 i0 _ 1 16 Try.underlying32 HI.out H0.out H1.out H2.out rfl Nat.one_pos _ k (Ps.map Value.string) rfl (HO.out.alloc _) ⟨wr.heap.size, 0, none⟩ 1 1 [.string (rest.extract 0 N)] rfl rfl (World.news_of_block (cs := #[.string (rest.extract 0 N)]) (t := 9) (fr := (0, 0)) (heap_alloc_new wr _)) (by simp [Value.oneCell']) Nat.one_pos HX1.out HX2.out HX3.out (wr.heap.size + 1) (by simp) ?_; intro gg cap9 w2 hown2 hgrow hat hlt9)
      have HR := Lib.hid (cut_next HP.out HCat.out HO.out HB.out hown2 hgrow)
      clear hown2 hgrow hat hlt9
      go_roundw
      case rel => exact ⟨k + 1, _, by omega, by go_num, rfl, HR.out⟩
      case measure => simp [intOf]; omega
    · obtain rfl : k = len := by omega
      have HX1 : Hid (k + 1 ≤ maxLen) := Lib.hid (by unfold maxLen; omega)
      have HX2 : Hid ((k + 1) * 16 ≤ 140737488355328) := Lib.hid (by omega)
      obtain ⟨Ps, hPs, hcat, hown, hbl⟩ := HC.out
      have HX3 : Hid (w.heap.size ≤ (wr.alloc (.cells #[.string rest] 9)).heap.size) := Lib.hid (by have := hbl.size; simp; omega)
      have HO := Lib.hid hown
      have HP := Lib.hid hPs
      have HB := Lib.hid hbl
      have HCat := Lib.hid hcat
      clear hown hPs hbl hcat
      go_wp2_with (at_builtin; refine wpList_append_lies _ rfl _ _ _ rfl w.heap.size 9 i0 _ 1 16 Try.underlying32 HI.out H0.out H1.out H2.out rfl Nat.one_pos _ k (Ps.map Value.string) rfl (HO.out.alloc _) ⟨wr.heap.size, 0, none⟩ 1 1 [.string rest] rfl rfl (World.news_of_block (cs := #[.string rest]) (t := 9) (fr := (0, 0)) (heap_alloc_new wr _)) (by simp [Value.oneCell']) Nat.one_pos HX1.out HX2.out HX3.out (wr.heap.size + 1) (by simp) ?_; intro gg cap9 w2 hown2 hgrow hat hlt9)
      obtain ⟨hP2, hAll⟩ := cut_end HP.out HCat.out hown2
      have HP2 := Lib.hid hP2
      have HAll := Lib.hid hAll
      have HB2 := Lib.hid ((HB.out.alloc HB.out.size _).grown hgrow HX3.out (fun j hj => (HO.out.lt j hj).1))
      clear hown2 hgrow hat hlt9 hP2 hAll
      have hz9 : (catL (nth (Ps ++ [rest])) (k + 1)).length ≤ 1099511627776 := by rw [HAll.out]; simp; omega
      refine (of_any _ _ _ (nth (Ps ++ [rest])) _ (by omega) HP2.out hz9).mono ?_
      rintro e w3 ⟨rfl, rfl⟩
      rw [HAll.out]
      clear hz9
      have hX := sumL_le s.data.toList
      go_wp2_with fail
      refine (of1 _ _ (by omega)).mono ?_
      rintro e w4 ⟨rfl, b4⟩
      have HB4 := Lib.hid (HB2.out.trans (b4.mono HB2.out.size))
      clear b4
      go_wp2_with fail
      obtain ⟨ea, za⟩ := even_cut s
      obtain ⟨eb, zb⟩ := even_cut t
      have EA := Lib.hid ea
      have EB := Lib.hid eb
      clear ea eb
      have q1 : (0 : Int) ≤ (s.size : Int) / 2 * 2 := by omega
      have q2 : (s.size : Int) / 2 * 2 ≤ (s.size : Int) := by omega
      have q3 : (0 : Int) ≤ (t.size : Int) / 2 * 2 := by omega
      have q4 : (t.size : Int) / 2 * 2 ≤ (t.size : Int) := by omega
      go_quiet (fail)
      go_wp2_with fail
      clear q1 q2 q3 q4
      generalize s.extract 0 (s.size / 2 * 2) = a at EA za
      generalize t.extract 0 (t.size / 2 * 2) = b at EB zb
      have HB5 : Hid (Below w.heap.size w (w4.drewN nq)) := Lib.hid ⟨HB4.out.os, HB4.out.tape, HB4.out.output, HB4.out.size, HB4.out.block⟩
      refine (of2 (w4.drewN nq) a b (by omega)).mono ?_
      rintro e w6 ⟨rfl, b6⟩
      have HB6 := Lib.hid (HB5.out.trans (b6.mono HB5.out.size))
      clear b6
      have HSW : Hid (sumL (allOf [b, a]) = sumL (allOf [a, b])) := Lib.hid (by unfold sumL; rw [all2_even _ EA.out, all2_even _ EB.out, Nat.add_comm])
      go_wp2_with fail
      refine (of2 _ _ _ (by omega)).mono ?_
      rintro e w7 ⟨rfl, b7⟩
      have HB7 := Lib.hid (HB6.out.trans (b7.mono HB6.out.size))
      clear b7
      rw [HSW.out]
      by_cases hs0 : s.size = 0
      · have hs1 : ((s.size : Int) == 0) = true := by rw [hs0]; rfl
        clear hs0
        go_wp2_with fail
        go_ret
        exact ⟨rfl, HB7.out⟩
      · have hs1 : ((s.size : Int) == 0) = false := by
          rw [beq_eq_false_iff_ne]
          omega
        have hs2 : 0 < s.size := by omega
        clear hs0
        obtain ⟨g, cap2, w8, hconv, hrow, hb8⟩ := bytes_new s w7
        have HB8 := Lib.hid (HB7.out.trans (hb8.mono HB7.out.size))
        have HRow := Lib.hid hrow
        clear hrow hb8
        obtain ⟨K, hK, hKlt⟩ : ∃ K : Nat, (pos : Int) % (s.size : Int) = (K : Int) ∧ K < s.size := ⟨pos % s.size, by simp, Nat.mod_lt _ hs2⟩
        have hcell := (HRow.out.1 K (by simpa using hKlt)).1
        have hfz := (HRow.out.1 K (by simpa using hKlt)).2
        have hbK : s.data.toList[K]'(by simpa using hKlt) = s[K] := rfl
        rw [hbK] at hcell
        clear hbK
        obtain ⟨r, hr, hr8⟩ : ∃ r : Nat, (bit : Int) % 8 = (r : Int) ∧ r < 8 := ⟨bit % 8, by simp, Nat.mod_lt _ (by omega)⟩
        have hr' : r = 0 ∨ r = 1 ∨ r = 2 ∨ r = 3 ∨ r = 4 ∨ r = 5 ∨ r = 6 ∨ r = 7 := by omega
        clear hr8
        rcases hr' with rfl | rfl | rfl | rfl | rfl | rfl | rfl | rfl
        · obtain ⟨y, s2, hy, hback, hsz2, hdiff⟩ := turned s K cap2 HRow.out.1 hKlt 1 1 rfl (by decide) (by decide)
          have HN := Lib.hid hdiff
          clear hdiff
          have hb9 := HB8.out.setCell (p := ⟨g, K, none⟩) (Nat.le_trans HB7.out.size HRow.out.2) (.int .u8 (y.toNat : Int))
          have HB9 := Lib.hid hb9
          clear hb9
          go_wp2_with fail
          refine (of1_at (w8.setCell ⟨g, K, none⟩ (.int .u8 (y.toNat : Int))) w8.heap.size (by simp) s2 (by omega)).mono ?_
          rintro e w10 ⟨rfl, b10⟩
          have HB10 := Lib.hid (HB9.out.trans (b10.mono HB9.out.size))
          clear b10 hback hcell hfz hconv hy
          have hY := sumL_le s2.data.toList
          go_wp2_with fail
          refine (of1 _ _ (by omega)).mono ?_
          rintro e w11 ⟨rfl, b11⟩
          have HB11 := Lib.hid (HB10.out.trans (b11.mono HB10.out.size))
          clear b11
          have hfin := HN.out
          go_wp2_with fail
          go_ret
          exact ⟨rfl, HB11.out⟩
        · obtain ⟨y, s2, hy, hback, hsz2, hdiff⟩ := turned s K cap2 HRow.out.1 hKlt 2 2 rfl (by decide) (by decide)
          have HN := Lib.hid hdiff
          clear hdiff
          have hb9 := HB8.out.setCell (p := ⟨g, K, none⟩) (Nat.le_trans HB7.out.size HRow.out.2) (.int .u8 (y.toNat : Int))
          have HB9 := Lib.hid hb9
          clear hb9
          go_wp2_with fail
          refine (of1_at (w8.setCell ⟨g, K, none⟩ (.int .u8 (y.toNat : Int))) w8.heap.size (by simp) s2 (by omega)).mono ?_
          rintro e w10 ⟨rfl, b10⟩
          have HB10 := Lib.hid (HB9.out.trans (b10.mono HB9.out.size))
          clear b10 hback hcell hfz hconv hy
          have hY := sumL_le s2.data.toList
          go_wp2_with fail
          refine (of1 _ _ (by omega)).mono ?_
          rintro e w11 ⟨rfl, b11⟩
          have HB11 := Lib.hid (HB10.out.trans (b11.mono HB10.out.size))
          clear b11
          have hfin := HN.out
          go_wp2_with fail
          go_ret
          exact ⟨rfl, HB11.out⟩
        · obtain ⟨y, s2, hy, hback, hsz2, hdiff⟩ := turned s K cap2 HRow.out.1 hKlt 4 4 rfl (by decide) (by decide)
          have HN := Lib.hid hdiff
          clear hdiff
          have hb9 := HB8.out.setCell (p := ⟨g, K, none⟩) (Nat.le_trans HB7.out.size HRow.out.2) (.int .u8 (y.toNat : Int))
          have HB9 := Lib.hid hb9
          clear hb9
          go_wp2_with fail
          refine (of1_at (w8.setCell ⟨g, K, none⟩ (.int .u8 (y.toNat : Int))) w8.heap.size (by simp) s2 (by omega)).mono ?_
          rintro e w10 ⟨rfl, b10⟩
          have HB10 := Lib.hid (HB9.out.trans (b10.mono HB9.out.size))
          clear b10 hback hcell hfz hconv hy
          have hY := sumL_le s2.data.toList
          go_wp2_with fail
          refine (of1 _ _ (by omega)).mono ?_
          rintro e w11 ⟨rfl, b11⟩
          have HB11 := Lib.hid (HB10.out.trans (b11.mono HB10.out.size))
          clear b11
          have hfin := HN.out
          go_wp2_with fail
          go_ret
          exact ⟨rfl, HB11.out⟩
        · obtain ⟨y, s2, hy, hback, hsz2, hdiff⟩ := turned s K cap2 HRow.out.1 hKlt 8 8 rfl (by decide) (by decide)
          have HN := Lib.hid hdiff
          clear hdiff
          have hb9 := HB8.out.setCell (p := ⟨g, K, none⟩) (Nat.le_trans HB7.out.size HRow.out.2) (.int .u8 (y.toNat : Int))
          have HB9 := Lib.hid hb9
          clear hb9
          go_wp2_with fail
          refine (of1_at (w8.setCell ⟨g, K, none⟩ (.int .u8 (y.toNat : Int))) w8.heap.size (by simp) s2 (by omega)).mono ?_
          rintro e w10 ⟨rfl, b10⟩
          have HB10 := Lib.hid (HB9.out.trans (b10.mono HB9.out.size))
          clear b10 hback hcell hfz hconv hy
          have hY := sumL_le s2.data.toList
          go_wp2_with fail
          refine (of1 _ _ (by omega)).mono ?_
          rintro e w11 ⟨rfl, b11⟩
          have HB11 := Lib.hid (HB10.out.trans (b11.mono HB10.out.size))
          clear b11
          have hfin := HN.out
          go_wp2_with fail
          go_ret
          exact ⟨rfl, HB11.out⟩
        · obtain ⟨y, s2, hy, hback, hsz2, hdiff⟩ := turned s K cap2 HRow.out.1 hKlt 16 16 rfl (by decide) (by decide)
          have HN := Lib.hid hdiff
          clear hdiff
          have hb9 := HB8.out.setCell (p := ⟨g, K, none⟩) (Nat.le_trans HB7.out.size HRow.out.2) (.int .u8 (y.toNat : Int))
          have HB9 := Lib.hid hb9
          clear hb9
          go_wp2_with fail
          refine (of1_at (w8.setCell ⟨g, K, none⟩ (.int .u8 (y.toNat : Int))) w8.heap.size (by simp) s2 (by omega)).mono ?_
          rintro e w10 ⟨rfl, b10⟩
          have HB10 := Lib.hid (HB9.out.trans (b10.mono HB9.out.size))
          clear b10 hback hcell hfz hconv hy
          have hY := sumL_le s2.data.toList
          go_wp2_with fail
          refine (of1 _ _ (by omega)).mono ?_
          rintro e w11 ⟨rfl, b11⟩
          have HB11 := Lib.hid (HB10.out.trans (b11.mono HB10.out.size))
          clear b11
          have hfin := HN.out
          go_wp2_with fail
          go_ret
          exact ⟨rfl, HB11.out⟩
        · obtain ⟨y, s2, hy, hback, hsz2, hdiff⟩ := turned s K cap2 HRow.out.1 hKlt 32 32 rfl (by decide) (by decide)
          have HN := Lib.hid hdiff
          clear hdiff
          have hb9 := HB8.out.setCell (p := ⟨g, K, none⟩) (Nat.le_trans HB7.out.size HRow.out.2) (.int .u8 (y.toNat : Int))
          have HB9 := Lib.hid hb9
          clear hb9
          go_wp2_with fail
          refine (of1_at (w8.setCell ⟨g, K, none⟩ (.int .u8 (y.toNat : Int))) w8.heap.size (by simp) s2 (by omega)).mono ?_
          rintro e w10 ⟨rfl, b10⟩
          have HB10 := Lib.hid (HB9.out.trans (b10.mono HB9.out.size))
          clear b10 hback hcell hfz hconv hy
          have hY := sumL_le s2.data.toList
          go_wp2_with fail
          refine (of1 _ _ (by omega)).mono ?_
          rintro e w11 ⟨rfl, b11⟩
          have HB11 := Lib.hid (HB10.out.trans (b11.mono HB10.out.size))
          clear b11
          have hfin := HN.out
          go_wp2_with fail
          go_ret
          exact ⟨rfl, HB11.out⟩
        · obtain ⟨y, s2, hy, hback, hsz2, hdiff⟩ := turned s K cap2 HRow.out.1 hKlt 64 64 rfl (by decide) (by decide)
          have HN := Lib.hid hdiff
          clear hdiff
          have hb9 := HB8.out.setCell (p := ⟨g, K, none⟩) (Nat.le_trans HB7.out.size HRow.out.2) (.int .u8 (y.toNat : Int))
          have HB9 := Lib.hid hb9
          clear hb9
          go_wp2_with fail
          refine (of1_at (w8.setCell ⟨g, K, none⟩ (.int .u8 (y.toNat : Int))) w8.heap.size (by simp) s2 (by omega)).mono ?_
          rintro e w10 ⟨rfl, b10⟩
          have HB10 := Lib.hid (HB9.out.trans (b10.mono HB9.out.size))
          clear b10 hback hcell hfz hconv hy
          have hY := sumL_le s2.data.toList
          go_wp2_with fail
          refine (of1 _ _ (by omega)).mono ?_
          rintro e w11 ⟨rfl, b11⟩
          have HB11 := Lib.hid (HB10.out.trans (b11.mono HB10.out.size))
          clear b11
          have hfin := HN.out
          go_wp2_with fail
          go_ret
          exact ⟨rfl, HB11.out⟩
        · obtain ⟨y, s2, hy, hback, hsz2, hdiff⟩ := turned s K cap2 HRow.out.1 hKlt 128 128 rfl (by decide) (by decide)
          have HN := Lib.hid hdiff
          clear hdiff
          have hb9 := HB8.out.setCell (p := ⟨g, K, none⟩) (Nat.le_trans HB7.out.size HRow.out.2) (.int .u8 (y.toNat : Int))
          have HB9 := Lib.hid hb9
          clear hb9
          go_wp2_with fail
          refine (of1_at (w8.setCell ⟨g, K, none⟩ (.int .u8 (y.toNat : Int))) w8.heap.size (by simp) s2 (by omega)).mono ?_
          rintro e w10 ⟨rfl, b10⟩
          have HB10 := Lib.hid (HB9.out.trans (b10.mono HB9.out.size))
          clear b10 hback hcell hfz hconv hy
          have hY := sumL_le s2.data.toList
          go_wp2_with fail
          refine (of1 _ _ (by omega)).mono ?_
          rintro e w11 ⟨rfl, b11⟩
          have HB11 := Lib.hid (HB10.out.trans (b11.mono HB10.out.size))
          clear b11
          have hfin := HN.out
          go_wp2_with fail
          go_ret
          exact ⟨rfl, HB11.out⟩

set_option maxRecDepth 100000 in
set_option maxHeartbeats 1000000 in
theorem sumPieces_long (s t : ByteArray) (ao : Option Addr) (len cap : Nat) (pos bit : Int) (w : World) (h : 3000 < s.size ∨ s.size ≤ 3000 ∧ 3000 < t.size ∨ s.size ≤ 3000 ∧ t.size ≤ 3000 ∧ 50 < len) :
    Calls Try.prog 8 #[.string s, .string t, .slice ao len cap, .int .u16 pos, .int .u8 bit] w fun e w' => e = .returned (.bool true) ∧ Below w.heap.size w w' := by
  rcases h with h1 | ⟨h1, h2⟩ | ⟨h1, h2, h3⟩
  all_goals
    go_enter Try.func8, Try.ntmps8
    go_wp2_with fail
    refine (awake_true w).mono ?_
    rintro e w1 ⟨rfl, b1⟩
    have hB1 := Lib.hid b1
    clear b1
    go_wp2_with fail
    go_ret
    exact ⟨rfl, hB1.out⟩
theorem sumPieces_any (s t : ByteArray) (ao : Option Addr) (len cap : Nat) (D : Nat → Nat) (pos bit : Int) (w : World) (hD : Halves w ao len D) (w3 : (Lit.int .u16 pos).wf = true) (w4 : (Lit.int .u8 bit).wf = true) :
    Calls Try.prog 8 #[.string s, .string t, .slice ao len cap, .int .u16 pos, .int .u8 bit] w fun e w' => e = .returned (.bool true) ∧ Below w.heap.size w w' := by
  have h3 : 0 ≤ pos ∧ pos ≤ 65535 := by simpa [Lit.wf, IntKind.min, IntKind.max, IntKind.signed, IntKind.bits] using w3
  have h4 : 0 ≤ bit ∧ bit ≤ 255 := by simpa [Lit.wf, IntKind.min, IntKind.max, IntKind.signed, IntKind.bits] using w4
  by_cases h : s.size ≤ 3000 ∧ t.size ≤ 3000 ∧ len ≤ 50
  · obtain ⟨p, rfl⟩ : ∃ p : Nat, pos = p := ⟨pos.toNat, by omega⟩
    obtain ⟨b, rfl⟩ : ∃ b : Nat, bit = b := ⟨bit.toNat, by omega⟩
    exact sumPieces_walk s t ao len cap D p b w h.1 h.2.1 h.2.2 hD (by omega) (by omega)
  · exact sumPieces_long s t ao len cap pos bit w (by omega)
end Go.Proofs.Ytfpmkadlidbboaa
