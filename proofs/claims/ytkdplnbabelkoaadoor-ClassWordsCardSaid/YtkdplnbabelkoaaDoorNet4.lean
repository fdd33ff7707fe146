/-
  Proved here: what the document's ParseNet4 answers.
  Conditions: a text of at most 70000 bytes.
-/
import Derived.Test.YtkdplnbabelkoaaDoorParse4
import Derived.Test.YtkdplnbabelkoaaDoorHolds46
namespace Go.Proofs.YtkdplnbabelkoaaDoor
open Go.RowKit

theorem ext_size (s : ByteArray) (a k : Nat) : (s.extract a k).size ≤ s.size := by rw [ByteArray.size_extract]; omega
theorem spl_sizes (s : ByteArray) (c : UInt8) (k : Nat) : ∀ t ∈ (spl s c k).1, t.size ≤ s.size := by
  induction k with
  | zero => intro t ht; cases ht
  | succ k ih =>
    unfold spl
    split
    · intro t ht
      rcases List.mem_append.1 ht with h | h
      · exact ih t h
      · rw [List.mem_singleton] at h; rw [h]; exact ext_size _ _ _
    · exact ih
theorem parts_sizes (s : ByteArray) (c : UInt8) : ∀ t ∈ parts s c, t.size ≤ s.size := by
  intro t ht
  unfold parts at ht
  rcases List.mem_append.1 ht with h | h
  · exact spl_sizes s c _ t h
  · rw [List.mem_singleton] at h; rw [h]; exact ext_size _ _ _
/-- The address that a word is, as bytes. -/
def val4u (s : ByteArray) : List UInt8 := (val4 s).map fun n => UInt8.ofNat n.toNat
theorem val4u_len (s : ByteArray) : (val4u s).length = 4 := by unfold val4u; rw [List.length_map]; exact val4_len s
theorem val4_in (s : ByteArray) : ∀ n ∈ val4 s, 0 ≤ n ∧ n ≤ 255 := by
  intro n hn
  unfold val4 at hn
  split at hn
  · rename_i h
    unfold ok4 at h
    simp only [Bool.and_eq_true, List.all_eq_true, decide_eq_true_eq] at h
    have h0 := h.2 n hn
    refine ⟨h0, ?_⟩
    unfold nums4 nums4' at hn
    rw [List.mem_map] at hn
    obtain ⟨t, _, rfl⟩ := hn
    exact numb_le _ _ h0
  · unfold zero4 at hn
    simp at hn
    omega
theorem val4u_b8 (s : ByteArray) : bu (val4u s) = b8 (val4 s) := by
  unfold bu b8 val4u
  rw [List.map_map]
  apply List.map_congr_left
  intro n hn
  obtain ⟨h0, h1⟩ := val4_in s n hn
  show Value.int .u8 ((UInt8.ofNat n.toNat).toNat : Int) = _
  rw [UInt8.toNat_ofNat', Nat.mod_eq_of_lt (by omega)]
  congr 1
  omega
def txt (l : List ByteArray) (i : Nat) : ByteArray := l.getD i ⟨#[]⟩
/-- The prefix that a word would be. -/
def net4 (s : ByteArray) : Nn := ⟨val4u (txt (parts s 47) 0), numb (bl (txt (parts s 47) 1)) 32⟩
def okN4 (s : ByteArray) : Bool := decide ((parts s 47).length = 2) && (ok4 (txt (parts s 47) 0) && (net4 s).holds (net4 s).ad)
def zeroN4 : Nn := ⟨[0, 0, 0, 0], 0⟩
def valN4 (s : ByteArray) : Nn := if okN4 s = true then net4 s else zeroN4
theorem Tryd.infoN4 (p : Nn) (h : p.ad.length = 4) : (Tryd.prog.info? 32).map (·.size) = some p.vals.length := by
  rw [show p.vals.length = 5 from by unfold Nn.vals; rw [List.length_append, bu_len, h]; rfl]
  kernel_rfl
theorem bu_one (l : List UInt8) : (bu l).toArray.all (·.oneCell') = true := by
  unfold bu
  simp [Value.oneCell']
theorem nn_one (p : Nn) : p.vals.toArray.all (·.oneCell') = true := by
  have h := bu_one p.ad
  unfold Nn.vals
  simp only [List.all_toArray, List.all_append] at h ⊢
  rw [h]
  rfl
theorem Tryd.bN4 (a0 a1 a2 a3 n : Int) (W : World) : (Instr.build 32 #[(0, .agg #[.int .u8 a0, .int .u8 a1, .int .u8 a2, .int .u8 a3]), (1, .int .i64 n)]).run Tryd.prog W = .ok (.agg #[.int .u8 a0, .int .u8 a1, .int .u8 a2, .int .u8 a3, .int .i64 n]) W := by kernel_rfl
theorem bN4v (p : Nn) (h : p.ad.length = 4) (W : World) : (Instr.build 32 #[(0, .agg (bu p.ad).toArray), (1, .int .i64 p.ln)]).run Tryd.prog W = .ok (.agg p.vals.toArray) W := by
  obtain ⟨l, n⟩ := p
  obtain ⟨a, b, c, d, rfl⟩ : ∃ a b c d, l = [a, b, c, d] := by
    match l, h with
    | [a, b, c, d], _ => exact ⟨a, b, c, d, rfl⟩
  exact Tryd.bN4 _ _ _ _ _ W
theorem run_exec {P : Program} {op : Oper} {a : Act} {w : World} {v : Value} {T : TypeId} {l : Array (Nat × Operand)} {m : Array (Nat × Value)} (ho : op.op = .build T l) (hm : l.map (fun p => (p.1, a.eval p.2)) = m) (h : (Instr.build T m).run P w = .ok v w) : (execOp a.eval op).run P w = .ok (.value v) w := by
  unfold execOp
  simp only [ho, Sem.run_bind]
  rw [← hm] at h
  have e : (l.map fun x => match x with | (i, x) => (i, a.eval x)) = l.map (fun p => (p.1, a.eval p.2)) := rfl
  rw [e, h]
  rfl
theorem Tryd.execZN4 (ρ : Operand → Value) (d : Option Tmp) (ty : TypeId) (ps : String) (af : Array Edge) (gd : Option (Nat × Bool)) (w : World) : (execOp ρ { dst := d, op := .build 32 #[], type := ty, pos := ps, after := af, guard := gd }).run Tryd.prog w = .ok (.value (.agg zeroN4.vals.toArray)) w := by kernel_rfl
/-- What is kept: some blocks, and a row of texts in another one. -/
theorem StrC.below {g : Nat} {l : List ByteArray} {w w' : World} (h : StrC g l w) (hb : Below w.heap.size w w') : StrC g l w' := fun i hi => (hb.cell (World.block_lt_of_cell? w _ (h i hi))).trans (h i hi)
theorem cell_sets {w : World} {g b : Nat} {v : Value} (hg : g ≠ b) (h : w.cell? ⟨g, 1, none⟩ = some v) (vs : List Value) : (w.setCells b 0 vs).cell? ⟨g, 1, none⟩ = some v := by
  have h2 := heap_sets (b := b) (k := g) vs hg 0 w
  unfold World.cell? at h ⊢
  rw [h2]
  exact h
theorem kp_cons {w0 w : World} {B b : Nat} {T : TypeId} {V : List Value} {l : List (Nat × TypeId × List Value)} (h : Bk w b T V.toArray) (k : Kp w0 B l w) : Kp w0 B ((b, T, V) :: l) w := ⟨fun x hx => by
  rcases List.mem_cons.1 hx with rfl | hx
  · exact h
  · exact k.1 x hx, k.2⟩
set_option maxRecDepth 100000 in
set_option maxHeartbeats 2000000 in
theorem rparsenet4_any (s : ByteArray) (w : World) (hs : s.size ≤ 70000) :
    Calls Tryd.prog 21 #[.string s] w fun e w' => e = .returned (.tuple #[.agg (valN4 s).vals.toArray, .bool (okN4 s)]) ∧ Below w.heap.size w w' := by
  have CS := Lib.hid (fun W => rsplit_any s 47 W hs)
  have HSz := Lib.hid (parts_sizes s 47)
  have HOk : Hid (okN4 s = (decide ((parts s 47).length = 2) && (ok4 (txt (parts s 47) 0) && (net4 s).holds (net4 s).ad))) := Lib.hid rfl
  have HV : Hid (valN4 s = if okN4 s = true then net4 s else zeroN4) := Lib.hid rfl
  have HN : Hid ((net4 s).ad = val4u (txt (parts s 47) 0) ∧ (net4 s).ln = numb (bl (txt (parts s 47) 1)) 32) := Lib.hid ⟨rfl, rfl⟩
  have HN4 : Hid ((net4 s).ad.length = 4) := Lib.hid (val4u_len _)
  generalize okN4 s = ok at *
  generalize valN4 s = vn at *
  generalize net4 s = N at *
  generalize parts s 47 = P at *
  have HZ5 : Hid ((Tryd.prog.info? 32).map (·.size) = some 5) := Lib.hid (Tryd.infoN4 zeroN4 rfl)
  have HZ4 : Hid ((Tryd.prog.info? 28).map (·.size) = some 4) := Lib.hid (Tryd.infoFour zero4 rfl)
  have HO5 := Lib.hid (nn_one zeroN4)
  have HBD : Hid (∀ (ρ : Operand → Value) (d : Option Tmp) (ty : TypeId) (ps : String) (af : Array Edge) (W : World), (execOp ρ { dst := d, op := .build 32 #[], type := ty, pos := ps, after := af, guard := none }).run Tryd.prog W = .ok (.value (.agg ([.int .u8 0, .int .u8 0, .int .u8 0, .int .u8 0, .int .i64 0] : List Value).toArray)) W) := Lib.hid (fun ρ d ty ps af W => Tryd.execZN4 ρ d ty ps af none W)
  have HO5' : Hid (([.int .u8 0, .int .u8 0, .int .u8 0, .int .u8 0, .int .i64 0] : List Value).toArray.all (·.oneCell') = true) := Lib.hid (by simp [Value.oneCell'])
  have HZV : Hid (zeroN4.vals = ([.int .u8 0, .int .u8 0, .int .u8 0, .int .u8 0, .int .i64 0] : List Value)) := Lib.hid rfl
  have HK1 := Lib.hid ((Kp.start w).new 32 ([.int .u8 0, .int .u8 0, .int .u8 0, .int .u8 0, .int .i64 0] : List Value))
  have HS1 : Hid ((w.alloc (.cells ([.int .u8 0, .int .u8 0, .int .u8 0, .int .u8 0, .int .i64 0] : List Value).toArray 32)).heap.size = w.heap.size + 1) := Lib.hid (by simp)
  generalize hw1 : w.alloc (.cells ([.int .u8 0, .int .u8 0, .int .u8 0, .int .u8 0, .int .i64 0] : List Value).toArray 32) = w1 at *
  go_enter Tryd.func21, Tryd.ntmps21
  go_upto_region 1 with (fail)
  clear hw1
  go_wp2_with fail
  refine (CS.out w1).mono ?_
  rintro e w2 ⟨v, rfl, hst, b2⟩
  have HK2 := Lib.hid (HK1.out.below b2 (Nat.le_refl _))
  obtain ⟨g, cap, hv, hg, hcs⟩ := hst
  subst hv
  have HGb : Hid (w.heap.size < g) := Lib.hid (by have := HS1.out; omega)
  have HC2 : Hid (StrC g P w2) := Lib.hid hcs
  clear b2 HK1 CS hg hcs HS1
  have ht0 := HK2.out.hd.there 5 (Nat.le_refl _)
  by_cases h2 : P.length = 2
  · have e2 : ((P.length : Int) != 2) = false := by rw [h2]; rfl
    obtain ⟨t0, t1, hP⟩ : ∃ t0 t1, P = [t0, t1] := by
      match P, h2 with
      | [t0, t1], _ => exact ⟨t0, t1, rfl⟩
    subst hP
    have c0 : w2.cell? ⟨g, 0, none⟩ = some (.string t0) := HC2.out 0 (by simp)
    have c1 : w2.cell? ⟨g, 1, none⟩ = some (.string t1) := HC2.out 1 (by simp)
    have HC1 := Lib.hid c1
    have hs0 : t0.size ≤ 70000 := by have := HSz.out t0 (by simp); omega
    have C4 : Hid (∀ W, Calls Tryd.prog 19 #[.string t0] W fun e w' => e = .returned (.tuple #[.agg (bu N.ad).toArray, .bool (ok4 t0)]) ∧ Below W.heap.size W w') := Lib.hid (fun W => by
      have h := rparse4_any t0 W hs0
      rw [← val4u_b8] at h
      rw [HN.out.1]
      exact h)
    have CN : Hid (∀ W, Calls Tryd.prog 52 #[.string t1, .int .i64 32] W fun e w' => e = .returned (.int .i64 N.ln) ∧ Below W.heap.size W w') := Lib.hid (fun W => by
      rw [HN.out.2]
      exact (rnumb_any t1 32 W).mono (by rintro e w' ⟨rfl, rfl⟩; exact ⟨rfl, Below.refl _ _⟩))
    have CH := Lib.hid (fun W => rholds4_any N N.ad HN4.out HN4.out W)
    have HBN := Lib.hid (bN4v N HN4.out)
    have HX : Hid (ok = (ok4 t0 && N.holds N.ad)) := Lib.hid (by rw [HOk.out]; rfl)
    have HIV := Lib.hid (Tryd.infoN4 N HN4.out)
    have HOV := Lib.hid (nn_one N)
    have HID : Hid ((Tryd.prog.info? 28).map (·.size) = some (bu N.ad).length) := Lib.hid (by rw [bu_len, HN4.out]; exact HZ4.out)
    have HOD := Lib.hid (bu_one N.ad)
    have HLD : Hid ((bu N.ad).length = 4) := Lib.hid (by rw [bu_len]; exact HN4.out)
    have HLV : Hid (N.vals.length = 5) := Lib.hid (by unfold Nn.vals; rw [List.length_append, bu_len, HN4.out]; rfl)
    have HW : Hid (vn.vals = if ok = true then N.vals else ([.int .u8 0, .int .u8 0, .int .u8 0, .int .u8 0, .int .i64 0] : List Value)) := Lib.hid (by rw [HV.out]; cases ok <;> rfl)
    clear HSz HOk HN HN4 HC2 hs0 HV
    generalize hR : vn.vals = VR at *
    have HVR := Lib.hid hR
    clear hR
    generalize ok4 t0 = o1 at *
    generalize N.holds N.ad = o2 at *
    generalize N.ln = L at *
    generalize bu N.ad = VD at *
    generalize N.vals = NV at *
    clear ht0
    go_wp2_with fail
    refine (C4.out _).mono ?_
    rintro e w3 ⟨rfl, b3⟩
    have HK3 := Lib.hid (HK2.out.below b3 (Nat.le_refl _))
    have HC3 : Hid (w3.cell? ⟨g, 1, none⟩ = some (.string t1)) := Lib.hid ((b3.cell (World.block_lt_of_cell? w2 _ HC1.out)).trans HC1.out)
    clear b3 HK2 C4 c0 c1 HC1
    have ht3 : (w3.alloc (.cells ([.int .u8 0, .int .u8 0, .int .u8 0, .int .u8 0] : List Value).toArray 28)).there w3.heap.size 0 VD.toArray.size := (bk_new w3 28 ([.int .u8 0, .int .u8 0, .int .u8 0, .int .u8 0] : List Value).toArray).there _ (by have := HLD.out; simp; omega)
    go_upto_region 5 with (refine wpList_store_mid rfl 28 _ _ rfl w3.heap.size 0 VD.toArray rfl rfl ht3 (by simpa using HID.out) HOD.out ?_)
    have HK4 := Lib.hid (HK3.out.put 28 ([.int .u8 0, .int .u8 0, .int .u8 0, .int .u8 0] : List Value).toArray VD (by have := HLD.out; simp; omega))
    have hc4 : ((w3.alloc (.cells ([.int .u8 0, .int .u8 0, .int .u8 0, .int .u8 0] : List Value).toArray 28)).setCells w3.heap.size 0 VD).cell? ⟨g, 1, none⟩ = some (.string t1) := by
      have hlt := World.block_lt_of_cell? w3 _ HC3.out
      have h1 : (w3.alloc (.cells ([.int .u8 0, .int .u8 0, .int .u8 0, .int .u8 0] : List Value).toArray 28)).cell? ⟨g, 1, none⟩ = some (.string t1) := ((Below.refl w3.heap.size w3).alloc (Nat.le_refl _) (.cells ([.int .u8 0, .int .u8 0, .int .u8 0, .int .u8 0] : List Value).toArray 28) |>.cell hlt).trans HC3.out
      have h2 := heap_sets (b := w3.heap.size) (k := g) VD (by have : g < w3.heap.size := hlt; omega) 0 (w3.alloc (.cells ([.int .u8 0, .int .u8 0, .int .u8 0, .int .u8 0] : List Value).toArray 28))
      unfold World.cell? at h1 ⊢
      rw [h2]
      exact h1
    have HC4 := Lib.hid hc4
    clear hc4 ht3 HK3 HC3
    generalize (w3.alloc (.cells ([.int .u8 0, .int .u8 0, .int .u8 0, .int .u8 0] : List Value).toArray 28)).setCells w3.heap.size 0 VD = w4 at *
    generalize w3.heap.size = g1 at *
    rename_i KK hKK
    have key : Hid (∀ (g7 : Nat) (w7 : World), Bk w7 g7 32 NV.toArray → Kp w w.heap.size [(g1, 28, VD), (w.heap.size, 32, ([.int .u8 0, .int .u8 0, .int .u8 0, .int .u8 0, .int .i64 0] : List Value))] w7 → KK {tmps := #[.string s, undef, .pointer (some ⟨w.heap.size, 0, none⟩), .bool false, .slice (some ⟨g, 0, none⟩) 2 cap, .pointer (some ⟨g1, 0, none⟩), .bool o1, .pointer (some ⟨g7, 0, none⟩), .string s, .slice (some ⟨g, 0, none⟩) 2 cap, .slice (some ⟨g, 0, none⟩) 2 cap, .int .i64 2, .bool false, undef, .tuple #[.agg VD.toArray, .bool o1], .slice (some ⟨g, 0, none⟩) 2 cap, .pointer (some ⟨g, 0, none⟩), .string t0, .tuple #[.agg VD.toArray, .bool o1], .agg VD.toArray, .bool o1, .agg VD.toArray, .slice (some ⟨g, 0, none⟩) 2 cap, .pointer (some ⟨g, 1, none⟩), .string t1, .int .i64 L, .agg NV.toArray, undef, undef, undef, undef, undef, undef, undef, undef, undef, undef], defers := []} w7) := Lib.hid (by
      intro g7 w7 h2 h3
      refine hKK _ _ ?_
      have HK7 := Lib.hid (kp_cons h2 h3)
      clear h2 h3 hKK HK4 HC4 CN HBN
      cases o1
      · have HX1 : Hid (ok = false) := Lib.hid (by rw [HX.out]; rfl)
        have HX2 : Hid (VR = ([.int .u8 0, .int .u8 0, .int .u8 0, .int .u8 0, .int .i64 0] : List Value)) := Lib.hid (by rw [HW.out, HX1.out]; rfl)
        have ht := HK7.out.tl.tl.hd.there 5 (Nat.le_refl _)
        clear HX HW
        go_wp2_with (first | (refine Great.wpList_readTo rfl _ rfl (.agg ([.int .u8 0, .int .u8 0, .int .u8 0, .int .u8 0, .int .i64 0] : List Value).toArray) (HBD.out _ _ _ _ _ _) ?_) | (refine wpList_store_mid rfl 32 _ _ rfl w.heap.size 0 ([.int .u8 0, .int .u8 0, .int .u8 0, .int .u8 0, .int .i64 0] : List Value).toArray rfl rfl ht HZ5.out HO5'.out ?_))
        have hk7 := Bk.sets ([.int .u8 0, .int .u8 0, .int .u8 0, .int .u8 0, .int .i64 0] : List Value) 0 _ _ HK7.out.tl.tl.hd
        rw [puts_whole ([.int .u8 0, .int .u8 0, .int .u8 0, .int .u8 0, .int .i64 0] : List Value).toArray ([.int .u8 0, .int .u8 0, .int .u8 0, .int .u8 0, .int .i64 0] : List Value) (by simp)] at hk7
        refine bodyPost_ret (v := .tuple #[.agg ([.int .u8 0, .int .u8 0, .int .u8 0, .int .u8 0, .int .i64 0] : List Value).toArray, .bool false]) ?_ rfl ⟨by rw [HX1.out, HVR.out, HX2.out], below_sets _ (Nat.le_refl _) 0 _ HK7.out.2.1⟩
        exact results_cell2 rfl rfl rfl (run_loadVar_mid _ w.heap.size 0 32 ([.int .u8 0, .int .u8 0, .int .u8 0, .int .u8 0, .int .i64 0] : List Value) _ hk7.range Tryd.underlying32 rfl HZ5.out)
      · have hr0 := HK7.out.hd.range
        have hr1 := HK7.out.tl.hd.range
        go_wp2_with (first | (refine wpList_load_if (by rfl) 32 _ rfl g7 0 rfl NV _ hr0 Tryd.underlying32 rfl HIV.out ?_) | (refine wpList_load_if (by rfl) 28 _ rfl g1 0 rfl VD _ hr1 Tryd.underlying28 rfl HID.out ?_))
        clear hr0 hr1
        refine (CH.out _).mono ?_
        rintro e w8 ⟨rfl, b8'⟩
        have HK8 := Lib.hid (HK7.out.below b8' (Nat.le_refl _))
        clear b8' HK7 CH
        have ht := HK8.out.tl.tl.hd.there 5 (Nat.le_refl _)
        cases o2
        · have HX1 : Hid (ok = false) := Lib.hid (by rw [HX.out]; rfl)
          have HX2 : Hid (VR = ([.int .u8 0, .int .u8 0, .int .u8 0, .int .u8 0, .int .i64 0] : List Value)) := Lib.hid (by rw [HW.out, HX1.out]; rfl)
          clear HX HW
          go_wp2_with (first | (refine Great.wpList_readTo rfl _ rfl (.agg ([.int .u8 0, .int .u8 0, .int .u8 0, .int .u8 0, .int .i64 0] : List Value).toArray) (HBD.out _ _ _ _ _ _) ?_) | (refine wpList_store_mid rfl 32 _ _ rfl w.heap.size 0 ([.int .u8 0, .int .u8 0, .int .u8 0, .int .u8 0, .int .i64 0] : List Value).toArray rfl rfl ht HZ5.out HO5'.out ?_))
          have hk7 := Bk.sets ([.int .u8 0, .int .u8 0, .int .u8 0, .int .u8 0, .int .i64 0] : List Value) 0 _ _ HK8.out.tl.tl.hd
          rw [puts_whole ([.int .u8 0, .int .u8 0, .int .u8 0, .int .u8 0, .int .i64 0] : List Value).toArray ([.int .u8 0, .int .u8 0, .int .u8 0, .int .u8 0, .int .i64 0] : List Value) (by simp)] at hk7
          refine bodyPost_ret (v := .tuple #[.agg ([.int .u8 0, .int .u8 0, .int .u8 0, .int .u8 0, .int .i64 0] : List Value).toArray, .bool false]) ?_ rfl ⟨by rw [HX1.out, HVR.out, HX2.out], below_sets _ (Nat.le_refl _) 0 _ HK8.out.2.1⟩
          exact results_cell2 rfl rfl rfl (run_loadVar_mid _ w.heap.size 0 32 ([.int .u8 0, .int .u8 0, .int .u8 0, .int .u8 0, .int .i64 0] : List Value) _ hk7.range Tryd.underlying32 rfl HZ5.out)
        · have HX1 : Hid (ok = true) := Lib.hid (by rw [HX.out]; rfl)
          have HX2 : Hid (VR = NV) := Lib.hid (by rw [HW.out, HX1.out]; rfl)
          clear HX HW
          have hr0 := HK8.out.hd.range
          have htv : w8.there w.heap.size 0 NV.toArray.size := HK8.out.tl.tl.hd.there _ (by have := HLV.out; simp; omega)
          have hk7 := Bk.sets NV 0 _ _ HK8.out.tl.tl.hd
          rw [puts_whole ([.int .u8 0, .int .u8 0, .int .u8 0, .int .u8 0, .int .i64 0] : List Value).toArray NV (by have := HLV.out; simp; omega)] at hk7
          have HK9 := Lib.hid hk7
          clear hk7 ht
          go_wp2_with (first | (refine wpList_load_mid rfl 32 _ rfl g7 0 rfl NV _ hr0 Tryd.underlying32 rfl HIV.out ?_) | (refine wpList_store_mid rfl 32 _ _ rfl w.heap.size 0 NV.toArray rfl rfl htv (by simpa using HIV.out) HOV.out ?_))
          refine bodyPost_ret (v := .tuple #[.agg NV.toArray, .bool true]) ?_ rfl ⟨by rw [HX1.out, HVR.out, HX2.out], below_sets _ (Nat.le_refl _) 0 _ HK8.out.2.1⟩
          exact results_cell2 rfl rfl rfl (run_loadVar_mid _ w.heap.size 0 32 NV _ HK9.out.range Tryd.underlying32 rfl HIV.out))
    have HKR := Lib.hid (show ∀ W : World, Kp w w.heap.size [(g1, 28, VD), (w.heap.size, 32, ([.int .u8 0, .int .u8 0, .int .u8 0, .int .u8 0, .int .i64 0] : List Value))] W → W.cell? ⟨g, 1, none⟩ = some (.string t1) → Kp w w.heap.size [(g1, 28, VD), (w.heap.size, 32, ([.int .u8 0, .int .u8 0, .int .u8 0, .int .u8 0, .int .i64 0] : List Value))] W ∧ W.rangeAt g1 0 VD ∧ W.cell? ⟨g, 1, none⟩ = some (.string t1) from fun W k c => ⟨k, k.hd.range, c⟩)
    refine wp_region_noPanic ?_
    refine wp_region_held_drew (S := fun w' => Kp w w.heap.size [(g1, 28, VD), (w.heap.size, 32, ([.int .u8 0, .int .u8 0, .int .u8 0, .int .u8 0, .int .i64 0] : List Value))] w' ∧ w'.rangeAt g1 0 VD ∧ w'.cell? ⟨g, 1, none⟩ = some (.string t1)) (by kernel_rfl) (HKR.out _ HK4.out.drew HC4.out) (fun hHeld => ?_)
    refine wpAnyH_take (i := 0) (oi := { dst := some 21, op := Op.load 28 (Operand.tmp 5), type := 28, pos := "ref.go:157", after := #[], guard := none }) (v := .agg (VD).toArray) rfl (by kernel_rfl) (by kernel_rfl) (by kernel_rfl) (fun _ _ _ h => h) (yieldsIf_load_mid (by rfl) _ _ rfl (g1) 0 rfl (VD) _ (fun ww hSw => hSw.2.1) Tryd.underlying28 rfl HID.out) (by assumption) ?_
    (try simp only [Act.put, List.setIfInBounds_toArray, List.set_cons_zero, List.set_cons_succ])
    refine wpAnyH_take (i := 1) (oi := { dst := some 22, op := Op.move (Operand.tmp 4), type := 64, pos := "ref.go:157", after := #[], guard := none }) (v := ?_) rfl (by kernel_rfl) (by kernel_rfl) (by kernel_rfl) (fun _ _ _ h => h) (Or.inl ⟨by rfl, ?_⟩) (by assumption) ?_
    rotate_left
    · (intro ww hSw; (try dsimp only at hSw); go_simp; try with_reducible rfl)
    (try simp only [Act.put, List.setIfInBounds_toArray, List.set_cons_zero, List.set_cons_succ])
    refine wpAnyH_take (i := 2) (oi := { dst := some 23, op := Op.indexAddr 64 (Operand.tmp 22) (Operand.const (Value.int IntKind.i64 1)), type := 0, pos := "ref.go:157", after := #[{ on := 1, ground := Ground.data }], guard := none }) (v := ?_) rfl (by kernel_rfl) (by kernel_rfl) (by kernel_rfl) (fun _ _ _ h => h) (Or.inl ⟨by rfl, ?_⟩) (by assumption) ?_
    rotate_left
    · (intro ww hSw; (try dsimp only at hSw); go_simp; try with_reducible rfl)
    (try simp only [Act.put, List.setIfInBounds_toArray, List.set_cons_zero, List.set_cons_succ])
    refine wpAnyH_take (i := 3) (oi := { dst := some 24, op := Op.load 9 (Operand.tmp 23), type := 9, pos := "ref.go:157", after := #[{ on := 2, ground := Ground.data }], guard := none }) (v := ?_) rfl (by kernel_rfl) (by kernel_rfl) (by kernel_rfl) (fun _ _ _ h => h) (Or.inl ⟨by rfl, ?_⟩) (by assumption) ?_
    rotate_left
    · (intro ww hSw; (try dsimp only at hSw); go_simp; try with_reducible rfl)
    (try simp only [Act.put, List.setIfInBounds_toArray, List.set_cons_zero, List.set_cons_succ])
    refine wpAnyH_ready (rs := [4, 6]) (by kernel_rfl) (by simp) ?_
    refine AllReadyH.cons (o := { dst := some 25, op := Op.call { callee := Callee.value (Operand.func 52), args := #[Operand.tmp 24, Operand.const (Value.int IntKind.i64 32)], argTypes := #[9, 3] }, type := 3, pos := "ref.go:157", after := #[{ on := 3, ground := Ground.data }], guard := none }) rfl (fun K hK => ?_) (AllReadyH.cons (o := { dst := some 7, op := Op.alloc 32, type := 0, pos := "ref.go:157", after := #[], guard := none }) rfl (fun K hK => ?_) AllReadyH.nil)
    · go_simp
      ((with_reducible refine (CN.out _).mono ?_); rintro e wA ⟨rfl, hb9⟩)
      refine hK.out _ _ (HKR.out _ ((And.left hHeld).below hb9 (Nat.le_refl _)) ((hb9.cell (World.block_lt_of_cell? _ _ hHeld.2.2)).trans hHeld.2.2)) (fun hHeld => ?_)
      clear hK K
      (try simp only [Act.put, List.setIfInBounds_toArray, List.set_cons_zero, List.set_cons_succ])
      refine wpAnyH_take (i := 5) (oi := { dst := some 26, op := Op.build 32 #[(0, Operand.tmp 21), (1, Operand.tmp 25)], type := 32, pos := "ref.go:157", after := #[{ on := 0, ground := Ground.data }, { on := 4, ground := Ground.data }], guard := none }) (v := (.agg NV.toArray)) rfl (by kernel_rfl) (by kernel_rfl) (by kernel_rfl) (fun _ _ _ h => h) (Or.inl ⟨by rfl, fun ww _ => run_exec rfl (by rw [List.map_toArray]; rfl) (HBN.out ww)⟩) (by assumption) ?_
      (try simp only [Act.put, List.setIfInBounds_toArray, List.set_cons_zero, List.set_cons_succ])
      refine wpAnyH_ready (rs := [6]) (by kernel_rfl) (by simp) ?_
      refine AllReadyH.cons (o := { dst := some 7, op := Op.alloc 32, type := 0, pos := "ref.go:157", after := #[], guard := none }) rfl (fun K hK => ?_) AllReadyH.nil
      have hnw := (And.left hHeld).2.2
      have hne := fun x hx => (And.left hHeld).ne x hx
      have hgn := Nat.ne_of_lt (World.block_lt_of_cell? _ _ hHeld.2.2)
      go_simp
      refine hK.out _ _ (HKR.out _ ((And.left hHeld).alloc _) (((Below.refl _ _).alloc (Nat.le_refl _) _ |>.cell (World.block_lt_of_cell? _ _ hHeld.2.2)).trans hHeld.2.2)) (fun hHeld => ?_)
      clear hK K
      (try simp only [Act.put, List.setIfInBounds_toArray, List.set_cons_zero, List.set_cons_succ])
      have hA := bk_new (wA) 32 ([.int .u8 0, .int .u8 0, .int .u8 0, .int .u8 0, .int .i64 0] : List Value).toArray
      refine wpAnyH_ready (rs := [7]) (by kernel_rfl) (by simp) ?_
      refine AllReadyH.cons (o := { dst := none, op := Op.store 32 (Operand.tmp 7) (Operand.tmp 26), type := 0, pos := "ref.go:157", after := #[{ on := 6, ground := Ground.data }, { on := 5, ground := Ground.data }, { on := 4, ground := Ground.chain }, { on := 0, ground := Ground.phase }, { on := 1, ground := Ground.phase }, { on := 2, ground := Ground.phase }, { on := 3, ground := Ground.phase }, { on := 4, ground := Ground.phase }, { on := 5, ground := Ground.phase }, { on := 6, ground := Ground.phase }], guard := none }) rfl (fun K hK => ?_) AllReadyH.nil
      rw [if_pos (by rfl)]
      have hS := Bk.sets NV 0 _ _ hA
      rw [puts_whole ([.int .u8 0, .int .u8 0, .int .u8 0, .int .u8 0, .int .i64 0] : List Value).toArray NV (by have := HLV.out; simp; omega)] at hS
      refine wp_store_mid 32 _ _ rfl (wA).heap.size 0 NV.toArray rfl rfl (hA.there _ (by have := HLV.out; simp; omega)) (by simpa using HIV.out) HOV.out ?_
      refine hK.out _ _ (HKR.out _ ((And.left hHeld).sets hne hnw 0 NV) (cell_sets hgn hHeld.2.2 NV)) (fun hHeld => ?_)
      clear hK K
      (try simp only [Act.put])
      refine wpAnyH_done (by kernel_rfl) ?_ _
      refine NoPanic.normal ?_
      exact key.out _ _ hS (And.left hHeld)
    · have hnw := (And.left hHeld).2.2
      have hne := fun x hx => (And.left hHeld).ne x hx
      have hgn := Nat.ne_of_lt (World.block_lt_of_cell? _ _ hHeld.2.2)
      go_simp
      refine hK.out _ _ (HKR.out _ ((And.left hHeld).alloc _) (((Below.refl _ _).alloc (Nat.le_refl _) _ |>.cell (World.block_lt_of_cell? _ _ hHeld.2.2)).trans hHeld.2.2)) (fun hHeld => ?_)
      clear hK K
      (try simp only [Act.put, List.setIfInBounds_toArray, List.set_cons_zero, List.set_cons_succ])
      have hA := bk_new (w4.drew) 32 ([.int .u8 0, .int .u8 0, .int .u8 0, .int .u8 0, .int .i64 0] : List Value).toArray
      refine wpAnyH_ready (rs := [4]) (by kernel_rfl) (by simp) ?_
      refine AllReadyH.cons (o := { dst := some 25, op := Op.call { callee := Callee.value (Operand.func 52), args := #[Operand.tmp 24, Operand.const (Value.int IntKind.i64 32)], argTypes := #[9, 3] }, type := 3, pos := "ref.go:157", after := #[{ on := 3, ground := Ground.data }], guard := none }) rfl (fun K hK => ?_) AllReadyH.nil
      go_simp
      ((with_reducible refine (CN.out _).mono ?_); rintro e wA ⟨rfl, hb9⟩)
      refine hK.out _ _ (HKR.out _ ((And.left hHeld).below hb9 (Nat.le_refl _)) ((hb9.cell (World.block_lt_of_cell? _ _ hHeld.2.2)).trans hHeld.2.2)) (fun hHeld => ?_)
      clear hK K
      (try simp only [Act.put, List.setIfInBounds_toArray, List.set_cons_zero, List.set_cons_succ])
      have hA := hA.below hb9 hA.lt
      refine wpAnyH_take (i := 5) (oi := { dst := some 26, op := Op.build 32 #[(0, Operand.tmp 21), (1, Operand.tmp 25)], type := 32, pos := "ref.go:157", after := #[{ on := 0, ground := Ground.data }, { on := 4, ground := Ground.data }], guard := none }) (v := (.agg NV.toArray)) rfl (by kernel_rfl) (by kernel_rfl) (by kernel_rfl) (fun _ _ _ h => h) (Or.inl ⟨by rfl, fun ww _ => run_exec rfl (by rw [List.map_toArray]; rfl) (HBN.out ww)⟩) (by assumption) ?_
      (try simp only [Act.put, List.setIfInBounds_toArray, List.set_cons_zero, List.set_cons_succ])
      refine wpAnyH_ready (rs := [7]) (by kernel_rfl) (by simp) ?_
      refine AllReadyH.cons (o := { dst := none, op := Op.store 32 (Operand.tmp 7) (Operand.tmp 26), type := 0, pos := "ref.go:157", after := #[{ on := 6, ground := Ground.data }, { on := 5, ground := Ground.data }, { on := 4, ground := Ground.chain }, { on := 0, ground := Ground.phase }, { on := 1, ground := Ground.phase }, { on := 2, ground := Ground.phase }, { on := 3, ground := Ground.phase }, { on := 4, ground := Ground.phase }, { on := 5, ground := Ground.phase }, { on := 6, ground := Ground.phase }], guard := none }) rfl (fun K hK => ?_) AllReadyH.nil
      rw [if_pos (by rfl)]
      have hS := Bk.sets NV 0 _ _ hA
      rw [puts_whole ([.int .u8 0, .int .u8 0, .int .u8 0, .int .u8 0, .int .i64 0] : List Value).toArray NV (by have := HLV.out; simp; omega)] at hS
      refine wp_store_mid 32 _ _ rfl (w4.drew).heap.size 0 NV.toArray rfl rfl (hA.there _ (by have := HLV.out; simp; omega)) (by simpa using HIV.out) HOV.out ?_
      refine hK.out _ _ (HKR.out _ ((And.left hHeld).sets hne hnw 0 NV) (cell_sets hgn hHeld.2.2 NV)) (fun hHeld => ?_)
      clear hK K
      (try simp only [Act.put])
      refine wpAnyH_done (by kernel_rfl) ?_ _
      refine NoPanic.normal ?_
      exact key.out _ _ hS (And.left hHeld)
  · have e2 : ((P.length : Int) != 2) = true := by rw [bne_iff_ne]; omega
    have HX1 : Hid (ok = false) := Lib.hid (by rw [HOk.out, decide_eq_false h2]; rfl)
    have HX2 : Hid (vn.vals = ([.int .u8 0, .int .u8 0, .int .u8 0, .int .u8 0, .int .i64 0] : List Value)) := Lib.hid (by rw [HV.out, HX1.out]; rfl)
    clear HOk HV h2
    go_wp2_with (first | (refine Great.wpList_readTo rfl _ rfl (.agg ([.int .u8 0, .int .u8 0, .int .u8 0, .int .u8 0, .int .i64 0] : List Value).toArray) (HBD.out _ _ _ _ _ _) ?_) | (refine wpList_store_mid rfl 32 _ _ rfl w.heap.size 0 ([.int .u8 0, .int .u8 0, .int .u8 0, .int .u8 0, .int .i64 0] : List Value).toArray rfl rfl ht0 HZ5.out HO5'.out ?_))
    have hk7 := Bk.sets ([.int .u8 0, .int .u8 0, .int .u8 0, .int .u8 0, .int .i64 0] : List Value) 0 _ _ HK2.out.hd
    rw [puts_whole ([.int .u8 0, .int .u8 0, .int .u8 0, .int .u8 0, .int .i64 0] : List Value).toArray ([.int .u8 0, .int .u8 0, .int .u8 0, .int .u8 0, .int .i64 0] : List Value) (by simp)] at hk7
    refine bodyPost_ret (v := .tuple #[.agg ([.int .u8 0, .int .u8 0, .int .u8 0, .int .u8 0, .int .i64 0] : List Value).toArray, .bool false]) ?_ rfl ⟨by rw [HX1.out, HX2.out], below_sets _ (Nat.le_refl _) 0 _ HK2.out.2.1⟩
    exact results_cell2 rfl rfl rfl (run_loadVar_mid _ w.heap.size 0 32 ([.int .u8 0, .int .u8 0, .int .u8 0, .int .u8 0, .int .i64 0] : List Value) _ hk7.range Tryd.underlying32 rfl HZ5.out)
end Go.Proofs.YtkdplnbabelkoaaDoor
