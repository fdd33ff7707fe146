/-
  Proved here: what ip4.Parse answers.
  Conditions: a text of at most 70000 bytes.
-/
import Derived.Test.YtdljjcnihajchaaFRead
import Derived.Great.Walk
import Derived.Deep.Cut
namespace Go.Proofs.Ytdljjcnihajchaa.P4
open Go.RowKit

theorem wpList_load_if {P : Program} {ops : Array Oper} {rest : List Oper} {op : Oper} {a : Act} {w : World} {Q : Exit → Act → World → Prop} (hw : Region.wanted op (yielded ops a.tmps) = true) (ty : TypeId) (x : Operand) (ho : op.op = .load ty x)
    (b o : Nat) (hx : a.eval x = .pointer (some ⟨b, o, none⟩)) (cs : List Value) (d : TypeDesc) (hc : w.rangeAt b o cs)
    (hu : P.underlying ty = some d) (hd : d.isRow = true) (hi : (P.info? ty).map (·.size) = some cs.length)
    (h : wpList P ops Q rest (a.put op.dst (.agg cs.toArray)) w) : wpList P ops Q (op :: rest) a w :=
  wpList_step fun K hK => by
    rw [if_pos hw]
    exact wp_load_mid ty x ho b o hx cs d hc hu hd hi (hK _ _ h)
theorem Try.execZ (ρ : Operand → Value) (d : Option Tmp) (ty : TypeId) (ps : String) (af : Array Edge) (w : World) : (execOp ρ { dst := d, op := .build 35 #[], type := ty, pos := ps, after := af, guard := none }).run Try.prog w = .ok (.value (.agg pkt0.vals.toArray)) w := by kernel_rfl
/-- The packet that a text begins with, if it does. -/
def ppkt (s : ByteArray) : Pkt := rdP (s.extract 0 (num2 s 2)) (hdN s)
/-- By which code a text begins with no packet; 0: it does. -/
def pcode (s : ByteArray) : Int :=
  if mcode s = 0 then (if freeB (s.extract 0 (num2 s 2)) = true ∧ (ppkt s).why = 0 then 0 else 8) else mcode s
set_option maxRecDepth 100000 in
set_option maxHeartbeats 400000 in
theorem parse_none (s : ByteArray) (w : World) (hs : s.size ≤ 70000) (hc : (mcode s != 0) = true) :
    Calls Try.prog 14 #[.string s] w (Bad (.agg pkt0.vals.toArray) (mcode s) w) := by
  obtain ⟨VZ, hVZ⟩ : ∃ VZ, VZ = pkt0.vals := ⟨_, rfl⟩
  have HBD : Hid (∀ (ρ : Operand → Value) (d : Option Tmp) (ty : TypeId) (ps : String) (af : Array Edge) (W : World), (execOp ρ { dst := d, op := .build 35 #[], type := ty, pos := ps, after := af, guard := none }).run Try.prog W = .ok (.value (.agg VZ.toArray)) W) := Lib.hid (fun ρ d ty ps af W => by rw [hVZ]; exact Try.execZ ρ d ty ps af W)
  have HIz : Hid ((Try.prog.info? 35).map (·.size) = some VZ.length) := Lib.hid (by rw [hVZ]; exact Try.infoIp pkt0)
  have HOz : Hid (VZ.toArray.all (·.oneCell') = true) := Lib.hid (by rw [hVZ]; exact vals_one pkt0)
  have HPz : Hid (∀ p : Pkt, puts p.vals.toArray 0 VZ = VZ.toArray) := Lib.hid (fun p => by rw [hVZ]; exact puts_all p pkt0)
  have HSz : Hid (VZ.toArray.size = 17) := Lib.hid (by rw [hVZ]; rfl)
  have HVZ := Lib.hid hVZ
  clear hVZ
  have HM := Lib.hid (fun W => measure_any s W hs)
  have hZ0 := bk_new w 35 #[.int .i64 0, .int .i64 0, .int .i64 0, .int .i64 0, .int .i64 0, .bool false, .bool false, .int .u8 0, .int .u8 0, .int .u8 0, .int .u8 0, .int .u8 0, .int .u8 0, .int .u8 0, .int .u8 0, .string ⟨#[]⟩, .string ⟨#[]⟩]
  have HZ0 := Lib.hid hZ0
  clear hZ0 hs
  generalize mcode s = c at HM hc
  generalize mhead s = x at HM
  generalize mall s = y at HM
  go_enter Try.func14, Try.ntmps14
  go_wp2_with fail
  refine (HM.out _).mono ?_
  rintro e w1 ⟨rfl, b1⟩
  have hK := HZ0.out.below b1 (by simp)
  have hB := ((Below.refl w.heap.size w).alloc (Nat.le_refl _) (.cells #[.int .i64 0, .int .i64 0, .int .i64 0, .int .i64 0, .int .i64 0, .bool false, .bool false, .int .u8 0, .int .u8 0, .int .u8 0, .int .u8 0, .int .u8 0, .int .u8 0, .int .u8 0, .int .u8 0, .string ⟨#[]⟩, .string ⟨#[]⟩] 35)).trans (b1.mono (by simp))
  have hK2 := hK.alloc (.cells #[.int .i64 c, .int .i64 0] 53)
  have ht : (w1.alloc (.cells #[.int .i64 c, .int .i64 0] 53)).there w.heap.size 0 VZ.toArray.size := by rw [HSz.out]; exact hK2.there 17 (Nat.le_refl _)
  have HK := Lib.hid hK2
  have HB := Lib.hid hB
  have HL := Lib.hid hK.lt
  clear hK hK2 hB b1 HZ0 HM
  go_wp2_with (first | (refine Great.wpList_readTo rfl _ rfl (.agg VZ.toArray) (HBD.out _ _ _ _ _ _) ?_) | (refine wpList_store_mid rfl 35 _ _ rfl w.heap.size 0 VZ.toArray rfl rfl ht HIz.out HOz.out ?_))
  clear ht
  have hK3 := Bk.sets VZ 0 _ _ (show Bk _ w.heap.size 35 pkt0.vals.toArray from HK.out)
  rw [HPz.out] at hK3
  have hK4 := hK3.range
  refine bodyPost_ret (v := .tuple #[.agg VZ.toArray, .iface 50 (.pointer (some ⟨w1.heap.size, 0, none⟩))]) ?_ rfl ?_
  · exact results_cell2 rfl rfl rfl (run_loadVar_mid _ w.heap.size 0 35 VZ _ hK4 Try.underlying35 rfl HIz.out)
  refine ⟨w1.heap.size, by rw [HVZ.out], ?_, ?_, ?_⟩
  · have hf := Flt.new w1 c 0
    exact (heap_sets _ (by have := HL.out; omega) 0 _).trans hf
  · exact HB.out.size
  · exact below_sets _ (Nat.le_refl _) 0 _ (HB.out.alloc HB.out.size _)
set_option maxRecDepth 100000 in
set_option maxHeartbeats 400000 in
theorem parse_odd (s : ByteArray) (w : World) (hs : s.size ≤ 70000) (hc : mcode s = 0) (hf : freeB (s.extract 0 (num2 s 2)) = false) :
    Calls Try.prog 14 #[.string s] w (Bad (.agg pkt0.vals.toArray) 8 w) := by
  obtain ⟨g1, _, g3, g4, _, g6, g7⟩ := mcode_ok hc
  have hm : ∀ W, Calls Try.prog 18 #[.string s] W fun e w' => e = .returned (.tuple #[.int .i64 (hdN s : Nat), .int .i64 (num2 s 2 : Nat), .int .i64 0]) ∧ Below W.heap.size W w' := by
    intro W
    have := measure_any s W hs
    rw [show mhead s = hdN s from if_pos hc, show mall s = num2 s 2 from if_pos hc, hc] at this
    exact this
  have HM := Lib.hid hm
  have hz : (s.extract 0 (num2 s 2)).size = num2 s 2 := by simp; omega
  have hRd := fun W => read_any (s.extract 0 (num2 s 2)) (hdN s) W (by omega) g3 (by omega)
  have hdz : (ppkt s).data.size ≤ 70000 := by
    show ((s.extract 0 (num2 s 2)).extract (hdN s) (s.extract 0 (num2 s 2)).size).size ≤ 70000
    simp
    omega
  rw [hf] at hRd
  clear hf
  obtain ⟨VZ, hVZ⟩ : ∃ VZ, VZ = pkt0.vals := ⟨_, rfl⟩
  have HBD : Hid (∀ (ρ : Operand → Value) (d : Option Tmp) (ty : TypeId) (ps : String) (af : Array Edge) (W : World), (execOp ρ { dst := d, op := .build 35 #[], type := ty, pos := ps, after := af, guard := none }).run Try.prog W = .ok (.value (.agg VZ.toArray)) W) := Lib.hid (fun ρ d ty ps af W => by rw [hVZ]; exact Try.execZ ρ d ty ps af W)
  have HIz : Hid ((Try.prog.info? 35).map (·.size) = some VZ.length) := Lib.hid (by rw [hVZ]; exact Try.infoIp pkt0)
  have HOz : Hid (VZ.toArray.all (·.oneCell') = true) := Lib.hid (by rw [hVZ]; exact vals_one pkt0)
  have HPz : Hid (∀ p : Pkt, puts p.vals.toArray 0 VZ = VZ.toArray) := Lib.hid (fun p => by rw [hVZ]; exact puts_all p pkt0)
  have HSz : Hid (VZ.toArray.size = 17) := Lib.hid (by rw [hVZ]; rfl)
  have HVZ := Lib.hid hVZ
  clear hVZ
  have hZ0 := bk_new w 35 #[.int .i64 0, .int .i64 0, .int .i64 0, .int .i64 0, .int .i64 0, .bool false, .bool false, .int .u8 0, .int .u8 0, .int .u8 0, .int .u8 0, .int .u8 0, .int .u8 0, .int .u8 0, .int .u8 0, .string ⟨#[]⟩, .string ⟨#[]⟩]
  have HZ0 := Lib.hid hZ0
  obtain ⟨VL, hVL⟩ : ∃ VL, VL = (ppkt s).vals := ⟨_, rfl⟩
  have HIv : Hid ((Try.prog.info? 35).map (·.size) = some VL.length) := Lib.hid (by rw [hVL]; exact Try.infoIp (ppkt s))
  have HOv : Hid (VL.toArray.all (·.oneCell') = true) := Lib.hid (by rw [hVL]; exact vals_one (ppkt s))
  have HPv : Hid (∀ p : Pkt, puts p.vals.toArray 0 VL = VL.toArray) := Lib.hid (fun p => by rw [hVL]; exact puts_all p (ppkt s))
  have HSv : Hid (VL.toArray.size = 17) := Lib.hid (by rw [hVL]; rfl)
  have HRf : Hid (∀ W, Calls Try.prog 20 #[.agg VL.toArray] W fun e w' => e = .returned (.int .i64 (ppkt s).why) ∧ Below W.heap.size W w') := Lib.hid (fun W => by rw [hVL]; exact refusal_any (ppkt s) W hdz)
  rw [show (rdP (s.extract 0 (num2 s 2)) (hdN s)).vals = VL from hVL.symm] at hRd
  have HRd := Lib.hid hRd
  have HVL := Lib.hid hVL
  clear hVL hZ0 hm hz hc g1 g3 hRd hdz hs g4 g6
  generalize (ppkt s).why = cw at *
  generalize num2 s 2 = m at *
  generalize hdN s = n at *
  go_enter Try.func14, Try.ntmps14
  go_wp2_with fail
  refine (HM.out _).mono ?_
  rintro e w1 ⟨rfl, b1⟩
  have HK := Lib.hid (HZ0.out.below b1 (by simp))
  have HB := Lib.hid (((Below.refl w.heap.size w).alloc (Nat.le_refl _) (.cells #[.int .i64 0, .int .i64 0, .int .i64 0, .int .i64 0, .int .i64 0, .bool false, .bool false, .int .u8 0, .int .u8 0, .int .u8 0, .int .u8 0, .int .u8 0, .int .u8 0, .int .u8 0, .int .u8 0, .string ⟨#[]⟩, .string ⟨#[]⟩] 35)).trans (b1.mono (by simp)))
  clear b1 HZ0 HM
  go_wp2_with fail
  generalize s.extract 0 m = t at *
  refine (HRd.out _).mono ?_
  rintro e w2 ⟨rfl, b2⟩
  have HK2 := Lib.hid (HK.out.below b2 HK.out.lt)
  have HB2 := Lib.hid (HB.out.trans (b2.mono HB.out.size))
  have HLt := Lib.hid (Nat.lt_of_lt_of_le HK.out.lt b2.size)
  clear b2 HK HB HRd
  have ht7 : (w2.alloc (.cells #[.int .i64 0, .int .i64 0, .int .i64 0, .int .i64 0, .int .i64 0, .bool false, .bool false, .int .u8 0, .int .u8 0, .int .u8 0, .int .u8 0, .int .u8 0, .int .u8 0, .int .u8 0, .int .u8 0, .string ⟨#[]⟩, .string ⟨#[]⟩] 35)).there w2.heap.size 0 VL.toArray.size := by rw [HSv.out]; exact (bk_new w2 35 #[.int .i64 0, .int .i64 0, .int .i64 0, .int .i64 0, .int .i64 0, .bool false, .bool false, .int .u8 0, .int .u8 0, .int .u8 0, .int .u8 0, .int .u8 0, .int .u8 0, .int .u8 0, .int .u8 0, .string ⟨#[]⟩, .string ⟨#[]⟩]).there 17 (Nat.le_refl _)
  go_upto_region 5 with (refine wpList_store_mid rfl 35 _ _ rfl w2.heap.size 0 VL.toArray rfl rfl ht7 HIv.out HOv.out ?_)
  have hK7 := Bk.sets VL 0 _ _ (show Bk _ w2.heap.size 35 pkt0.vals.toArray from bk_new w2 35 #[.int .i64 0, .int .i64 0, .int .i64 0, .int .i64 0, .int .i64 0, .bool false, .bool false, .int .u8 0, .int .u8 0, .int .u8 0, .int .u8 0, .int .u8 0, .int .u8 0, .int .u8 0, .int .u8 0, .string ⟨#[]⟩, .string ⟨#[]⟩])
  rw [HPv.out] at hK7
  have hK3 := (HK2.out.alloc (.cells #[.int .i64 0, .int .i64 0, .int .i64 0, .int .i64 0, .int .i64 0, .bool false, .bool false, .int .u8 0, .int .u8 0, .int .u8 0, .int .u8 0, .int .u8 0, .int .u8 0, .int .u8 0, .int .u8 0, .string ⟨#[]⟩, .string ⟨#[]⟩] 35)).sets_other (b := w2.heap.size) (by have := HLt.out; omega) 0 VL
  have hB3 := below_sets (b := w2.heap.size) VL HB2.out.size 0 _ (HB2.out.alloc HB2.out.size (.cells #[.int .i64 0, .int .i64 0, .int .i64 0, .int .i64 0, .int .i64 0, .bool false, .bool false, .int .u8 0, .int .u8 0, .int .u8 0, .int .u8 0, .int .u8 0, .int .u8 0, .int .u8 0, .int .u8 0, .string ⟨#[]⟩, .string ⟨#[]⟩] 35))
  have HK7 := Lib.hid hK7
  have HK3 := Lib.hid hK3
  have HB3 := Lib.hid hB3
  clear hK7 hK3 hB3 ht7 HK2 HB2
  generalize (w2.alloc (.cells #[.int .i64 0, .int .i64 0, .int .i64 0, .int .i64 0, .int .i64 0, .bool false, .bool false, .int .u8 0, .int .u8 0, .int .u8 0, .int .u8 0, .int .u8 0, .int .u8 0, .int .u8 0, .int .u8 0, .string ⟨#[]⟩, .string ⟨#[]⟩] 35)).setCells w2.heap.size 0 VL = w3 at *
  have hK4 := HK3.out.alloc (.cells #[.int .i64 8, .int .i64 0] 53)
  have ht : (w3.alloc (.cells #[.int .i64 8, .int .i64 0] 53)).there w.heap.size 0 VZ.toArray.size := by rw [HSz.out]; exact hK4.there 17 (Nat.le_refl _)
  have HL3 := Lib.hid HK3.out.lt
  have HK4 := Lib.hid hK4
  clear hK4
  go_wp2_with (first | (refine Great.wpList_readTo rfl _ rfl (.agg VZ.toArray) (HBD.out _ _ _ _ _ _) ?_) | (refine wpList_store_mid rfl 35 _ _ rfl w.heap.size 0 VZ.toArray rfl rfl ht HIz.out HOz.out ?_))
  clear ht
  have hK5 := Bk.sets VZ 0 _ _ (show Bk _ w.heap.size 35 pkt0.vals.toArray from HK4.out)
  rw [HPz.out] at hK5
  have hK6 := hK5.range
  refine bodyPost_ret (v := .tuple #[.agg VZ.toArray, .iface 50 (.pointer (some ⟨w3.heap.size, 0, none⟩))]) ?_ rfl ?_
  · exact results_cell2 rfl rfl rfl (run_loadVar_mid _ w.heap.size 0 35 VZ _ hK6 Try.underlying35 rfl HIz.out)
  refine ⟨w3.heap.size, by rw [HVZ.out], ?_, ?_, ?_⟩
  · have hf := Flt.new w3 8 0
    exact (heap_sets _ (by have := HL3.out; omega) 0 _).trans hf
  · exact HB3.out.size
  · exact below_sets _ (Nat.le_refl _) 0 _ (HB3.out.alloc HB3.out.size _)
set_option maxRecDepth 100000 in
set_option maxHeartbeats 400000 in
theorem parse_why (s : ByteArray) (w : World) (hs : s.size ≤ 70000) (hc : mcode s = 0) (hf : freeB (s.extract 0 (num2 s 2)) = true) (hy : ((ppkt s).why != 0) = true) :
    Calls Try.prog 14 #[.string s] w (Bad (.agg pkt0.vals.toArray) 8 w) := by
  obtain ⟨g1, _, g3, g4, _, g6, g7⟩ := mcode_ok hc
  have hm : ∀ W, Calls Try.prog 18 #[.string s] W fun e w' => e = .returned (.tuple #[.int .i64 (hdN s : Nat), .int .i64 (num2 s 2 : Nat), .int .i64 0]) ∧ Below W.heap.size W w' := by
    intro W
    have := measure_any s W hs
    rw [show mhead s = hdN s from if_pos hc, show mall s = num2 s 2 from if_pos hc, hc] at this
    exact this
  have HM := Lib.hid hm
  have hz : (s.extract 0 (num2 s 2)).size = num2 s 2 := by simp; omega
  have hRd := fun W => read_any (s.extract 0 (num2 s 2)) (hdN s) W (by omega) g3 (by omega)
  have hdz : (ppkt s).data.size ≤ 70000 := by
    show ((s.extract 0 (num2 s 2)).extract (hdN s) (s.extract 0 (num2 s 2)).size).size ≤ 70000
    simp
    omega
  rw [hf] at hRd
  clear hf
  obtain ⟨VZ, hVZ⟩ : ∃ VZ, VZ = pkt0.vals := ⟨_, rfl⟩
  have HBD : Hid (∀ (ρ : Operand → Value) (d : Option Tmp) (ty : TypeId) (ps : String) (af : Array Edge) (W : World), (execOp ρ { dst := d, op := .build 35 #[], type := ty, pos := ps, after := af, guard := none }).run Try.prog W = .ok (.value (.agg VZ.toArray)) W) := Lib.hid (fun ρ d ty ps af W => by rw [hVZ]; exact Try.execZ ρ d ty ps af W)
  have HIz : Hid ((Try.prog.info? 35).map (·.size) = some VZ.length) := Lib.hid (by rw [hVZ]; exact Try.infoIp pkt0)
  have HOz : Hid (VZ.toArray.all (·.oneCell') = true) := Lib.hid (by rw [hVZ]; exact vals_one pkt0)
  have HPz : Hid (∀ p : Pkt, puts p.vals.toArray 0 VZ = VZ.toArray) := Lib.hid (fun p => by rw [hVZ]; exact puts_all p pkt0)
  have HSz : Hid (VZ.toArray.size = 17) := Lib.hid (by rw [hVZ]; rfl)
  have HVZ := Lib.hid hVZ
  clear hVZ
  have hZ0 := bk_new w 35 #[.int .i64 0, .int .i64 0, .int .i64 0, .int .i64 0, .int .i64 0, .bool false, .bool false, .int .u8 0, .int .u8 0, .int .u8 0, .int .u8 0, .int .u8 0, .int .u8 0, .int .u8 0, .int .u8 0, .string ⟨#[]⟩, .string ⟨#[]⟩]
  have HZ0 := Lib.hid hZ0
  obtain ⟨VL, hVL⟩ : ∃ VL, VL = (ppkt s).vals := ⟨_, rfl⟩
  have HIv : Hid ((Try.prog.info? 35).map (·.size) = some VL.length) := Lib.hid (by rw [hVL]; exact Try.infoIp (ppkt s))
  have HOv : Hid (VL.toArray.all (·.oneCell') = true) := Lib.hid (by rw [hVL]; exact vals_one (ppkt s))
  have HPv : Hid (∀ p : Pkt, puts p.vals.toArray 0 VL = VL.toArray) := Lib.hid (fun p => by rw [hVL]; exact puts_all p (ppkt s))
  have HSv : Hid (VL.toArray.size = 17) := Lib.hid (by rw [hVL]; rfl)
  have HRf : Hid (∀ W, Calls Try.prog 20 #[.agg VL.toArray] W fun e w' => e = .returned (.int .i64 (ppkt s).why) ∧ Below W.heap.size W w') := Lib.hid (fun W => by rw [hVL]; exact refusal_any (ppkt s) W hdz)
  rw [show (rdP (s.extract 0 (num2 s 2)) (hdN s)).vals = VL from hVL.symm] at hRd
  have HRd := Lib.hid hRd
  have HVL := Lib.hid hVL
  clear hVL hZ0 hm hz hc g1 g3 hRd hdz hs g4 g6
  generalize (ppkt s).why = cw at *
  generalize num2 s 2 = m at *
  generalize hdN s = n at *
  go_enter Try.func14, Try.ntmps14
  go_wp2_with fail
  refine (HM.out _).mono ?_
  rintro e w1 ⟨rfl, b1⟩
  have HK := Lib.hid (HZ0.out.below b1 (by simp))
  have HB := Lib.hid (((Below.refl w.heap.size w).alloc (Nat.le_refl _) (.cells #[.int .i64 0, .int .i64 0, .int .i64 0, .int .i64 0, .int .i64 0, .bool false, .bool false, .int .u8 0, .int .u8 0, .int .u8 0, .int .u8 0, .int .u8 0, .int .u8 0, .int .u8 0, .int .u8 0, .string ⟨#[]⟩, .string ⟨#[]⟩] 35)).trans (b1.mono (by simp)))
  clear b1 HZ0 HM
  go_wp2_with fail
  generalize s.extract 0 m = t at *
  refine (HRd.out _).mono ?_
  rintro e w2 ⟨rfl, b2⟩
  have HK2 := Lib.hid (HK.out.below b2 HK.out.lt)
  have HB2 := Lib.hid (HB.out.trans (b2.mono HB.out.size))
  have HLt := Lib.hid (Nat.lt_of_lt_of_le HK.out.lt b2.size)
  clear b2 HK HB HRd
  have ht7 : (w2.alloc (.cells #[.int .i64 0, .int .i64 0, .int .i64 0, .int .i64 0, .int .i64 0, .bool false, .bool false, .int .u8 0, .int .u8 0, .int .u8 0, .int .u8 0, .int .u8 0, .int .u8 0, .int .u8 0, .int .u8 0, .string ⟨#[]⟩, .string ⟨#[]⟩] 35)).there w2.heap.size 0 VL.toArray.size := by rw [HSv.out]; exact (bk_new w2 35 #[.int .i64 0, .int .i64 0, .int .i64 0, .int .i64 0, .int .i64 0, .bool false, .bool false, .int .u8 0, .int .u8 0, .int .u8 0, .int .u8 0, .int .u8 0, .int .u8 0, .int .u8 0, .int .u8 0, .string ⟨#[]⟩, .string ⟨#[]⟩]).there 17 (Nat.le_refl _)
  go_upto_region 5 with (refine wpList_store_mid rfl 35 _ _ rfl w2.heap.size 0 VL.toArray rfl rfl ht7 HIv.out HOv.out ?_)
  have hK7 := Bk.sets VL 0 _ _ (show Bk _ w2.heap.size 35 pkt0.vals.toArray from bk_new w2 35 #[.int .i64 0, .int .i64 0, .int .i64 0, .int .i64 0, .int .i64 0, .bool false, .bool false, .int .u8 0, .int .u8 0, .int .u8 0, .int .u8 0, .int .u8 0, .int .u8 0, .int .u8 0, .int .u8 0, .string ⟨#[]⟩, .string ⟨#[]⟩])
  rw [HPv.out] at hK7
  have hK3 := (HK2.out.alloc (.cells #[.int .i64 0, .int .i64 0, .int .i64 0, .int .i64 0, .int .i64 0, .bool false, .bool false, .int .u8 0, .int .u8 0, .int .u8 0, .int .u8 0, .int .u8 0, .int .u8 0, .int .u8 0, .int .u8 0, .string ⟨#[]⟩, .string ⟨#[]⟩] 35)).sets_other (b := w2.heap.size) (by have := HLt.out; omega) 0 VL
  have hB3 := below_sets (b := w2.heap.size) VL HB2.out.size 0 _ (HB2.out.alloc HB2.out.size (.cells #[.int .i64 0, .int .i64 0, .int .i64 0, .int .i64 0, .int .i64 0, .bool false, .bool false, .int .u8 0, .int .u8 0, .int .u8 0, .int .u8 0, .int .u8 0, .int .u8 0, .int .u8 0, .int .u8 0, .string ⟨#[]⟩, .string ⟨#[]⟩] 35))
  have HK7 := Lib.hid hK7
  have HK3 := Lib.hid hK3
  have HB3 := Lib.hid hB3
  clear hK7 hK3 hB3 ht7 HK2 HB2
  generalize (w2.alloc (.cells #[.int .i64 0, .int .i64 0, .int .i64 0, .int .i64 0, .int .i64 0, .bool false, .bool false, .int .u8 0, .int .u8 0, .int .u8 0, .int .u8 0, .int .u8 0, .int .u8 0, .int .u8 0, .int .u8 0, .string ⟨#[]⟩, .string ⟨#[]⟩] 35)).setCells w2.heap.size 0 VL = w3 at *
  have hr7 : w3.rangeAt w2.heap.size 0 VL := HK7.out.range
  go_wp2_with (refine wpList_load_if (by rfl) 35 _ rfl w2.heap.size 0 rfl VL _ hr7 Try.underlying35 rfl HIv.out ?_)
  refine (HRf.out _).mono ?_
  rintro e w4 ⟨rfl, b4⟩
  have HK8 := Lib.hid (HK7.out.below b4 HK7.out.lt)
  have HK4' := Lib.hid (HK3.out.below b4 HK3.out.lt)
  have HB4 := Lib.hid (HB3.out.trans (b4.mono HB3.out.size))
  clear b4 HK7 HK3 HB3 hr7
  have hK4 := HK4'.out.alloc (.cells #[.int .i64 8, .int .i64 0] 53)
  have ht : (w4.alloc (.cells #[.int .i64 8, .int .i64 0] 53)).there w.heap.size 0 VZ.toArray.size := by rw [HSz.out]; exact hK4.there 17 (Nat.le_refl _)
  have HL3 := Lib.hid HK4'.out.lt
  have HKx := Lib.hid hK4
  clear hK4
  go_wp2_with (first | (refine Great.wpList_readTo rfl _ rfl (.agg VZ.toArray) (HBD.out _ _ _ _ _ _) ?_) | (refine wpList_store_mid rfl 35 _ _ rfl w.heap.size 0 VZ.toArray rfl rfl ht HIz.out HOz.out ?_))
  clear ht
  have hK5 := Bk.sets VZ 0 _ _ (show Bk _ w.heap.size 35 pkt0.vals.toArray from HKx.out)
  rw [HPz.out] at hK5
  have hK6 := hK5.range
  refine bodyPost_ret (v := .tuple #[.agg VZ.toArray, .iface 50 (.pointer (some ⟨w4.heap.size, 0, none⟩))]) ?_ rfl ?_
  · exact results_cell2 rfl rfl rfl (run_loadVar_mid _ w.heap.size 0 35 VZ _ hK6 Try.underlying35 rfl HIz.out)
  refine ⟨w4.heap.size, by rw [HVZ.out], ?_, ?_, ?_⟩
  · have hf := Flt.new w4 8 0
    exact (heap_sets _ (by have := HL3.out; omega) 0 _).trans hf
  · exact HB4.out.size
  · exact below_sets _ (Nat.le_refl _) 0 _ (HB4.out.alloc HB4.out.size _)
set_option maxRecDepth 100000 in
set_option maxHeartbeats 400000 in
theorem parse_packet (s : ByteArray) (w : World) (hs : s.size ≤ 70000) (hc : mcode s = 0) (hf : freeB (s.extract 0 (num2 s 2)) = true) (hy : (ppkt s).why = 0) :
    Calls Try.prog 14 #[.string s] w fun e w' => e = .returned (.tuple #[.agg (ppkt s).vals.toArray, .nilIface]) ∧ Below w.heap.size w w' := by
  obtain ⟨g1, _, g3, g4, _, g6, g7⟩ := mcode_ok hc
  have hm : ∀ W, Calls Try.prog 18 #[.string s] W fun e w' => e = .returned (.tuple #[.int .i64 (hdN s : Nat), .int .i64 (num2 s 2 : Nat), .int .i64 0]) ∧ Below W.heap.size W w' := by
    intro W
    have := measure_any s W hs
    rw [show mhead s = hdN s from if_pos hc, show mall s = num2 s 2 from if_pos hc, hc] at this
    exact this
  have HM := Lib.hid hm
  have hz : (s.extract 0 (num2 s 2)).size = num2 s 2 := by simp; omega
  have hRd := fun W => read_any (s.extract 0 (num2 s 2)) (hdN s) W (by omega) g3 (by omega)
  have hdz : (ppkt s).data.size ≤ 70000 := by
    show ((s.extract 0 (num2 s 2)).extract (hdN s) (s.extract 0 (num2 s 2)).size).size ≤ 70000
    simp
    omega
  rw [hf] at hRd
  clear hf
  obtain ⟨VZ, hVZ⟩ : ∃ VZ, VZ = pkt0.vals := ⟨_, rfl⟩
  have HBD : Hid (∀ (ρ : Operand → Value) (d : Option Tmp) (ty : TypeId) (ps : String) (af : Array Edge) (W : World), (execOp ρ { dst := d, op := .build 35 #[], type := ty, pos := ps, after := af, guard := none }).run Try.prog W = .ok (.value (.agg VZ.toArray)) W) := Lib.hid (fun ρ d ty ps af W => by rw [hVZ]; exact Try.execZ ρ d ty ps af W)
  have HIz : Hid ((Try.prog.info? 35).map (·.size) = some VZ.length) := Lib.hid (by rw [hVZ]; exact Try.infoIp pkt0)
  have HOz : Hid (VZ.toArray.all (·.oneCell') = true) := Lib.hid (by rw [hVZ]; exact vals_one pkt0)
  have HPz : Hid (∀ p : Pkt, puts p.vals.toArray 0 VZ = VZ.toArray) := Lib.hid (fun p => by rw [hVZ]; exact puts_all p pkt0)
  have HSz : Hid (VZ.toArray.size = 17) := Lib.hid (by rw [hVZ]; rfl)
  have HVZ := Lib.hid hVZ
  clear hVZ
  have hZ0 := bk_new w 35 #[.int .i64 0, .int .i64 0, .int .i64 0, .int .i64 0, .int .i64 0, .bool false, .bool false, .int .u8 0, .int .u8 0, .int .u8 0, .int .u8 0, .int .u8 0, .int .u8 0, .int .u8 0, .int .u8 0, .string ⟨#[]⟩, .string ⟨#[]⟩]
  have HZ0 := Lib.hid hZ0
  obtain ⟨VL, hVL⟩ : ∃ VL, VL = (ppkt s).vals := ⟨_, rfl⟩
  have HIv : Hid ((Try.prog.info? 35).map (·.size) = some VL.length) := Lib.hid (by rw [hVL]; exact Try.infoIp (ppkt s))
  have HOv : Hid (VL.toArray.all (·.oneCell') = true) := Lib.hid (by rw [hVL]; exact vals_one (ppkt s))
  have HPv : Hid (∀ p : Pkt, puts p.vals.toArray 0 VL = VL.toArray) := Lib.hid (fun p => by rw [hVL]; exact puts_all p (ppkt s))
  have HSv : Hid (VL.toArray.size = 17) := Lib.hid (by rw [hVL]; rfl)
  have HRf : Hid (∀ W, Calls Try.prog 20 #[.agg VL.toArray] W fun e w' => e = .returned (.int .i64 (ppkt s).why) ∧ Below W.heap.size W w') := Lib.hid (fun W => by rw [hVL]; exact refusal_any (ppkt s) W hdz)
  rw [show (rdP (s.extract 0 (num2 s 2)) (hdN s)).vals = VL from hVL.symm] at hRd
  have HRd := Lib.hid hRd
  have HVL := Lib.hid hVL
  clear hVL hZ0 hm hz hc g1 g3 hRd hdz hs g4 g6
  rw [hy] at HRf
  clear hy
  generalize num2 s 2 = m at *
  generalize hdN s = n at *
  go_enter Try.func14, Try.ntmps14
  go_wp2_with fail
  refine (HM.out _).mono ?_
  rintro e w1 ⟨rfl, b1⟩
  have HK := Lib.hid (HZ0.out.below b1 (by simp))
  have HB := Lib.hid (((Below.refl w.heap.size w).alloc (Nat.le_refl _) (.cells #[.int .i64 0, .int .i64 0, .int .i64 0, .int .i64 0, .int .i64 0, .bool false, .bool false, .int .u8 0, .int .u8 0, .int .u8 0, .int .u8 0, .int .u8 0, .int .u8 0, .int .u8 0, .int .u8 0, .string ⟨#[]⟩, .string ⟨#[]⟩] 35)).trans (b1.mono (by simp)))
  clear b1 HZ0 HM
  go_wp2_with fail
  generalize s.extract 0 m = t at *
  refine (HRd.out _).mono ?_
  rintro e w2 ⟨rfl, b2⟩
  have HK2 := Lib.hid (HK.out.below b2 HK.out.lt)
  have HB2 := Lib.hid (HB.out.trans (b2.mono HB.out.size))
  have HLt := Lib.hid (Nat.lt_of_lt_of_le HK.out.lt b2.size)
  clear b2 HK HB HRd
  have ht7 : (w2.alloc (.cells #[.int .i64 0, .int .i64 0, .int .i64 0, .int .i64 0, .int .i64 0, .bool false, .bool false, .int .u8 0, .int .u8 0, .int .u8 0, .int .u8 0, .int .u8 0, .int .u8 0, .int .u8 0, .int .u8 0, .string ⟨#[]⟩, .string ⟨#[]⟩] 35)).there w2.heap.size 0 VL.toArray.size := by rw [HSv.out]; exact (bk_new w2 35 #[.int .i64 0, .int .i64 0, .int .i64 0, .int .i64 0, .int .i64 0, .bool false, .bool false, .int .u8 0, .int .u8 0, .int .u8 0, .int .u8 0, .int .u8 0, .int .u8 0, .int .u8 0, .int .u8 0, .string ⟨#[]⟩, .string ⟨#[]⟩]).there 17 (Nat.le_refl _)
  go_upto_region 5 with (refine wpList_store_mid rfl 35 _ _ rfl w2.heap.size 0 VL.toArray rfl rfl ht7 HIv.out HOv.out ?_)
  have hK7 := Bk.sets VL 0 _ _ (show Bk _ w2.heap.size 35 pkt0.vals.toArray from bk_new w2 35 #[.int .i64 0, .int .i64 0, .int .i64 0, .int .i64 0, .int .i64 0, .bool false, .bool false, .int .u8 0, .int .u8 0, .int .u8 0, .int .u8 0, .int .u8 0, .int .u8 0, .int .u8 0, .int .u8 0, .string ⟨#[]⟩, .string ⟨#[]⟩])
  rw [HPv.out] at hK7
  have hK3 := (HK2.out.alloc (.cells #[.int .i64 0, .int .i64 0, .int .i64 0, .int .i64 0, .int .i64 0, .bool false, .bool false, .int .u8 0, .int .u8 0, .int .u8 0, .int .u8 0, .int .u8 0, .int .u8 0, .int .u8 0, .int .u8 0, .string ⟨#[]⟩, .string ⟨#[]⟩] 35)).sets_other (b := w2.heap.size) (by have := HLt.out; omega) 0 VL
  have hB3 := below_sets (b := w2.heap.size) VL HB2.out.size 0 _ (HB2.out.alloc HB2.out.size (.cells #[.int .i64 0, .int .i64 0, .int .i64 0, .int .i64 0, .int .i64 0, .bool false, .bool false, .int .u8 0, .int .u8 0, .int .u8 0, .int .u8 0, .int .u8 0, .int .u8 0, .int .u8 0, .int .u8 0, .string ⟨#[]⟩, .string ⟨#[]⟩] 35))
  have HK7 := Lib.hid hK7
  have HK3 := Lib.hid hK3
  have HB3 := Lib.hid hB3
  clear hK7 hK3 hB3 ht7 HK2 HB2
  generalize (w2.alloc (.cells #[.int .i64 0, .int .i64 0, .int .i64 0, .int .i64 0, .int .i64 0, .bool false, .bool false, .int .u8 0, .int .u8 0, .int .u8 0, .int .u8 0, .int .u8 0, .int .u8 0, .int .u8 0, .int .u8 0, .string ⟨#[]⟩, .string ⟨#[]⟩] 35)).setCells w2.heap.size 0 VL = w3 at *
  have hr7 : w3.rangeAt w2.heap.size 0 VL := HK7.out.range
  go_wp2_with (refine wpList_load_if (by rfl) 35 _ rfl w2.heap.size 0 rfl VL _ hr7 Try.underlying35 rfl HIv.out ?_)
  refine (HRf.out _).mono ?_
  rintro e w4 ⟨rfl, b4⟩
  have HK8 := Lib.hid (HK7.out.below b4 HK7.out.lt)
  have HK4' := Lib.hid (HK3.out.below b4 HK3.out.lt)
  have HB4 := Lib.hid (HB3.out.trans (b4.mono HB3.out.size))
  clear b4 HK7 HK3 HB3 hr7
  have hr8 : w4.rangeAt w2.heap.size 0 VL := HK8.out.range
  have ht8 : w4.there w.heap.size 0 VL.toArray.size := by rw [HSv.out]; exact HK4'.out.there 17 (Nat.le_refl _)
  go_wp2_with (first | (refine wpList_load_mid rfl 35 _ rfl w2.heap.size 0 rfl VL _ hr8 Try.underlying35 rfl HIv.out ?_) | (refine wpList_store_mid rfl 35 _ _ rfl w.heap.size 0 VL.toArray rfl rfl ht8 HIv.out HOv.out ?_))
  clear hr8 ht8
  have hK5 := Bk.sets VL 0 _ _ (show Bk _ w.heap.size 35 pkt0.vals.toArray from HK4'.out)
  rw [HPv.out] at hK5
  have hK6 := hK5.range
  refine bodyPost_ret (v := .tuple #[.agg VL.toArray, .nilIface]) ?_ rfl ?_
  · exact results_cell2 rfl rfl rfl (run_loadVar_mid _ w.heap.size 0 35 VL _ hK6 Try.underlying35 rfl HIv.out)
  exact ⟨by rw [HVL.out], below_sets _ (Nat.le_refl _) 0 _ HB4.out⟩
theorem parse_bad (s : ByteArray) (w : World) (hs : s.size ≤ 70000) (h : pcode s ≠ 0) :
    Calls Try.prog 14 #[.string s] w (Bad (.agg pkt0.vals.toArray) (pcode s) w) := by
  unfold pcode at *
  by_cases hc : mcode s = 0
  · rw [if_pos hc] at *
    by_cases hq : freeB (s.extract 0 (num2 s 2)) = true ∧ (ppkt s).why = 0
    · rw [if_pos hq] at h; exact absurd rfl h
    · rw [if_neg hq]
      cases hf : freeB (s.extract 0 (num2 s 2))
      · exact parse_odd s w hs hc hf
      · exact parse_why s w hs hc hf (by rw [bne_iff_ne]; exact fun hy => hq ⟨hf, hy⟩)
  · rw [if_neg hc] at *
    exact parse_none s w hs (by rw [bne_iff_ne]; exact hc)
theorem parse_ok (s : ByteArray) (w : World) (hs : s.size ≤ 70000) (h : pcode s = 0) :
    Calls Try.prog 14 #[.string s] w fun e w' => e = .returned (.tuple #[.agg (ppkt s).vals.toArray, .nilIface]) ∧ Below w.heap.size w w' := by
  unfold pcode at *
  by_cases hc : mcode s = 0
  · rw [if_pos hc] at *
    by_cases hq : freeB (s.extract 0 (num2 s 2)) = true ∧ (ppkt s).why = 0
    · exact parse_packet s w hs hc hq.1 hq.2
    · rw [if_neg hq] at h; cases h
  · rw [if_neg hc] at *
    exact absurd h hc
end Go.Proofs.Ytdljjcnihajchaa.P4
