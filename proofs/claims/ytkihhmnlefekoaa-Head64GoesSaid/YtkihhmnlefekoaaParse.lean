/-
  Proved here: what ip6.Parse answers.
  Conditions: texts of at most 70000 bytes.
-/
import Derived.Test.YtkihhmnlefekoaaFragment
namespace Go.Proofs.Ytkihhmnlefekoaa
open Go.RowKit

theorem vtail_list (p : Pk6) (v : Value) (i : Nat) (x : Value) (q : Pk6) (u : Value) (hf : q.front = p.front) (ht : (p.tail v).set i x = q.tail u) : (p.vals v).set (35 + i) x = q.vals u := by
  rw [vals_front, vals_front, List.set_append_right _ _ (by rw [front_len]; omega), front_len, Nat.add_sub_cancel_left, ht, hf]
theorem vset_chain (p : Pk6) (u v : Value) (l : List (Int × ByteArray)) (n : Int) (r : ByteArray) : ({ p with exts := l, proto := n, data := r } : Pk6).vals v = (((p.vals u).set 35 v).set 40 (.int .i64 n)).set 41 (.string r) := by
  have h1 : (p.vals u).set 35 v = ({ p with exts := l } : Pk6).vals v := vtail_list p u 0 v _ v rfl rfl
  have h2 : (({ p with exts := l } : Pk6).vals v).set 40 (.int .i64 n) = ({ p with exts := l, proto := n } : Pk6).vals v := vtail_list _ v 5 _ _ v rfl rfl
  have h3 : (({ p with exts := l, proto := n } : Pk6).vals v).set 41 (.string r) = ({ p with exts := l, proto := n, data := r } : Pk6).vals v := vtail_list _ v 6 _ _ v rfl rfl
  rw [h1, h2, h3]
theorem own_below {w w' : World} {B C : Nat} {T : TypeId} {v : Value} {n : Nat} {l : List Value} (h : w.ownsRow B T 2 v n l) (hb : Below C w w') (hC : w.heap.size ≤ C) : w'.ownsRow B T 2 v n l := by
  obtain ⟨h0, h1 | ⟨g, cap, cur, e, hg, hh, h⟩⟩ := h
  · exact ⟨h0, .inl h1⟩
  · exact ⟨h0, .inr ⟨g, cap, cur, e, hg, (hb.block g (Nat.lt_of_lt_of_le (lt_of_block hh) hC)).trans hh, h⟩⟩
theorem own_sets {w : World} {B : Nat} {T : TypeId} {v : Value} {n : Nat} {l : List Value} {c : Nat} (h : w.ownsRow B T 2 v n l) (hc : c < B) (vs : List Value) (o : Nat) : (w.setCells c o vs).ownsRow B T 2 v n l := by
  obtain ⟨h0, h1 | ⟨g, cap, cur, e, hg, hh, h⟩⟩ := h
  · exact ⟨h0, .inl h1⟩
  · exact ⟨h0, .inr ⟨g, cap, cur, e, hg, (heap_sets vs (by omega) o w).trans hh, h⟩⟩
/-- The chain behind a text's head. -/
def prC (s : ByteArray) : Chn := chnE [] (byN s 6 : Nat) (s.extract 40 (40 + hdL s))
/-- The packet ahead of what a fragment's head says. -/
def prP (s : ByteArray) (h : 40 ≤ s.size) : Pk6 := { hdP s h with exts := (prC s).exts, proto := (prC s).proto, data := (prC s).rest }
/-- The code by which a text is refused, or 0. -/
def pcode (s : ByteArray) : Int :=
  if h : 40 ≤ s.size then
    if (hdW s : Int) / 268435456 ≠ 6 then 8
    else if s.size < 40 + hdL s then 7
    else if (prC s).code ≠ 0 then (prC s).code
    else if (prC s).proto ≠ 44 then 0
    else if (prC s).rest.size < 8 then 7
    else if (frP (prP s h)).piece = false ∨ (frP (prP s h)).rch = false then 8
    else 0
  else 7
/-- The packet with which a text begins. -/
def ppkt (s : ByteArray) : Pk6 := if h : 40 ≤ s.size then (if (prC s).proto = 44 then frP (prP s h) else prP s h) else pk0
/-- A call that answers a packet, whose extensions are its own. -/
def GoodP (p : Pk6) (w : World) (e : Ending) (w' : World) : Prop :=
  ∃ v, e = .returned (.tuple #[.agg (p.vals v).toArray, .nilIface]) ∧ w'.ownsRow w.heap.size 38 2 v p.exts.length (extV p.exts) ∧ Below w.heap.size w w'
theorem chn_rest : ∀ (f : Nat) (l : List (Int × ByteArray)) (n : Int) (t : ByteArray), (chn f l n t).rest.size ≤ t.size := by
  intro f
  induction f with
  | zero => intro l n t; exact Nat.zero_le _
  | succ f ih =>
    intro l n t
    unfold chn
    split
    · split
      · exact Nat.zero_le _
      · split
        · exact Nat.zero_le _
        · split
          · exact Nat.zero_le _
          · refine Nat.le_trans (ih _ _ _) ?_
            simp
    · exact Nat.le_refl _
theorem prC_rest (s : ByteArray) : (prC s).rest.size ≤ hdL s := by
  refine Nat.le_trans (chn_rest _ _ _ _) ?_
  simp
  omega
theorem own_one {w : World} {B : Nat} {v : Value} {n : Nat} {l : List Value} (h : w.ownsRow B 38 2 v n l) : v.oneCell' = true := by
  obtain ⟨_, ⟨rfl, _⟩ | ⟨g, cap, cur, rfl, _⟩⟩ := h <;> rfl
set_option maxRecDepth 100000 in
set_option maxHeartbeats 1000000 in
theorem parse_short (s : ByteArray) (w : World) (h40 : ¬ 40 ≤ s.size) :
    Calls Try.prog 19 #[.string s] w (Bad (.agg (pk0.vals (.slice none 0 0)).toArray) 7 w) := by
  have hlt : (s.size : Int) < 40 := by omega
  have hlt2 : s.size < 40 := by omega
  clear h40
  obtain ⟨Z, hZ⟩ : ∃ Z, Z = pk0.vals (.slice none 0 0) := ⟨_, rfl⟩
  have HEX : Hid (∀ (ρ : Operand → Value) (d : Option Tmp) (ty : TypeId) (ps : String) (af : Array Edge) (W : World), (execOp ρ { dst := d, op := .build 35 #[], type := ty, pos := ps, after := af, guard := none }).run Try.prog W = .ok (.value (.agg Z.toArray)) W) := Lib.hid (fun ρ d ty ps af W => by rw [hZ]; exact Try.execZ6 ρ d ty ps af W)
  have HIz : Hid ((Try.prog.info? 35).map (·.size) = some Z.length) := Lib.hid (by rw [hZ]; exact Try.info6 _ _)
  have HOz : Hid (Z.toArray.all (·.oneCell') = true) := Lib.hid (by rw [hZ]; exact vals_one _ _ rfl)
  have hz0 : Z.toArray = #[.int .i64 0, .int .i64 0, .int .i64 0, .int .u8 0, .int .u8 0, .int .u8 0, .int .u8 0, .int .u8 0, .int .u8 0, .int .u8 0, .int .u8 0, .int .u8 0, .int .u8 0, .int .u8 0, .int .u8 0, .int .u8 0, .int .u8 0, .int .u8 0, .int .u8 0, .int .u8 0, .int .u8 0, .int .u8 0, .int .u8 0, .int .u8 0, .int .u8 0, .int .u8 0, .int .u8 0, .int .u8 0, .int .u8 0, .int .u8 0, .int .u8 0, .int .u8 0, .int .u8 0, .int .u8 0, .int .u8 0, .slice none 0 0, .bool false, .int .u32 0, .int .i64 0, .bool false, .int .i64 0, .string ⟨#[]⟩] := by rw [hZ]; exact pk0_vals
  have HZ := Lib.hid hZ
  have HZ0 := Lib.hid hz0
  clear hZ
  have HK := Lib.hid ((Kp.start w).new 35 Z)
  generalize hw1 : w.alloc (.cells Z.toArray 35) = w1 at *
  rw [hz0] at hw1
  go_enter Try.func19, Try.ntmps19
  go_upto_region 1 with (fail)
  clear hw1 hz0
  go_wp2_with (refine Great.wpList_readTo rfl _ rfl (.agg Z.toArray) (HEX.out _ _ _ _ _ _) ?_)
  have HC := Lib.hid HK.out.hd
  have HB := Lib.hid HK.out.2.1
  refine (fault_any _ _).mono ?_
  rintro e w20 ⟨rfl, rfl⟩
  have hkc : Bk (w1.alloc (.cells #[.int .i64 7, .int .i64 0] 78)) w.heap.size 35 Z.toArray := HC.out.alloc _
  have htf := hkc.there _ (Nat.le_refl _)
  go_wp2_with (refine wpList_store_mid rfl 35 _ _ rfl w.heap.size 0 Z.toArray rfl rfl htf HIz.out HOz.out ?_)
  have hk5 := Bk.sets Z 0 _ _ hkc
  rw [puts_whole Z.toArray Z (by simp)] at hk5
  have hlc := HC.out.lt
  refine bodyPost_ret (v := .tuple #[.agg Z.toArray, .iface 75 (.pointer (some ⟨w1.heap.size, 0, none⟩))]) ?_ rfl ?_
  · exact results_cell2 rfl rfl rfl (run_loadVar_mid _ w.heap.size 0 35 Z _ hk5.range Try.underlying35 rfl HIz.out)
  · refine ⟨_, by rw [HZ.out], ?_, HB.out.size, below_sets _ (Nat.le_refl _) 0 _ (HB.out.alloc HB.out.size _)⟩
    exact (heap_sets Z (by omega) 0 _).trans (Flt.new _ 7 0)
set_option maxRecDepth 100000 in
set_option maxHeartbeats 1000000 in
theorem parse_first (s : ByteArray) (w : World) (hs : s.size ≤ 70000) (h40 : 40 ≤ s.size) (h6 : (hdW s : Int) / 268435456 ≠ 6) :
    Calls Try.prog 19 #[.string s] w (Bad (.agg (pk0.vals (.slice none 0 0)).toArray) 8 w) := by
  obtain ⟨VH, hVH⟩ : ∃ VH, VH = (hdP s h40).vals (.slice none 0 0) := ⟨_, rfl⟩
  have hge : ¬ (s.size : Int) < 40 := by omega
  have HH : Hid (∀ W, Calls Try.prog 36 #[.string s] W fun e w' => e = .returned (.tuple #[.agg VH.toArray, .int .i64 ((hdW s : Int) / 268435456), .int .i64 (hdL s : Nat), .int .i64 (byN s 6 : Nat)]) ∧ Below W.heap.size W w') := Lib.hid (fun W => by rw [hVH]; exact readHead_any s W hs h40)
  have HIh : Hid ((Try.prog.info? 35).map (·.size) = some VH.length) := Lib.hid (by rw [hVH]; exact Try.info6 _ _)
  have HOh : Hid (VH.toArray.all (·.oneCell') = true) := Lib.hid (by rw [hVH]; exact vals_one _ _ rfl)
  have k6 : ((hdW s : Int) / 268435456 != 6) = true := by rw [bne_iff_ne]; exact h6
  have HVHH := Lib.hid hVH
  clear hVH h6
  obtain ⟨Z, hZ⟩ : ∃ Z, Z = pk0.vals (.slice none 0 0) := ⟨_, rfl⟩
  have HEX : Hid (∀ (ρ : Operand → Value) (d : Option Tmp) (ty : TypeId) (ps : String) (af : Array Edge) (W : World), (execOp ρ { dst := d, op := .build 35 #[], type := ty, pos := ps, after := af, guard := none }).run Try.prog W = .ok (.value (.agg Z.toArray)) W) := Lib.hid (fun ρ d ty ps af W => by rw [hZ]; exact Try.execZ6 ρ d ty ps af W)
  have HIz : Hid ((Try.prog.info? 35).map (·.size) = some Z.length) := Lib.hid (by rw [hZ]; exact Try.info6 _ _)
  have HOz : Hid (Z.toArray.all (·.oneCell') = true) := Lib.hid (by rw [hZ]; exact vals_one _ _ rfl)
  have hz0 : Z.toArray = #[.int .i64 0, .int .i64 0, .int .i64 0, .int .u8 0, .int .u8 0, .int .u8 0, .int .u8 0, .int .u8 0, .int .u8 0, .int .u8 0, .int .u8 0, .int .u8 0, .int .u8 0, .int .u8 0, .int .u8 0, .int .u8 0, .int .u8 0, .int .u8 0, .int .u8 0, .int .u8 0, .int .u8 0, .int .u8 0, .int .u8 0, .int .u8 0, .int .u8 0, .int .u8 0, .int .u8 0, .int .u8 0, .int .u8 0, .int .u8 0, .int .u8 0, .int .u8 0, .int .u8 0, .int .u8 0, .int .u8 0, .slice none 0 0, .bool false, .int .u32 0, .int .i64 0, .bool false, .int .i64 0, .string ⟨#[]⟩] := by rw [hZ]; exact pk0_vals
  have HZ := Lib.hid hZ
  have HZ0 := Lib.hid hz0
  clear hZ
  have HK := Lib.hid ((Kp.start w).new 35 Z)
  generalize hw1 : w.alloc (.cells Z.toArray 35) = w1 at *
  rw [hz0] at hw1
  go_enter Try.func19, Try.ntmps19
  go_upto_region 1 with (fail)
  clear hw1 hz0
  have HVl : Hid (VH.length = Z.toArray.size) := Lib.hid (by rw [HVHH.out, vals_len, List.size_toArray, HZ.out, vals_len])
  go_wp2_with fail
  refine (HH.out w1).mono ?_
  rintro e w2 ⟨rfl, b1⟩
  have HK2 := Lib.hid (HK.out.below b1 (Nat.le_refl _))
  clear b1 HK
  have hK3 := HK2.out.put 35 Z.toArray VH HVl.out
  have ht : (w2.alloc (.cells Z.toArray 35)).there w2.heap.size 0 VH.toArray.size := (bk_new w2 35 Z.toArray).there _ (by rw [List.size_toArray, HVl.out]; exact Nat.le_refl _)
  generalize hw3 : (w2.alloc (.cells Z.toArray 35)).setCells w2.heap.size 0 VH = w3 at *
  rw [HZ0.out] at hw3 ht
  have HK3 := Lib.hid hK3
  have hne := HK2.out.ne (w.heap.size, 35, Z) (by simp)
  have HNE := Lib.hid hne
  have hlb := HK2.out.2.2
  have HLB := Lib.hid hlb
  clear hK3 HK2 hne hlb
  go_wp2_with (first | (refine wpList_store_mid rfl 35 _ _ rfl w2.heap.size 0 VH.toArray rfl rfl ht HIh.out HOh.out ?_) | (refine Great.wpList_readTo rfl _ rfl (.agg Z.toArray) (HEX.out _ _ _ _ _ _) ?_))
  have HC := Lib.hid (HK3.out.1 (w.heap.size, 35, Z) (by simp))
  have HB := Lib.hid HK3.out.2.1
  refine (fault_any _ _).mono ?_
  rintro e w20 ⟨rfl, rfl⟩
  have hkc : Bk (w3.alloc (.cells #[.int .i64 8, .int .i64 0] 78)) w.heap.size 35 Z.toArray := HC.out.alloc _
  have htf := hkc.there _ (Nat.le_refl _)
  go_wp2_with (refine wpList_store_mid rfl 35 _ _ rfl w.heap.size 0 Z.toArray rfl rfl htf HIz.out HOz.out ?_)
  have hk5 := Bk.sets Z 0 _ _ hkc
  rw [puts_whole Z.toArray Z (by simp)] at hk5
  have hlc := HC.out.lt
  refine bodyPost_ret (v := .tuple #[.agg Z.toArray, .iface 75 (.pointer (some ⟨w3.heap.size, 0, none⟩))]) ?_ rfl ?_
  · exact results_cell2 rfl rfl rfl (run_loadVar_mid _ w.heap.size 0 35 Z _ hk5.range Try.underlying35 rfl HIz.out)
  · refine ⟨_, by rw [HZ.out], ?_, HB.out.size, below_sets _ (Nat.le_refl _) 0 _ (HB.out.alloc HB.out.size _)⟩
    exact (heap_sets Z (by omega) 0 _).trans (Flt.new _ 8 0)
set_option maxRecDepth 100000 in
set_option maxHeartbeats 1000000 in
theorem parse_behind (s : ByteArray) (w : World) (hs : s.size ≤ 70000) (h40 : 40 ≤ s.size) (h6 : (hdW s : Int) / 268435456 = 6) (hb : s.size < 40 + hdL s) :
    Calls Try.prog 19 #[.string s] w (Bad (.agg (pk0.vals (.slice none 0 0)).toArray) 7 w) := by
  obtain ⟨VH, hVH⟩ : ∃ VH, VH = (hdP s h40).vals (.slice none 0 0) := ⟨_, rfl⟩
  have hge : ¬ (s.size : Int) < 40 := by omega
  have HH : Hid (∀ W, Calls Try.prog 36 #[.string s] W fun e w' => e = .returned (.tuple #[.agg VH.toArray, .int .i64 6, .int .i64 (hdL s : Nat), .int .i64 (byN s 6 : Nat)]) ∧ Below W.heap.size W w') := Lib.hid (fun W => by rw [hVH, show (6 : Int) = (hdW s : Int) / 268435456 from h6.symm]; exact readHead_any s W hs h40)
  have HIh : Hid ((Try.prog.info? 35).map (·.size) = some VH.length) := Lib.hid (by rw [hVH]; exact Try.info6 _ _)
  have HOh : Hid (VH.toArray.all (·.oneCell') = true) := Lib.hid (by rw [hVH]; exact vals_one _ _ rfl)
  have k6 : ((6 : Int) != 6) = false := rfl
  have HVHH := Lib.hid hVH
  have kl : (s.size : Int) - 40 < (hdL s : Int) := by omega
  have kw : IntKind.i64.wrap ((s.size : Int) - 40) = (s.size : Int) - 40 := IntWalk.i64_in _ (by omega)
  clear hVH h6
  obtain ⟨Z, hZ⟩ : ∃ Z, Z = pk0.vals (.slice none 0 0) := ⟨_, rfl⟩
  have HEX : Hid (∀ (ρ : Operand → Value) (d : Option Tmp) (ty : TypeId) (ps : String) (af : Array Edge) (W : World), (execOp ρ { dst := d, op := .build 35 #[], type := ty, pos := ps, after := af, guard := none }).run Try.prog W = .ok (.value (.agg Z.toArray)) W) := Lib.hid (fun ρ d ty ps af W => by rw [hZ]; exact Try.execZ6 ρ d ty ps af W)
  have HIz : Hid ((Try.prog.info? 35).map (·.size) = some Z.length) := Lib.hid (by rw [hZ]; exact Try.info6 _ _)
  have HOz : Hid (Z.toArray.all (·.oneCell') = true) := Lib.hid (by rw [hZ]; exact vals_one _ _ rfl)
  have hz0 : Z.toArray = #[.int .i64 0, .int .i64 0, .int .i64 0, .int .u8 0, .int .u8 0, .int .u8 0, .int .u8 0, .int .u8 0, .int .u8 0, .int .u8 0, .int .u8 0, .int .u8 0, .int .u8 0, .int .u8 0, .int .u8 0, .int .u8 0, .int .u8 0, .int .u8 0, .int .u8 0, .int .u8 0, .int .u8 0, .int .u8 0, .int .u8 0, .int .u8 0, .int .u8 0, .int .u8 0, .int .u8 0, .int .u8 0, .int .u8 0, .int .u8 0, .int .u8 0, .int .u8 0, .int .u8 0, .int .u8 0, .int .u8 0, .slice none 0 0, .bool false, .int .u32 0, .int .i64 0, .bool false, .int .i64 0, .string ⟨#[]⟩] := by rw [hZ]; exact pk0_vals
  have HZ := Lib.hid hZ
  have HZ0 := Lib.hid hz0
  clear hZ
  have HK := Lib.hid ((Kp.start w).new 35 Z)
  generalize hw1 : w.alloc (.cells Z.toArray 35) = w1 at *
  rw [hz0] at hw1
  go_enter Try.func19, Try.ntmps19
  go_upto_region 1 with (fail)
  clear hw1 hz0
  have HVl : Hid (VH.length = Z.toArray.size) := Lib.hid (by rw [HVHH.out, vals_len, List.size_toArray, HZ.out, vals_len])
  go_wp2_with fail
  refine (HH.out w1).mono ?_
  rintro e w2 ⟨rfl, b1⟩
  have HK2 := Lib.hid (HK.out.below b1 (Nat.le_refl _))
  clear b1 HK
  have hK3 := HK2.out.put 35 Z.toArray VH HVl.out
  have ht : (w2.alloc (.cells Z.toArray 35)).there w2.heap.size 0 VH.toArray.size := (bk_new w2 35 Z.toArray).there _ (by rw [List.size_toArray, HVl.out]; exact Nat.le_refl _)
  generalize hw3 : (w2.alloc (.cells Z.toArray 35)).setCells w2.heap.size 0 VH = w3 at *
  rw [HZ0.out] at hw3 ht
  have HK3 := Lib.hid hK3
  have hne := HK2.out.ne (w.heap.size, 35, Z) (by simp)
  have HNE := Lib.hid hne
  have hlb := HK2.out.2.2
  have HLB := Lib.hid hlb
  clear hK3 HK2 hne hlb
  go_wp2_with (first | (refine wpList_store_mid rfl 35 _ _ rfl w2.heap.size 0 VH.toArray rfl rfl ht HIh.out HOh.out ?_) | (refine Great.wpList_readTo rfl _ rfl (.agg Z.toArray) (HEX.out _ _ _ _ _ _) ?_))
  have HC := Lib.hid (HK3.out.1 (w.heap.size, 35, Z) (by simp))
  have HB := Lib.hid HK3.out.2.1
  refine (fault_any _ _).mono ?_
  rintro e w20 ⟨rfl, rfl⟩
  have hkc : Bk (w3.alloc (.cells #[.int .i64 7, .int .i64 0] 78)) w.heap.size 35 Z.toArray := HC.out.alloc _
  have htf := hkc.there _ (Nat.le_refl _)
  go_wp2_with (refine wpList_store_mid rfl 35 _ _ rfl w.heap.size 0 Z.toArray rfl rfl htf HIz.out HOz.out ?_)
  have hk5 := Bk.sets Z 0 _ _ hkc
  rw [puts_whole Z.toArray Z (by simp)] at hk5
  have hlc := HC.out.lt
  refine bodyPost_ret (v := .tuple #[.agg Z.toArray, .iface 75 (.pointer (some ⟨w3.heap.size, 0, none⟩))]) ?_ rfl ?_
  · exact results_cell2 rfl rfl rfl (run_loadVar_mid _ w.heap.size 0 35 Z _ hk5.range Try.underlying35 rfl HIz.out)
  · refine ⟨_, by rw [HZ.out], ?_, HB.out.size, below_sets _ (Nat.le_refl _) 0 _ (HB.out.alloc HB.out.size _)⟩
    exact (heap_sets Z (by omega) 0 _).trans (Flt.new _ 7 0)
set_option maxRecDepth 100000 in
set_option maxHeartbeats 1000000 in
theorem parse_chain (s : ByteArray) (w : World) (hs : s.size ≤ 70000) (h40 : 40 ≤ s.size) (h6 : (hdW s : Int) / 268435456 = 6) (hb : ¬ s.size < 40 + hdL s) (hc : (prC s).code ≠ 0) :
    Calls Try.prog 19 #[.string s] w (Bad (.agg (pk0.vals (.slice none 0 0)).toArray) (prC s).code w) := by
  obtain ⟨VH, hVH⟩ : ∃ VH, VH = (hdP s h40).vals (.slice none 0 0) := ⟨_, rfl⟩
  have hge : ¬ (s.size : Int) < 40 := by omega
  have HH : Hid (∀ W, Calls Try.prog 36 #[.string s] W fun e w' => e = .returned (.tuple #[.agg VH.toArray, .int .i64 6, .int .i64 (hdL s : Nat), .int .i64 (byN s 6 : Nat)]) ∧ Below W.heap.size W w') := Lib.hid (fun W => by rw [hVH, show (6 : Int) = (hdW s : Int) / 268435456 from h6.symm]; exact readHead_any s W hs h40)
  have HIh : Hid ((Try.prog.info? 35).map (·.size) = some VH.length) := Lib.hid (by rw [hVH]; exact Try.info6 _ _)
  have HOh : Hid (VH.toArray.all (·.oneCell') = true) := Lib.hid (by rw [hVH]; exact vals_one _ _ rfl)
  have hll := hdL_lt s
  have HCh : Hid (∀ W, Calls Try.prog 37 #[.int .i64 (byN s 6 : Nat), .string (s.extract 40 (40 + hdL s))] W (CChn (prC s) W)) := Lib.hid (fun W => chain_any _ _ W (by simp; omega))
  have k6 : ((6 : Int) != 6) = false := rfl
  have HVHH := Lib.hid hVH
  have kl : ¬ (s.size : Int) - 40 < (hdL s : Int) := by omega
  have kw : IntKind.i64.wrap ((s.size : Int) - 40) = (s.size : Int) - 40 := IntWalk.i64_in _ (by omega)
  have ka : IntKind.i64.wrap (40 + (hdL s : Int)) = 40 + (hdL s : Int) := IntWalk.i64_in _ (by omega)
  have j1 : (40 : Int) ≤ 40 + (hdL s : Int) := by omega
  have j2 : 40 + (hdL s : Int) ≤ (s.size : Int) := by omega
  have hrr := prC_rest s
  clear hVH h6
  generalize prC s = R at *
  obtain ⟨Z, hZ⟩ : ∃ Z, Z = pk0.vals (.slice none 0 0) := ⟨_, rfl⟩
  have HEX : Hid (∀ (ρ : Operand → Value) (d : Option Tmp) (ty : TypeId) (ps : String) (af : Array Edge) (W : World), (execOp ρ { dst := d, op := .build 35 #[], type := ty, pos := ps, after := af, guard := none }).run Try.prog W = .ok (.value (.agg Z.toArray)) W) := Lib.hid (fun ρ d ty ps af W => by rw [hZ]; exact Try.execZ6 ρ d ty ps af W)
  have HIz : Hid ((Try.prog.info? 35).map (·.size) = some Z.length) := Lib.hid (by rw [hZ]; exact Try.info6 _ _)
  have HOz : Hid (Z.toArray.all (·.oneCell') = true) := Lib.hid (by rw [hZ]; exact vals_one _ _ rfl)
  have hz0 : Z.toArray = #[.int .i64 0, .int .i64 0, .int .i64 0, .int .u8 0, .int .u8 0, .int .u8 0, .int .u8 0, .int .u8 0, .int .u8 0, .int .u8 0, .int .u8 0, .int .u8 0, .int .u8 0, .int .u8 0, .int .u8 0, .int .u8 0, .int .u8 0, .int .u8 0, .int .u8 0, .int .u8 0, .int .u8 0, .int .u8 0, .int .u8 0, .int .u8 0, .int .u8 0, .int .u8 0, .int .u8 0, .int .u8 0, .int .u8 0, .int .u8 0, .int .u8 0, .int .u8 0, .int .u8 0, .int .u8 0, .int .u8 0, .slice none 0 0, .bool false, .int .u32 0, .int .i64 0, .bool false, .int .i64 0, .string ⟨#[]⟩] := by rw [hZ]; exact pk0_vals
  have HZ := Lib.hid hZ
  have HZ0 := Lib.hid hz0
  clear hZ
  have HK := Lib.hid ((Kp.start w).new 35 Z)
  generalize hw1 : w.alloc (.cells Z.toArray 35) = w1 at *
  rw [hz0] at hw1
  go_enter Try.func19, Try.ntmps19
  go_upto_region 1 with (fail)
  clear hw1 hz0
  have HVl : Hid (VH.length = Z.toArray.size) := Lib.hid (by rw [HVHH.out, vals_len, List.size_toArray, HZ.out, vals_len])
  go_wp2_with fail
  refine (HH.out w1).mono ?_
  rintro e w2 ⟨rfl, b1⟩
  have HK2 := Lib.hid (HK.out.below b1 (Nat.le_refl _))
  clear b1 HK
  have hK3 := HK2.out.put 35 Z.toArray VH HVl.out
  have ht : (w2.alloc (.cells Z.toArray 35)).there w2.heap.size 0 VH.toArray.size := (bk_new w2 35 Z.toArray).there _ (by rw [List.size_toArray, HVl.out]; exact Nat.le_refl _)
  generalize hw3 : (w2.alloc (.cells Z.toArray 35)).setCells w2.heap.size 0 VH = w3 at *
  rw [HZ0.out] at hw3 ht
  have HK3 := Lib.hid hK3
  have hne := HK2.out.ne (w.heap.size, 35, Z) (by simp)
  have HNE := Lib.hid hne
  have hlb := HK2.out.2.2
  have HLB := Lib.hid hlb
  clear hK3 HK2 hne hlb
  go_wp2_with (first | (refine wpList_store_mid rfl 35 _ _ rfl w2.heap.size 0 VH.toArray rfl rfl ht HIh.out HOh.out ?_))
  clear ht hw3
  generalize w2.heap.size = b at *
  refine (HCh.out _).mono ?_
  rintro e w4 ⟨v, x, rfl, hown, herr, b1⟩
  have HK4 := Lib.hid (HK3.out.below b1 (Nat.le_refl _))
  have hf : ∃ f, x = .iface 75 (.pointer (some ⟨f, 0, none⟩)) ∧ Flt w4 f R.code 0 ∧ w3.heap.size ≤ f := by
    rcases herr with ⟨h0, _⟩ | ⟨_, f, h1, h2, h3⟩
    · exact absurd h0 hc
    · exact ⟨f, h1, h2, h3⟩
  obtain ⟨f, rfl, hfl, hle⟩ := hf
  have HFl := Lib.hid hfl
  have hlf := HK3.out.2.2
  have hls := (HK3.out.1 (w.heap.size, 35, Z) (by simp)).lt
  have HC := Lib.hid (HK4.out.1 (w.heap.size, 35, Z) (by simp))
  have HB := Lib.hid HK4.out.2.1
  have htf := HC.out.there _ (Nat.le_refl Z.toArray.size)
  clear hown herr b1 HK3 HK4 hfl
  go_wp2_with (first | (refine Great.wpList_readTo rfl _ rfl (.agg Z.toArray) (HEX.out _ _ _ _ _ _) ?_) | (refine wpList_store_mid rfl 35 _ _ rfl w.heap.size 0 Z.toArray rfl rfl htf HIz.out HOz.out ?_))
  have hk5 := Bk.sets Z 0 _ _ HC.out
  rw [puts_whole Z.toArray Z (by simp)] at hk5
  refine bodyPost_ret (v := .tuple #[.agg Z.toArray, .iface 75 (.pointer (some ⟨f, 0, none⟩))]) ?_ rfl ?_
  · exact results_cell2 rfl rfl rfl (run_loadVar_mid _ w.heap.size 0 35 Z _ hk5.range Try.underlying35 rfl HIz.out)
  · exact ⟨f, by rw [HZ.out], (heap_sets Z (by omega) 0 _).trans HFl.out, by omega, below_sets _ (Nat.le_refl _) 0 _ HB.out⟩
set_option maxRecDepth 100000 in
set_option maxHeartbeats 1000000 in
theorem parse_whole (s : ByteArray) (w : World) (hs : s.size ≤ 70000) (h40 : 40 ≤ s.size) (h6 : (hdW s : Int) / 268435456 = 6) (hb : ¬ s.size < 40 + hdL s) (hc : (prC s).code = 0) (hp : (prC s).proto ≠ 44) :
    Calls Try.prog 19 #[.string s] w (GoodP (prP s h40) w) := by
  obtain ⟨VH, hVH⟩ : ∃ VH, VH = (hdP s h40).vals (.slice none 0 0) := ⟨_, rfl⟩
  have hge : ¬ (s.size : Int) < 40 := by omega
  have HH : Hid (∀ W, Calls Try.prog 36 #[.string s] W fun e w' => e = .returned (.tuple #[.agg VH.toArray, .int .i64 6, .int .i64 (hdL s : Nat), .int .i64 (byN s 6 : Nat)]) ∧ Below W.heap.size W w') := Lib.hid (fun W => by rw [hVH, show (6 : Int) = (hdW s : Int) / 268435456 from h6.symm]; exact readHead_any s W hs h40)
  have HIh : Hid ((Try.prog.info? 35).map (·.size) = some VH.length) := Lib.hid (by rw [hVH]; exact Try.info6 _ _)
  have HOh : Hid (VH.toArray.all (·.oneCell') = true) := Lib.hid (by rw [hVH]; exact vals_one _ _ rfl)
  have hll := hdL_lt s
  have HCh : Hid (∀ W, Calls Try.prog 37 #[.int .i64 (byN s 6 : Nat), .string (s.extract 40 (40 + hdL s))] W (CChn (prC s) W)) := Lib.hid (fun W => chain_any _ _ W (by simp; omega))
  have k6 : ((6 : Int) != 6) = false := rfl
  have HVHH := Lib.hid hVH
  have kl : ¬ (s.size : Int) - 40 < (hdL s : Int) := by omega
  have kw : IntKind.i64.wrap ((s.size : Int) - 40) = (s.size : Int) - 40 := IntWalk.i64_in _ (by omega)
  have ka : IntKind.i64.wrap (40 + (hdL s : Int)) = 40 + (hdL s : Int) := IntWalk.i64_in _ (by omega)
  have j1 : (40 : Int) ≤ 40 + (hdL s : Int) := by omega
  have j2 : 40 + (hdL s : Int) ≤ (s.size : Int) := by omega
  have hrr := prC_rest s
  have kp : ((prC s).proto == 44) = false := by rw [beq_eq_false_iff_ne]; exact hp
  have hPV : ∀ v, (prP s h40).vals v = ((VH.set 35 v).set 40 (.int .i64 (prC s).proto)).set 41 (.string (prC s).rest) := fun v => by rw [hVH]; exact vset_chain _ _ v _ _ _
  have hPe : (prP s h40).exts = (prC s).exts := rfl
  have HPV := Lib.hid hPV
  have HPe := Lib.hid hPe
  clear hPV hPe hp
  generalize prP s h40 = P at *
  clear hVH h6
  generalize prC s = R at *
  obtain ⟨Z, hZ⟩ : ∃ Z, Z = pk0.vals (.slice none 0 0) := ⟨_, rfl⟩
  have HEX : Hid (∀ (ρ : Operand → Value) (d : Option Tmp) (ty : TypeId) (ps : String) (af : Array Edge) (W : World), (execOp ρ { dst := d, op := .build 35 #[], type := ty, pos := ps, after := af, guard := none }).run Try.prog W = .ok (.value (.agg Z.toArray)) W) := Lib.hid (fun ρ d ty ps af W => by rw [hZ]; exact Try.execZ6 ρ d ty ps af W)
  have HIz : Hid ((Try.prog.info? 35).map (·.size) = some Z.length) := Lib.hid (by rw [hZ]; exact Try.info6 _ _)
  have HOz : Hid (Z.toArray.all (·.oneCell') = true) := Lib.hid (by rw [hZ]; exact vals_one _ _ rfl)
  have hz0 : Z.toArray = #[.int .i64 0, .int .i64 0, .int .i64 0, .int .u8 0, .int .u8 0, .int .u8 0, .int .u8 0, .int .u8 0, .int .u8 0, .int .u8 0, .int .u8 0, .int .u8 0, .int .u8 0, .int .u8 0, .int .u8 0, .int .u8 0, .int .u8 0, .int .u8 0, .int .u8 0, .int .u8 0, .int .u8 0, .int .u8 0, .int .u8 0, .int .u8 0, .int .u8 0, .int .u8 0, .int .u8 0, .int .u8 0, .int .u8 0, .int .u8 0, .int .u8 0, .int .u8 0, .int .u8 0, .int .u8 0, .int .u8 0, .slice none 0 0, .bool false, .int .u32 0, .int .i64 0, .bool false, .int .i64 0, .string ⟨#[]⟩] := by rw [hZ]; exact pk0_vals
  have HZ := Lib.hid hZ
  have HZ0 := Lib.hid hz0
  clear hZ
  have HK := Lib.hid ((Kp.start w).new 35 Z)
  generalize hw1 : w.alloc (.cells Z.toArray 35) = w1 at *
  rw [hz0] at hw1
  go_enter Try.func19, Try.ntmps19
  go_upto_region 1 with (fail)
  clear hw1 hz0
  have HVl : Hid (VH.length = Z.toArray.size) := Lib.hid (by rw [HVHH.out, vals_len, List.size_toArray, HZ.out, vals_len])
  go_wp2_with fail
  refine (HH.out w1).mono ?_
  rintro e w2 ⟨rfl, b1⟩
  have HK2 := Lib.hid (HK.out.below b1 (Nat.le_refl _))
  clear b1 HK
  have hK3 := HK2.out.put 35 Z.toArray VH HVl.out
  have ht : (w2.alloc (.cells Z.toArray 35)).there w2.heap.size 0 VH.toArray.size := (bk_new w2 35 Z.toArray).there _ (by rw [List.size_toArray, HVl.out]; exact Nat.le_refl _)
  generalize hw3 : (w2.alloc (.cells Z.toArray 35)).setCells w2.heap.size 0 VH = w3 at *
  rw [HZ0.out] at hw3 ht
  have HK3 := Lib.hid hK3
  have hne := HK2.out.ne (w.heap.size, 35, Z) (by simp)
  have HNE := Lib.hid hne
  have hlb := HK2.out.2.2
  have HLB := Lib.hid hlb
  clear hK3 HK2 hne hlb
  go_wp2_with (first | (refine wpList_store_mid rfl 35 _ _ rfl w2.heap.size 0 VH.toArray rfl rfl ht HIh.out HOh.out ?_))
  clear ht hw3
  generalize w2.heap.size = b at *
  refine (HCh.out _).mono ?_
  rintro e w4 ⟨v, x, rfl, hown, herr, b1⟩
  obtain ⟨rfl⟩ : x = .nilIface := by
    rcases herr with ⟨_, h1⟩ | ⟨h1, _⟩
    · exact h1
    · exact absurd hc h1
  have hK4 := HK3.out.below b1 (Nat.le_refl _)
  have HOw := Lib.hid (own_le hown HK3.out.2.2)
  have HO1 := Lib.hid (own_one hown)
  have HOx := Lib.hid (own_le hown (Nat.le_refl _))
  have HSz3 := Lib.hid HK3.out.2.2
  have HSs := Lib.hid (HK3.out.1 (w.heap.size, 35, Z) (by simp)).lt
  have c35 := hK4.hd.at (show VH[35]? = some (.slice none 0 0) by rw [HVHH.out]; exact vals_tail _ _ 0)
  have c40 := hK4.hd.at (show VH[40]? = some (.int .i64 0) by rw [HVHH.out]; exact vals_tail _ _ 5)
  have c41 := hK4.hd.at (show VH[41]? = some (.string ⟨#[]⟩) by rw [HVHH.out]; exact vals_tail _ _ 6)
  have z35 := hK4.hd.z 35
  have z40 := hK4.hd.z 40
  have z41 := hK4.hd.z 41
  obtain ⟨ao, cap, rfl, hxs⟩ := exs_own HOx.out
  obtain ⟨VP, hVP⟩ : ∃ VP, VP = P.vals (.slice ao R.exts.length cap) := ⟨_, rfl⟩
  have hK5 : Kp w w.heap.size [(b, 35, VP), (w.heap.size, 35, Z)] (((w4.setCell ⟨b, 35, none⟩ (.slice ao R.exts.length cap)).setCell ⟨b, 40, none⟩ (.int .i64 R.proto)).setCell ⟨b, 41, none⟩ (.string R.rest)) := by
    have hne2 : ∀ x ∈ [(w.heap.size, 35, Z)], x.1 ≠ b := fun x hx => by rw [List.mem_singleton.1 hx]; exact HNE.out
    have e : VP = ((VH.set 35 (.slice ao R.exts.length cap)).set 40 (.int .i64 R.proto)).set 41 (.string R.rest) := by rw [hVP, HPV.out]
    rw [e]
    exact ((hK4.set1 hne2 HLB.out 35 _).set1 hne2 HLB.out 40 _).set1 hne2 HLB.out 41 _
  have HVP := Lib.hid hVP
  have HOw5 : Hid ((((w4.setCell ⟨b, 35, none⟩ (.slice ao R.exts.length cap)).setCell ⟨b, 40, none⟩ (.int .i64 R.proto)).setCell ⟨b, 41, none⟩ (.string R.rest)).ownsRow w3.heap.size 38 2 (.slice ao R.exts.length cap) R.exts.length (extV R.exts)) := Lib.hid (by
    have hbl := hK4.hd.lt
    have hb3 := HK3.out.hd.lt
    exact ((HOx.out.kept (up_set (up_refl w4 (some b)) 35 _) (by cases hv : (Value.slice ao R.exts.length cap).ownBlock with
      | none => exact .inl rfl
      | some k => exact .inr (fun e => by injection e with e; have := (HOx.out.lt k hv).1; omega))).kept (up_set (up_refl _ (some b)) 40 _) (by cases hv : (Value.slice ao R.exts.length cap).ownBlock with
      | none => exact .inl rfl
      | some k => exact .inr (fun e => by injection e with e; have := (HOx.out.lt k hv).1; omega))).kept (up_set (up_refl _ (some b)) 41 _) (by cases hv : (Value.slice ao R.exts.length cap).ownBlock with
      | none => exact .inl rfl
      | some k => exact .inr (fun e => by injection e with e; have := (HOx.out.lt k hv).1; omega)))
  have HK5 := Lib.hid hK5
  clear hown herr b1 HK3 hK4 hVP hK5 HOw HOx hxs
  go_upto_region 12 with (fail)
  clear c35 c40 c41 z35 z40 z41
  generalize (((w4.setCell ⟨b, 35, none⟩ (.slice ao R.exts.length cap)).setCell ⟨b, 40, none⟩ (.int .i64 R.proto)).setCell ⟨b, 41, none⟩ (.string R.rest)) = w5 at *
  have hrg : w5.rangeAt b 0 VP := HK5.out.hd.range
  have htf : w5.there w.heap.size 0 VP.toArray.size := (HK5.out.1 (w.heap.size, 35, Z) (by simp)).there _ (by rw [List.size_toArray, List.size_toArray, HVP.out, HZ.out, vals_len, vals_len]; exact Nat.le_refl _)
  have HIp : Hid ((Try.prog.info? 35).map (·.size) = some VP.length) := Lib.hid (by rw [HVP.out]; exact Try.info6 _ _)
  have HOp : Hid (VP.toArray.all (·.oneCell') = true) := Lib.hid (by rw [HVP.out]; exact vals_one _ _ HO1.out)
  go_wp2_with (first | (refine wpList_load_mid rfl 35 _ rfl b 0 rfl VP _ hrg Try.underlying35 rfl HIp.out ?_) | (refine wpList_store_mid rfl 35 _ _ rfl w.heap.size 0 VP.toArray rfl rfl htf HIp.out HOp.out ?_))
  have hk5 := Bk.sets VP 0 _ _ (HK5.out.1 (w.heap.size, 35, Z) (by simp))
  rw [puts_whole Z.toArray VP (by rw [List.size_toArray, HVP.out, HZ.out, vals_len, vals_len])] at hk5
  refine bodyPost_ret (v := .tuple #[.agg VP.toArray, .nilIface]) ?_ rfl ?_
  · exact results_cell2 rfl rfl rfl (run_loadVar_mid _ w.heap.size 0 35 VP _ hk5.range Try.underlying35 rfl HIp.out)
  · refine ⟨_, by rw [HVP.out], ?_, below_sets _ (Nat.le_refl _) 0 _ HK5.out.2.1⟩
    have hlw := HSz3.out
    have hls := HSs.out
    rw [HPe.out]
    exact own_le (own_sets HOw5.out (by omega) VP 0) HSz3.out
set_option maxRecDepth 100000 in
set_option maxHeartbeats 1000000 in
theorem parse_fragBad (s : ByteArray) (w : World) (hs : s.size ≤ 70000) (h40 : 40 ≤ s.size) (h6 : (hdW s : Int) / 268435456 = 6) (hb : ¬ s.size < 40 + hdL s) (hc : (prC s).code = 0) (hp : (prC s).proto = 44) (c : Int) (hrf : ∀ W v, Calls Try.prog 38 #[.agg ((prP s h40).vals v).toArray] W (Bad (.agg (pk0.vals (.slice none 0 0)).toArray) c W)) :
    Calls Try.prog 19 #[.string s] w (Bad (.agg (pk0.vals (.slice none 0 0)).toArray) c w) := by
  obtain ⟨VH, hVH⟩ : ∃ VH, VH = (hdP s h40).vals (.slice none 0 0) := ⟨_, rfl⟩
  have hge : ¬ (s.size : Int) < 40 := by omega
  have HH : Hid (∀ W, Calls Try.prog 36 #[.string s] W fun e w' => e = .returned (.tuple #[.agg VH.toArray, .int .i64 6, .int .i64 (hdL s : Nat), .int .i64 (byN s 6 : Nat)]) ∧ Below W.heap.size W w') := Lib.hid (fun W => by rw [hVH, show (6 : Int) = (hdW s : Int) / 268435456 from h6.symm]; exact readHead_any s W hs h40)
  have HIh : Hid ((Try.prog.info? 35).map (·.size) = some VH.length) := Lib.hid (by rw [hVH]; exact Try.info6 _ _)
  have HOh : Hid (VH.toArray.all (·.oneCell') = true) := Lib.hid (by rw [hVH]; exact vals_one _ _ rfl)
  have hll := hdL_lt s
  have HCh : Hid (∀ W, Calls Try.prog 37 #[.int .i64 (byN s 6 : Nat), .string (s.extract 40 (40 + hdL s))] W (CChn (prC s) W)) := Lib.hid (fun W => chain_any _ _ W (by simp; omega))
  have k6 : ((6 : Int) != 6) = false := rfl
  have HVHH := Lib.hid hVH
  have kl : ¬ (s.size : Int) - 40 < (hdL s : Int) := by omega
  have kw : IntKind.i64.wrap ((s.size : Int) - 40) = (s.size : Int) - 40 := IntWalk.i64_in _ (by omega)
  have ka : IntKind.i64.wrap (40 + (hdL s : Int)) = 40 + (hdL s : Int) := IntWalk.i64_in _ (by omega)
  have j1 : (40 : Int) ≤ 40 + (hdL s : Int) := by omega
  have j2 : 40 + (hdL s : Int) ≤ (s.size : Int) := by omega
  have hrr := prC_rest s
  have kp : ((prC s).proto == 44) = true := by rw [hp]; rfl
  have hPV : ∀ v, (prP s h40).vals v = ((VH.set 35 v).set 40 (.int .i64 (prC s).proto)).set 41 (.string (prC s).rest) := fun v => by rw [hVH]; exact vset_chain _ _ v _ _ _
  have hPe : (prP s h40).exts = (prC s).exts := rfl
  have HPV := Lib.hid hPV
  have HPe := Lib.hid hPe
  have HRF := Lib.hid hrf
  clear hPV hPe hp hrf
  generalize prP s h40 = P at *
  clear hVH h6
  generalize prC s = R at *
  obtain ⟨Z, hZ⟩ : ∃ Z, Z = pk0.vals (.slice none 0 0) := ⟨_, rfl⟩
  have HEX : Hid (∀ (ρ : Operand → Value) (d : Option Tmp) (ty : TypeId) (ps : String) (af : Array Edge) (W : World), (execOp ρ { dst := d, op := .build 35 #[], type := ty, pos := ps, after := af, guard := none }).run Try.prog W = .ok (.value (.agg Z.toArray)) W) := Lib.hid (fun ρ d ty ps af W => by rw [hZ]; exact Try.execZ6 ρ d ty ps af W)
  have HIz : Hid ((Try.prog.info? 35).map (·.size) = some Z.length) := Lib.hid (by rw [hZ]; exact Try.info6 _ _)
  have HOz : Hid (Z.toArray.all (·.oneCell') = true) := Lib.hid (by rw [hZ]; exact vals_one _ _ rfl)
  have hz0 : Z.toArray = #[.int .i64 0, .int .i64 0, .int .i64 0, .int .u8 0, .int .u8 0, .int .u8 0, .int .u8 0, .int .u8 0, .int .u8 0, .int .u8 0, .int .u8 0, .int .u8 0, .int .u8 0, .int .u8 0, .int .u8 0, .int .u8 0, .int .u8 0, .int .u8 0, .int .u8 0, .int .u8 0, .int .u8 0, .int .u8 0, .int .u8 0, .int .u8 0, .int .u8 0, .int .u8 0, .int .u8 0, .int .u8 0, .int .u8 0, .int .u8 0, .int .u8 0, .int .u8 0, .int .u8 0, .int .u8 0, .int .u8 0, .slice none 0 0, .bool false, .int .u32 0, .int .i64 0, .bool false, .int .i64 0, .string ⟨#[]⟩] := by rw [hZ]; exact pk0_vals
  have HZ := Lib.hid hZ
  have HZ0 := Lib.hid hz0
  clear hZ
  have HK := Lib.hid ((Kp.start w).new 35 Z)
  generalize hw1 : w.alloc (.cells Z.toArray 35) = w1 at *
  rw [hz0] at hw1
  go_enter Try.func19, Try.ntmps19
  go_upto_region 1 with (fail)
  clear hw1 hz0
  have HVl : Hid (VH.length = Z.toArray.size) := Lib.hid (by rw [HVHH.out, vals_len, List.size_toArray, HZ.out, vals_len])
  go_wp2_with fail
  refine (HH.out w1).mono ?_
  rintro e w2 ⟨rfl, b1⟩
  have HK2 := Lib.hid (HK.out.below b1 (Nat.le_refl _))
  clear b1 HK
  have hK3 := HK2.out.put 35 Z.toArray VH HVl.out
  have ht : (w2.alloc (.cells Z.toArray 35)).there w2.heap.size 0 VH.toArray.size := (bk_new w2 35 Z.toArray).there _ (by rw [List.size_toArray, HVl.out]; exact Nat.le_refl _)
  generalize hw3 : (w2.alloc (.cells Z.toArray 35)).setCells w2.heap.size 0 VH = w3 at *
  rw [HZ0.out] at hw3 ht
  have HK3 := Lib.hid hK3
  have hne := HK2.out.ne (w.heap.size, 35, Z) (by simp)
  have HNE := Lib.hid hne
  have hlb := HK2.out.2.2
  have HLB := Lib.hid hlb
  clear hK3 HK2 hne hlb
  go_wp2_with (first | (refine wpList_store_mid rfl 35 _ _ rfl w2.heap.size 0 VH.toArray rfl rfl ht HIh.out HOh.out ?_))
  clear ht hw3
  generalize w2.heap.size = b at *
  refine (HCh.out _).mono ?_
  rintro e w4 ⟨v, x, rfl, hown, herr, b1⟩
  obtain ⟨rfl⟩ : x = .nilIface := by
    rcases herr with ⟨_, h1⟩ | ⟨h1, _⟩
    · exact h1
    · exact absurd hc h1
  have hK4 := HK3.out.below b1 (Nat.le_refl _)
  have HOw := Lib.hid (own_le hown HK3.out.2.2)
  have HO1 := Lib.hid (own_one hown)
  have HOx := Lib.hid (own_le hown (Nat.le_refl _))
  have HSz3 := Lib.hid HK3.out.2.2
  have HSs := Lib.hid (HK3.out.1 (w.heap.size, 35, Z) (by simp)).lt
  have c35 := hK4.hd.at (show VH[35]? = some (.slice none 0 0) by rw [HVHH.out]; exact vals_tail _ _ 0)
  have c40 := hK4.hd.at (show VH[40]? = some (.int .i64 0) by rw [HVHH.out]; exact vals_tail _ _ 5)
  have c41 := hK4.hd.at (show VH[41]? = some (.string ⟨#[]⟩) by rw [HVHH.out]; exact vals_tail _ _ 6)
  have z35 := hK4.hd.z 35
  have z40 := hK4.hd.z 40
  have z41 := hK4.hd.z 41
  obtain ⟨ao, cap, rfl, hxs⟩ := exs_own HOx.out
  obtain ⟨VP, hVP⟩ : ∃ VP, VP = P.vals (.slice ao R.exts.length cap) := ⟨_, rfl⟩
  have hK5 : Kp w w.heap.size [(b, 35, VP), (w.heap.size, 35, Z)] (((w4.setCell ⟨b, 35, none⟩ (.slice ao R.exts.length cap)).setCell ⟨b, 40, none⟩ (.int .i64 R.proto)).setCell ⟨b, 41, none⟩ (.string R.rest)) := by
    have hne2 : ∀ x ∈ [(w.heap.size, 35, Z)], x.1 ≠ b := fun x hx => by rw [List.mem_singleton.1 hx]; exact HNE.out
    have e : VP = ((VH.set 35 (.slice ao R.exts.length cap)).set 40 (.int .i64 R.proto)).set 41 (.string R.rest) := by rw [hVP, HPV.out]
    rw [e]
    exact ((hK4.set1 hne2 HLB.out 35 _).set1 hne2 HLB.out 40 _).set1 hne2 HLB.out 41 _
  have HVP := Lib.hid hVP
  have HOw5 : Hid ((((w4.setCell ⟨b, 35, none⟩ (.slice ao R.exts.length cap)).setCell ⟨b, 40, none⟩ (.int .i64 R.proto)).setCell ⟨b, 41, none⟩ (.string R.rest)).ownsRow w3.heap.size 38 2 (.slice ao R.exts.length cap) R.exts.length (extV R.exts)) := Lib.hid (by
    have hbl := hK4.hd.lt
    have hb3 := HK3.out.hd.lt
    exact ((HOx.out.kept (up_set (up_refl w4 (some b)) 35 _) (by cases hv : (Value.slice ao R.exts.length cap).ownBlock with
      | none => exact .inl rfl
      | some k => exact .inr (fun e => by injection e with e; have := (HOx.out.lt k hv).1; omega))).kept (up_set (up_refl _ (some b)) 40 _) (by cases hv : (Value.slice ao R.exts.length cap).ownBlock with
      | none => exact .inl rfl
      | some k => exact .inr (fun e => by injection e with e; have := (HOx.out.lt k hv).1; omega))).kept (up_set (up_refl _ (some b)) 41 _) (by cases hv : (Value.slice ao R.exts.length cap).ownBlock with
      | none => exact .inl rfl
      | some k => exact .inr (fun e => by injection e with e; have := (HOx.out.lt k hv).1; omega)))
  have HK5 := Lib.hid hK5
  clear hown herr b1 HK3 hK4 hVP hK5 HOw HOx hxs
  go_upto_region 12 with (fail)
  clear c35 c40 c41 z35 z40 z41
  generalize (((w4.setCell ⟨b, 35, none⟩ (.slice ao R.exts.length cap)).setCell ⟨b, 40, none⟩ (.int .i64 R.proto)).setCell ⟨b, 41, none⟩ (.string R.rest)) = w5 at *
  have hrg : w5.rangeAt b 0 VP := HK5.out.hd.range
  have HIp : Hid ((Try.prog.info? 35).map (·.size) = some VP.length) := Lib.hid (by rw [HVP.out]; exact Try.info6 _ _)
  have HSz5 := Lib.hid HK5.out.2.2
  go_wp2_with (refine wpList_load_mid rfl 35 _ rfl b 0 rfl VP _ hrg Try.underlying35 rfl HIp.out ?_)
  rw [HVP.out]
  refine (HRF.out _ _).mono ?_
  rintro e w6 ⟨f, rfl, hfl, hle, b6⟩
  rw [← HZ.out, ← HVP.out]
  have HFl := Lib.hid hfl
  have HC := Lib.hid ((HK5.out.1 (w.heap.size, 35, Z) (by simp)).below b6 (HK5.out.1 (w.heap.size, 35, Z) (by simp)).lt)
  have HB := Lib.hid (HK5.out.2.1.trans (b6.mono HSz5.out))
  have hls := (HK5.out.1 (w.heap.size, 35, Z) (by simp)).lt
  have htf := HC.out.there _ (Nat.le_refl Z.toArray.size)
  have hsz5 := HSz5.out
  clear b6 hfl hrg HK5
  go_wp2_with (refine wpList_store_mid rfl 35 _ _ rfl w.heap.size 0 Z.toArray rfl rfl htf HIz.out HOz.out ?_)
  have hk5 := Bk.sets Z 0 _ _ HC.out
  rw [puts_whole Z.toArray Z (by simp)] at hk5
  refine bodyPost_ret (v := .tuple #[.agg Z.toArray, .iface 75 (.pointer (some ⟨f, 0, none⟩))]) ?_ rfl ?_
  · exact results_cell2 rfl rfl rfl (run_loadVar_mid _ w.heap.size 0 35 Z _ hk5.range Try.underlying35 rfl HIz.out)
  · exact ⟨f, by rw [HZ.out], (heap_sets Z (by omega) 0 _).trans HFl.out, by omega, below_sets _ (Nat.le_refl _) 0 _ HB.out⟩
set_option maxRecDepth 100000 in
set_option maxHeartbeats 1000000 in
theorem parse_fragOk (s : ByteArray) (w : World) (hs : s.size ≤ 70000) (h40 : 40 ≤ s.size) (h6 : (hdW s : Int) / 268435456 = 6) (hb : ¬ s.size < 40 + hdL s) (hc : (prC s).code = 0) (hp : (prC s).proto = 44) (hrf : ∀ W v, v.oneCell' = true → Calls Try.prog 38 #[.agg ((prP s h40).vals v).toArray] W fun e w' => e = .returned (.tuple #[.agg ((frP (prP s h40)).vals v).toArray, .nilIface]) ∧ Below W.heap.size W w') :
    Calls Try.prog 19 #[.string s] w (GoodP (frP (prP s h40)) w) := by
  obtain ⟨VH, hVH⟩ : ∃ VH, VH = (hdP s h40).vals (.slice none 0 0) := ⟨_, rfl⟩
  have hge : ¬ (s.size : Int) < 40 := by omega
  have HH : Hid (∀ W, Calls Try.prog 36 #[.string s] W fun e w' => e = .returned (.tuple #[.agg VH.toArray, .int .i64 6, .int .i64 (hdL s : Nat), .int .i64 (byN s 6 : Nat)]) ∧ Below W.heap.size W w') := Lib.hid (fun W => by rw [hVH, show (6 : Int) = (hdW s : Int) / 268435456 from h6.symm]; exact readHead_any s W hs h40)
  have HIh : Hid ((Try.prog.info? 35).map (·.size) = some VH.length) := Lib.hid (by rw [hVH]; exact Try.info6 _ _)
  have HOh : Hid (VH.toArray.all (·.oneCell') = true) := Lib.hid (by rw [hVH]; exact vals_one _ _ rfl)
  have hll := hdL_lt s
  have HCh : Hid (∀ W, Calls Try.prog 37 #[.int .i64 (byN s 6 : Nat), .string (s.extract 40 (40 + hdL s))] W (CChn (prC s) W)) := Lib.hid (fun W => chain_any _ _ W (by simp; omega))
  have k6 : ((6 : Int) != 6) = false := rfl
  have HVHH := Lib.hid hVH
  have kl : ¬ (s.size : Int) - 40 < (hdL s : Int) := by omega
  have kw : IntKind.i64.wrap ((s.size : Int) - 40) = (s.size : Int) - 40 := IntWalk.i64_in _ (by omega)
  have ka : IntKind.i64.wrap (40 + (hdL s : Int)) = 40 + (hdL s : Int) := IntWalk.i64_in _ (by omega)
  have j1 : (40 : Int) ≤ 40 + (hdL s : Int) := by omega
  have j2 : 40 + (hdL s : Int) ≤ (s.size : Int) := by omega
  have hrr := prC_rest s
  have kp : ((prC s).proto == 44) = true := by rw [hp]; rfl
  have hPV : ∀ v, (prP s h40).vals v = ((VH.set 35 v).set 40 (.int .i64 (prC s).proto)).set 41 (.string (prC s).rest) := fun v => by rw [hVH]; exact vset_chain _ _ v _ _ _
  have hPe : (prP s h40).exts = (prC s).exts := rfl
  have HPV := Lib.hid hPV
  have HPe := Lib.hid hPe
  have HRF := Lib.hid hrf
  clear hPV hPe hp hrf
  generalize prP s h40 = P at *
  clear hVH h6
  generalize prC s = R at *
  obtain ⟨Z, hZ⟩ : ∃ Z, Z = pk0.vals (.slice none 0 0) := ⟨_, rfl⟩
  have HEX : Hid (∀ (ρ : Operand → Value) (d : Option Tmp) (ty : TypeId) (ps : String) (af : Array Edge) (W : World), (execOp ρ { dst := d, op := .build 35 #[], type := ty, pos := ps, after := af, guard := none }).run Try.prog W = .ok (.value (.agg Z.toArray)) W) := Lib.hid (fun ρ d ty ps af W => by rw [hZ]; exact Try.execZ6 ρ d ty ps af W)
  have HIz : Hid ((Try.prog.info? 35).map (·.size) = some Z.length) := Lib.hid (by rw [hZ]; exact Try.info6 _ _)
  have HOz : Hid (Z.toArray.all (·.oneCell') = true) := Lib.hid (by rw [hZ]; exact vals_one _ _ rfl)
  have hz0 : Z.toArray = #[.int .i64 0, .int .i64 0, .int .i64 0, .int .u8 0, .int .u8 0, .int .u8 0, .int .u8 0, .int .u8 0, .int .u8 0, .int .u8 0, .int .u8 0, .int .u8 0, .int .u8 0, .int .u8 0, .int .u8 0, .int .u8 0, .int .u8 0, .int .u8 0, .int .u8 0, .int .u8 0, .int .u8 0, .int .u8 0, .int .u8 0, .int .u8 0, .int .u8 0, .int .u8 0, .int .u8 0, .int .u8 0, .int .u8 0, .int .u8 0, .int .u8 0, .int .u8 0, .int .u8 0, .int .u8 0, .int .u8 0, .slice none 0 0, .bool false, .int .u32 0, .int .i64 0, .bool false, .int .i64 0, .string ⟨#[]⟩] := by rw [hZ]; exact pk0_vals
  have HZ := Lib.hid hZ
  have HZ0 := Lib.hid hz0
  clear hZ
  have HK := Lib.hid ((Kp.start w).new 35 Z)
  generalize hw1 : w.alloc (.cells Z.toArray 35) = w1 at *
  rw [hz0] at hw1
  go_enter Try.func19, Try.ntmps19
  go_upto_region 1 with (fail)
  clear hw1 hz0
  have HVl : Hid (VH.length = Z.toArray.size) := Lib.hid (by rw [HVHH.out, vals_len, List.size_toArray, HZ.out, vals_len])
  go_wp2_with fail
  refine (HH.out w1).mono ?_
  rintro e w2 ⟨rfl, b1⟩
  have HK2 := Lib.hid (HK.out.below b1 (Nat.le_refl _))
  clear b1 HK
  have hK3 := HK2.out.put 35 Z.toArray VH HVl.out
  have ht : (w2.alloc (.cells Z.toArray 35)).there w2.heap.size 0 VH.toArray.size := (bk_new w2 35 Z.toArray).there _ (by rw [List.size_toArray, HVl.out]; exact Nat.le_refl _)
  generalize hw3 : (w2.alloc (.cells Z.toArray 35)).setCells w2.heap.size 0 VH = w3 at *
  rw [HZ0.out] at hw3 ht
  have HK3 := Lib.hid hK3
  have hne := HK2.out.ne (w.heap.size, 35, Z) (by simp)
  have HNE := Lib.hid hne
  have hlb := HK2.out.2.2
  have HLB := Lib.hid hlb
  clear hK3 HK2 hne hlb
  go_wp2_with (first | (refine wpList_store_mid rfl 35 _ _ rfl w2.heap.size 0 VH.toArray rfl rfl ht HIh.out HOh.out ?_))
  clear ht hw3
  generalize w2.heap.size = b at *
  refine (HCh.out _).mono ?_
  rintro e w4 ⟨v, x, rfl, hown, herr, b1⟩
  obtain ⟨rfl⟩ : x = .nilIface := by
    rcases herr with ⟨_, h1⟩ | ⟨h1, _⟩
    · exact h1
    · exact absurd hc h1
  have hK4 := HK3.out.below b1 (Nat.le_refl _)
  have HOw := Lib.hid (own_le hown HK3.out.2.2)
  have HO1 := Lib.hid (own_one hown)
  have HOx := Lib.hid (own_le hown (Nat.le_refl _))
  have HSz3 := Lib.hid HK3.out.2.2
  have HSs := Lib.hid (HK3.out.1 (w.heap.size, 35, Z) (by simp)).lt
  have c35 := hK4.hd.at (show VH[35]? = some (.slice none 0 0) by rw [HVHH.out]; exact vals_tail _ _ 0)
  have c40 := hK4.hd.at (show VH[40]? = some (.int .i64 0) by rw [HVHH.out]; exact vals_tail _ _ 5)
  have c41 := hK4.hd.at (show VH[41]? = some (.string ⟨#[]⟩) by rw [HVHH.out]; exact vals_tail _ _ 6)
  have z35 := hK4.hd.z 35
  have z40 := hK4.hd.z 40
  have z41 := hK4.hd.z 41
  obtain ⟨ao, cap, rfl, hxs⟩ := exs_own HOx.out
  obtain ⟨VP, hVP⟩ : ∃ VP, VP = P.vals (.slice ao R.exts.length cap) := ⟨_, rfl⟩
  have hK5 : Kp w w.heap.size [(b, 35, VP), (w.heap.size, 35, Z)] (((w4.setCell ⟨b, 35, none⟩ (.slice ao R.exts.length cap)).setCell ⟨b, 40, none⟩ (.int .i64 R.proto)).setCell ⟨b, 41, none⟩ (.string R.rest)) := by
    have hne2 : ∀ x ∈ [(w.heap.size, 35, Z)], x.1 ≠ b := fun x hx => by rw [List.mem_singleton.1 hx]; exact HNE.out
    have e : VP = ((VH.set 35 (.slice ao R.exts.length cap)).set 40 (.int .i64 R.proto)).set 41 (.string R.rest) := by rw [hVP, HPV.out]
    rw [e]
    exact ((hK4.set1 hne2 HLB.out 35 _).set1 hne2 HLB.out 40 _).set1 hne2 HLB.out 41 _
  have HVP := Lib.hid hVP
  have HOw5 : Hid ((((w4.setCell ⟨b, 35, none⟩ (.slice ao R.exts.length cap)).setCell ⟨b, 40, none⟩ (.int .i64 R.proto)).setCell ⟨b, 41, none⟩ (.string R.rest)).ownsRow w3.heap.size 38 2 (.slice ao R.exts.length cap) R.exts.length (extV R.exts)) := Lib.hid (by
    have hbl := hK4.hd.lt
    have hb3 := HK3.out.hd.lt
    exact ((HOx.out.kept (up_set (up_refl w4 (some b)) 35 _) (by cases hv : (Value.slice ao R.exts.length cap).ownBlock with
      | none => exact .inl rfl
      | some k => exact .inr (fun e => by injection e with e; have := (HOx.out.lt k hv).1; omega))).kept (up_set (up_refl _ (some b)) 40 _) (by cases hv : (Value.slice ao R.exts.length cap).ownBlock with
      | none => exact .inl rfl
      | some k => exact .inr (fun e => by injection e with e; have := (HOx.out.lt k hv).1; omega))).kept (up_set (up_refl _ (some b)) 41 _) (by cases hv : (Value.slice ao R.exts.length cap).ownBlock with
      | none => exact .inl rfl
      | some k => exact .inr (fun e => by injection e with e; have := (HOx.out.lt k hv).1; omega)))
  have HK5 := Lib.hid hK5
  clear hown herr b1 HK3 hK4 hVP hK5 HOw HOx hxs
  go_upto_region 12 with (fail)
  clear c35 c40 c41 z35 z40 z41
  generalize (((w4.setCell ⟨b, 35, none⟩ (.slice ao R.exts.length cap)).setCell ⟨b, 40, none⟩ (.int .i64 R.proto)).setCell ⟨b, 41, none⟩ (.string R.rest)) = w5 at *
  have hrg : w5.rangeAt b 0 VP := HK5.out.hd.range
  have HIp : Hid ((Try.prog.info? 35).map (·.size) = some VP.length) := Lib.hid (by rw [HVP.out]; exact Try.info6 _ _)
  have HSz5 := Lib.hid HK5.out.2.2
  go_wp2_with (refine wpList_load_mid rfl 35 _ rfl b 0 rfl VP _ hrg Try.underlying35 rfl HIp.out ?_)
  obtain ⟨VF, hVF⟩ : ∃ VF, VF = (frP P).vals (.slice ao R.exts.length cap) := ⟨_, rfl⟩
  rw [HVP.out]
  refine (HRF.out _ _ HO1.out).mono ?_
  rintro e w6 ⟨rfl, b6⟩
  rw [← hVF, ← HVP.out]
  have HVF := Lib.hid hVF
  have HIf : Hid ((Try.prog.info? 35).map (·.size) = some VF.length) := Lib.hid (by rw [hVF]; exact Try.info6 _ _)
  have HOf : Hid (VF.toArray.all (·.oneCell') = true) := Lib.hid (by rw [hVF]; exact vals_one _ _ HO1.out)
  have HLf : Hid (VF.length = Z.toArray.size) := Lib.hid (by rw [hVF, List.size_toArray, HZ.out, vals_len, vals_len])
  have HC := Lib.hid ((HK5.out.1 (w.heap.size, 35, Z) (by simp)).below b6 (HK5.out.1 (w.heap.size, 35, Z) (by simp)).lt)
  have HB := Lib.hid (HK5.out.2.1.trans (b6.mono HSz5.out))
  have htf : w6.there w.heap.size 0 VF.toArray.size := HC.out.there _ (by rw [List.size_toArray, HLf.out]; exact Nat.le_refl _)
  have HOw6 := Lib.hid (own_below HOw5.out b6 (Nat.le_refl _))
  clear b6 hVF hrg HK5 HOw5
  go_wp2_with (refine wpList_store_mid rfl 35 _ _ rfl w.heap.size 0 VF.toArray rfl rfl htf HIf.out HOf.out ?_)
  have hk5 := Bk.sets VF 0 _ _ HC.out
  rw [puts_whole Z.toArray VF HLf.out] at hk5
  refine bodyPost_ret (v := .tuple #[.agg VF.toArray, .nilIface]) ?_ rfl ?_
  · exact results_cell2 rfl rfl rfl (run_loadVar_mid _ w.heap.size 0 35 VF _ hk5.range Try.underlying35 rfl HIf.out)
  · refine ⟨_, by rw [HVF.out], ?_, below_sets _ (Nat.le_refl _) 0 _ HB.out⟩
    have hlw := HSz3.out
    have hls := HSs.out
    rw [show (frP P).exts = R.exts from HPe.out]
    exact own_le (own_sets HOw6.out (by omega) VF 0) HSz3.out
theorem parse_ok (s : ByteArray) (w : World) (hs : s.size ≤ 70000) (h : pcode s = 0) : Calls Try.prog 19 #[.string s] w (GoodP (ppkt s) w) := by
  unfold pcode at h
  by_cases h40 : 40 ≤ s.size
  · rw [dif_pos h40] at h
    have hrr := prC_rest s
    have hll := hdL_lt s
    have hpd : (prP s h40).data = (prC s).rest := rfl
    split at h
    · cases h
    · rename_i h6
      split at h
      · cases h
      · rename_i hb
        split at h
        · rename_i hc; exact absurd h hc
        · rename_i hc
          split at h
          · rename_i hp
            have e : ppkt s = prP s h40 := by unfold ppkt; rw [dif_pos h40, if_neg hp]
            rw [e]
            exact parse_whole s w hs h40 (by omega) hb (by omega) hp
          · rename_i hp
            split at h
            · cases h
            · rename_i h8
              split at h
              · cases h
              · rename_i h9
                have hp2 : (prC s).proto = 44 := by omega
                have e : ppkt s = frP (prP s h40) := by unfold ppkt; rw [dif_pos h40, if_pos hp2]
                rw [e]
                refine parse_fragOk s w hs h40 (by omega) hb (by omega) hp2 (fun W v hv => readFragment_ok _ v W (by rw [hpd]; omega) (by rw [hpd]; omega) hv ?_ ?_)
                · cases hq : (frP (prP s h40)).piece
                  · exact absurd (.inl hq) h9
                  · rfl
                · cases hq : (frP (prP s h40)).rch
                  · exact absurd (.inr hq) h9
                  · rfl
  · rw [dif_neg h40] at h
    cases h
theorem parse_bad (s : ByteArray) (w : World) (hs : s.size ≤ 70000) (h : pcode s ≠ 0) : Calls Try.prog 19 #[.string s] w (Bad (.agg (pk0.vals (.slice none 0 0)).toArray) (pcode s) w) := by
  revert h
  unfold pcode
  intro h
  by_cases h40 : 40 ≤ s.size
  · rw [dif_pos h40] at h ⊢
    have hrr := prC_rest s
    have hll := hdL_lt s
    have hpd : (prP s h40).data = (prC s).rest := rfl
    by_cases h6 : (hdW s : Int) / 268435456 ≠ 6
    · rw [if_pos h6]
      exact parse_first s w hs h40 h6
    · rw [if_neg h6] at h ⊢
      by_cases hb : s.size < 40 + hdL s
      · rw [if_pos hb]
        exact parse_behind s w hs h40 (by omega) hb
      · rw [if_neg hb] at h ⊢
        by_cases hc : (prC s).code ≠ 0
        · rw [if_pos hc]
          exact parse_chain s w hs h40 (by omega) hb hc
        · rw [if_neg hc] at h ⊢
          by_cases hp : (prC s).proto ≠ 44
          · rw [if_pos hp] at h
            exact absurd rfl h
          · rw [if_neg hp] at h ⊢
            by_cases h8 : (prC s).rest.size < 8
            · rw [if_pos h8]
              exact parse_fragBad s w hs h40 (by omega) hb (by omega) (by omega) 7 (fun W v => readFragment_short _ v W (by rw [hpd]; exact h8))
            · rw [if_neg h8] at h ⊢
              by_cases h9 : (frP (prP s h40)).piece = false ∨ (frP (prP s h40)).rch = false
              · rw [if_pos h9]
                refine parse_fragBad s w hs h40 (by omega) hb (by omega) (by omega) 8 (fun W v => ?_)
                by_cases hq : (frP (prP s h40)).piece = false
                · exact readFragment_piece _ v W (by rw [hpd]; omega) (by rw [hpd]; omega) hq
                · have hq2 : (frP (prP s h40)).piece = true := by simpa using hq
                  exact readFragment_reach _ v W (by rw [hpd]; omega) (by rw [hpd]; omega) hq2 (h9.resolve_left hq)
              · rw [if_neg h9] at h
                exact absurd rfl h
  · rw [dif_neg h40]
    exact parse_short s w h40
end Go.Proofs.Ytkihhmnlefekoaa
