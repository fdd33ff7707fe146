/-
  Proved here: what the program's read answers.
  Conditions: a style of a base up to 16, of at most 4 digits and 8 numbers.
-/
import Derived.Test.YtkdplnbabelkoaaDoorDigit
import Derived.Test.YtkdplnbabelkoaaDoorParse4
import Derived.Lib.OthersKept
import Derived.WalkSmall
import Derived.Laws.RangeAny
namespace Go.Proofs.YtkdplnbabelkoaaDoor
open Go.RowKit

theorem Tryd.infoInt : (Tryd.prog.info? 3).map (fun i => (i.zero, i.size, i.bytes)) = some (some (.int .i64 0), 1, 8) := by kernel_rfl
theorem Tryd.infoSty : (Tryd.prog.info? 74).map (·.size) = some 6 := by kernel_rfl
theorem own_below {w w' : World} {base B : Nat} {e : TypeId} {size : Nat} {v : Value} {n : Nat} {xs : List Value} (h : w.ownsRow base e size v n xs) (hb : Below B w w') (hB : w.heap.size ≤ B) : w'.ownsRow base e size v n xs := by
  refine ⟨h.1, ?_⟩
  rcases h.2 with h0 | ⟨g, cap, cur, hv, hg, hh, hrest⟩
  · exact .inl h0
  · refine .inr ⟨g, cap, cur, hv, hg, ?_, hrest⟩
    have hlt := (h.lt g (by rw [hv]; rfl)).2
    exact (hb.block g (by omega)).trans hh
theorem own_len {w : World} {base : Nat} {e : TypeId} {size : Nat} {v : Value} {n : Nat} {xs : List Value} (h : w.ownsRow base e size v n xs) (ty : TypeId) (W : World) : (Builtin.len_ #[67] ty #[v]).run Tryd.prog W = .ok (.int .i64 (n : Int)) W := by
  rcases h.2 with ⟨rfl, rfl⟩ | ⟨g, cap, cur, rfl, _⟩
  · exact run_len_slice W 67 ty none 0 0 (by kernel_rfl)
  · exact run_len_slice W 67 ty _ n cap (by kernel_rfl)
theorem own_setcells {w : World} {base : Nat} {e : TypeId} {size : Nat} {v : Value} {n : Nat} {xs : List Value} (h : w.ownsRow base e size v n xs) {b : Nat} (hb : b < base) (o : Nat) (vs : List Value) : (w.setCells b o vs).ownsRow base e size v n xs := by
  refine ⟨h.1, ?_⟩
  rcases h.2 with h0 | ⟨g, cap, cur, hv, hg, hh, hrest⟩
  · exact .inl h0
  · exact .inr ⟨g, cap, cur, hv, hg, (heap_sets vs (by omega) o w).trans hh, hrest⟩
def iv (l : List Int) : List Value := l.map (Value.int .i64)
theorem iv_at (l : List Int) (i : Nat) (h : i < l.length) : (iv l)[i]? = some (.int .i64 (l.getD i 0)) := by
  unfold iv
  rw [List.getElem?_map, List.getElem?_eq_getElem h, List.getD_eq_getElem?_getD, List.getElem?_eq_getElem h]
  rfl
/-- A row of numbers in a block. -/
def IntC (g : Nat) (l : List Int) (w : World) : Prop := ∀ i, i < l.length → w.cell? ⟨g, i, none⟩ = some (.int .i64 (l.getD i 0))
theorem IntC.set {g b : Nat} {l : List Int} {w : World} (h : IntC g l w) (hb : g ≠ b) (i : Nat) (x : Value) : IntC g l (w.setCell ⟨b, i, none⟩ x) := fun j hj => by
  have h2 := h j hj
  have h3 := Below.heap_setCell w ⟨b, i, none⟩ x g hb
  unfold World.cell? at h2 ⊢
  rw [h3]
  exact h2
theorem IntC.below {g : Nat} {l : List Int} {w w' : World} (h : IntC g l w) (hb : Below w.heap.size w w') : IntC g l w' := fun i hi => (hb.cell (World.block_lt_of_cell? w _ (h i hi))).trans (h i hi)
theorem own_intc {w : World} {B g n cap : Nat} {l : List Int} (h : w.ownsRow B 3 1 (.slice (some ⟨g, 0, none⟩) n cap) n (iv l)) : IntC g l w := fun i hi => by
  have := h.cells (g := g) rfl i _ (iv_at l i hi)
  simpa [Addr.add_mid] using this
theorem Kp.iter {w0 w : World} {B : Nat} {l : List (Nat × TypeId × List Value)} (h : Kp w0 B l w) {k : Nat} (hk : ∀ x ∈ l, x.1 ≠ k) (hB : B ≤ k) (s : ByteArray) (p : Nat) : Kp w0 B l (w.iterAt k s p) :=
  ⟨fun x hx => (Lib.iterAt_other w k x.1 s p (hk x hx)).trans (h.1 x hx), Lib.below_iterAt h.2.1 hB s p, by rw [Lib.iterAt_size]; exact h.2.2⟩
theorem kp_cons {w0 w : World} {B b : Nat} {T : TypeId} {V : List Value} {l : List (Nat × TypeId × List Value)} (h : Bk w b T V.toArray) (k : Kp w0 B l w) : Kp w0 B ((b, T, V) :: l) w := by
  refine ⟨fun x hx => ?_, k.2⟩
  rcases List.mem_cons.1 hx with rfl | hx
  · exact h
  · exact k.1 x hx
theorem Kp.over {w0 w : World} {B b : Nat} {T : TypeId} {V : List Value} {l : List (Nat × TypeId × List Value)} (h : Kp w0 B ((b, T, V) :: l) w) (hne : ∀ x ∈ l, x.1 ≠ b) (hB : B ≤ b) (V' : List Value) (hl : V'.length = V.length) : Kp w0 B ((b, T, V') :: l) (w.setCells b 0 V') := by
  have h2 := Bk.sets V' 0 _ _ h.hd
  rw [puts_whole V.toArray V' (by simpa using hl)] at h2
  exact kp_cons h2 (h.tl.sets hne hB 0 V')
/-- What read answers: a slice of the numbers and whether they may be. -/
def RdA (B : Nat) (R : Option (List Nat)) (v : Value) (ok : Bool) (w : World) : Prop := match R with
  | none => v = .slice none 0 0 ∧ ok = false
  | some ns => ok = true ∧ ns.length ≤ 8 ∧ 0 < ns.length ∧ ∃ g cap, v = .slice (some ⟨g, 0, none⟩) ns.length cap ∧ B ≤ g ∧ IntC g (ints' ns) w ∧ ∀ n ∈ ns, n < 65536
theorem own_nots {w : World} {b : Nat} {T1 T2 : TypeId} {V1 V2 : List Value} {e : TypeId} {size : Nat} {v : Value} {n : Nat} {xs : List Value} (h : w.ownsRow (b + 1 + 1 + 1) e size v n xs) : ∀ x ∈ [(b + 1, T1, V1), (b, T2, V2)], some x.1 ≠ v.ownBlock := by
  intro x hx he
  have h1 := (h.lt x.1 he.symm).1
  simp at hx
  rcases hx with rfl | rfl
  · have : b + 1 + 1 + 1 ≤ b + 1 := h1
    omega
  · have : b + 1 + 1 + 1 ≤ b := h1
    omega
theorem own_noti {w : World} {b : Nat} {e : TypeId} {size : Nat} {v : Value} {n : Nat} {xs : List Value} (h : w.ownsRow (b + 1 + 1 + 1) e size v n xs) : some (b + 1 + 1) ≠ v.ownBlock := fun he => by have := (h.lt _ he.symm).1; omega
theorem own_base {w : World} {b : Nat} {e : TypeId} {size : Nat} {v : Value} {n : Nat} {xs : List Value} (h : w.ownsRow (b + 1 + 1 + 1) e size v n xs) : ∀ k, v.ownBlock = some k → b ≤ k := fun k hk => by have := (h.lt k hk).1; omega
theorem rd_end (st : Sty) (ns : List Nat) (v d : Nat) : rd st [] ns v d = if whole st v d = true then some (ns ++ [v]) else none := rfl
theorem rd_mark (st : Sty) (c : UInt8) (r : List UInt8) (ns : List Nat) (v d : Nat) (hc : c = st.mark) : rd st (c :: r) ns v d = if whole st v d = true ∧ ns.length + 1 ≠ st.count then rd st r (ns ++ [v]) 0 0 else none := by
  conv => lhs; unfold rd
  rw [if_pos hc]
theorem rd_bad (st : Sty) (c : UInt8) (r : List UInt8) (ns : List Nat) (v d : Nat) (hc : c ≠ st.mark) (hx : nx1 st v d (dg c : Int) = true) : rd st (c :: r) ns v d = none := by
  unfold rd
  rw [if_neg hc, nx1_nxt, if_pos hx]
theorem rd_next (st : Sty) (c : UInt8) (r : List UInt8) (ns : List Nat) (v d : Nat) (hc : c ≠ st.mark) (hx : nx1 st v d (dg c : Int) = false) : rd st (c :: r) ns v d = rd st r ns (v * st.base + dg c) (d + 1) := by
  conv => lhs; unfold rd
  rw [if_neg hc, nx1_nxt, if_neg (by rw [hx]; simp)]
theorem nx1_high (st : Sty) (v d : Nat) (r : Int) (hb : st.base ≤ 16) (h : 128 ≤ r) : nx1 st v d (dgI r) = true := by
  unfold nx1
  rw [dgI_high r h]
  have : (st.base : Int) ≤ 16 := by omega
  simp [this]
theorem nx1_good (st : Sty) (v d : Nat) (c : UInt8) (hx : nx1 st v d (dg c : Int) = false) (hb : st.base ≤ 16) (hv : v < 16 ^ d) (hd : d ≤ st.digits) : v * st.base + dg c < 16 ^ (d + 1) ∧ d + 1 ≤ st.digits := by
  unfold nx1 at hx
  simp only [Bool.or_eq_false_iff, decide_eq_false_iff_not, beq_eq_false_iff_ne] at hx
  have h1 : v * st.base ≤ v * 16 := Nat.mul_le_mul_left _ hb
  have h2 := hx.1
  have h3 := hx.2.1
  rw [Nat.pow_succ]
  constructor
  · omega
  · omega
theorem pow_in (d g v : Nat) (hv : v < 16 ^ d) (hd : d ≤ g) (hg : g ≤ 4) : v < 65536 := by
  have : 16 ^ d ≤ 16 ^ 4 := Nat.pow_le_pow_right (by omega) (by omega)
  omega
def nv (v d : Nat) : List Value := [.int .i64 (v : Int), .int .i64 (d : Int)]
theorem nv_there {w0 w : World} {B b : Nat} {T : TypeId} {v d : Nat} {l : List (Nat × TypeId × List Value)} (h : Kp w0 B ((b, T, nv v d) :: l) w) : w.there b 0 2 := h.hd.there 2 (by simp [nv])
theorem nv_one (v d : Nat) : (nv v d).toArray.all (·.oneCell') = true := by simp [nv, Value.oneCell']
theorem sty_list (st : Sty) : ∃ VS : List Value, VS.toArray = st.vals ∧ VS.length = 6 ∧ VS[0]? = some (.int .i32 (st.mark.toNat : Int)) ∧ VS[5]? = some (.int .i64 (st.count : Int)) := ⟨st.vals.toList, rfl, rfl, rfl, rfl⟩
set_option maxRecDepth 100000 in
set_option maxHeartbeats 4000000 in
theorem read_any (st : Sty) (s : ByteArray) (w : World) (hb : st.base ≤ 16) (hg : st.digits ≤ 4) (hc0 : 0 < st.count) (hc9 : st.count ≤ 8) (hm : st.mark.toNat < 128) :
    Calls Tryd.prog 46 #[.agg st.vals, .string s] w fun e w' => ∃ v ok, e = .returned (.tuple #[v, .bool ok]) ∧ RdA w.heap.size (rd st (bl s) [] 0 0) v ok w' ∧ Below w.heap.size w w' := by
  obtain ⟨i0, hi0, hz0, hz1, hz2⟩ := info_parts Tryd.infoInt
  have HI := Lib.hid hi0
  have H0 := Lib.hid hz0
  have H1 := Lib.hid hz1
  have H2 := Lib.hid hz2
  clear hi0 hz0 hz1 hz2
  obtain ⟨VS, hVS, hVl, hV0, hV5⟩ := sty_list st
  have HR : Hid (rd st (bl s) [] 0 0 = rd st ((bl s).drop 0) [] 0 0) := Lib.hid rfl
  generalize rd st (bl s) [] 0 0 = R at *
  have CW := Lib.hid (fun v d W => whole_any st v d W)
  have CN := Lib.hid (fun v d r W h0 h9 hv hd => next_any st v d r W h0 h9 hv hb hd)
  rw [← hVS] at CW CN ⊢
  have HIS : Hid ((Tryd.prog.info? 74).map (·.size) = some VS.length) := Lib.hid (by rw [hVl]; exact Tryd.infoSty)
  have HIN : Hid (∀ v d, (Tryd.prog.info? 100).map (·.size) = some (nv v d).length) := Lib.hid (fun v d => Tryd.infoNum)
  have HK0 := Lib.hid ((kp2 w 74 100 VS (nv 0 0)).alloc (.stringIter s 0))
  have HIt0 : Hid ((((w.alloc (.cells VS.toArray 74)).alloc (.cells (nv 0 0).toArray 100)).iter s 0).heap[w.heap.size + 1 + 1]? = some (.stringIter s 0)) := Lib.hid (by
    have h := World.iter_heap ((w.alloc (.cells VS.toArray 74)).alloc (.cells (nv 0 0).toArray 100)) s 0
    have e : ((w.alloc (.cells VS.toArray 74)).alloc (.cells (nv 0 0).toArray 100)).heap.size = w.heap.size + 1 + 1 := by simp
    rwa [e] at h)
  have HS0 : Hid (w.heap.size + 1 + 1 + 1 ≤ (((w.alloc (.cells VS.toArray 74)).alloc (.cells (nv 0 0).toArray 100)).alloc (.stringIter s 0)).heap.size) := Lib.hid (by simp)
  have HV0 := Lib.hid hV0
  have HV5 := Lib.hid hV5
  clear hVS hVl hV0 hV5
  have Hbase := Lib.hid hb
  have Hdig := Lib.hid hg
  have Hcnt := Lib.hid hc0
  have Hcnt9 := Lib.hid hc9
  have Hmk := Lib.hid hm
  clear hb hg hc0 hc9 hm
  go_enter Tryd.func46, Tryd.ntmps46
  go_wp2_with fail
  go_loopw [6] (fun v wr => ∃ (k : Nat) (ns : List Nat) (vv d : Nat), k ≤ s.size ∧ wr.ownsRow (w.heap.size + 1 + 1 + 1) 3 1 v ns.length (iv (ints' ns)) ∧ Kp w w.heap.size [(w.heap.size + 1, 100, nv vv d), (w.heap.size, 74, VS)] wr ∧ wr.heap[w.heap.size + 1 + 1]? = some (.stringIter s k) ∧ Hid (R = rd st ((bl s).drop k) ns vv d) ∧ Hid (vv < 16 ^ d ∧ d ≤ st.digits) ∧ Hid (ns.length < st.count) ∧ Hid (∀ n ∈ ns, n < 65536) ∧ w.heap.size + 1 + 1 + 1 ≤ wr.heap.size) (fun _ wr => s.size - wr.iterPos (w.heap.size + 1 + 1))
  case atStart => exact ⟨0, [], 0, 0, Nat.zero_le _, ⟨rfl, .inl ⟨rfl, rfl⟩⟩, HK0.out, HIt0.out, HR, Lib.hid ⟨by decide, Nat.zero_le _⟩, Hcnt, Lib.hid (fun n hn => (by cases hn)), HS0.out⟩
  case round =>
    obtain ⟨k, ns, vv, d, hk, hO, hK, hIt, HRk, HVd, HNl, HNb, hsz⟩ := hrel
    have HO := Lib.hid hO
    have HK := Lib.hid hK
    have HIt := Lib.hid hIt
    have HSz := Lib.hid hsz
    clear hO hK hIt hsz HK0 HR HIt0 HS0
    have HItw := HIt
    have HP := Lib.hid (fun h => pow_in d st.digits vv HVd.out.1 HVd.out.2 h)
    by_cases hlt : k < s.size
    · by_cases ha : (s[k]).toNat < 128
      · have hnx0 := fun ty => Lib.run_next_ascii_at (P := Tryd.prog) wr (w.heap.size + 1 + 1) s k ty HIt.out hlt ha
        have hO1 := ownsRow_iterAt HO.out (k := w.heap.size + 1 + 1) (by omega) s (k + 1)
        have hK1 := HK.out.iter (k := w.heap.size + 1 + 1) (by intro x hx; simp at hx; rcases hx with rfl | rfl <;> (show _ ≠ _; omega)) (by omega) s (k + 1)
        have hI1 := Lib.iterAt_heap wr (w.heap.size + 1 + 1) s k (k + 1) HIt.out
        have hS1 := Lib.iterAt_size wr (w.heap.size + 1 + 1) s (k + 1)
        generalize wr.iterAt (w.heap.size + 1 + 1) s (k + 1) = w1 at *
        have HO1 := Lib.hid hO1
        have HK1 := Lib.hid hK1
        have HI1 := Lib.hid hI1
        have HS1 := Lib.hid (show w.heap.size + 1 + 1 + 1 ≤ w1.heap.size by rw [hS1]; exact HSz.out)
        clear hO1 hK1 hI1 hS1 HO HK HIt HSz
        have c0 := HK1.out.tl.hd.at HV0.out
        have hrS := HK1.out.tl.hd.range
        have hrN := HK1.out.hd.range
        have hdr := bl_drop s k hlt
        have HLt := Lib.hid hlt
        by_cases hc : s[k] = st.mark
        · have hlen := fun ty W => own_len HO1.out ty W
          have jc0 : (0 : Int) < (st.count : Int) := by have := Hcnt.out; omega
          have jc9 : (st.count : Int) ≤ 8 := by have := Hcnt9.out; omega
          have hcb : (((s[k]).toNat : Int) == (st.mark.toNat : Int)) = true := by rw [hc]; exact beq_self_eq_true _
          have HRm : Hid (R = if whole st vv d = true ∧ ns.length + 1 ≠ st.count then rd st ((bl s).drop (k + 1)) (ns ++ [vv]) 0 0 else none) := Lib.hid (by rw [HRk.out, hdr]; exact rd_mark st _ _ ns vv d hc)
          clear HRk hdr hc
          by_cases hw : whole st vv d = true
          · have CW1 := Lib.hid (fun W => CW.out vv d W)
            rw [hw] at CW1
            by_cases hn : ns.length + 1 = st.count
            · have nc : (((ns.length : Nat) : Int) == (st.count : Int) - 1) = true := by rw [beq_iff_eq]; omega
              have HRn : Hid (R = none) := Lib.hid (by rw [HRm.out, if_neg (fun h => h.2 hn)])
              clear HRm hn hw
              go_wp2_with (first | (refine wpList_load_mid rfl 74 _ rfl w.heap.size 0 rfl VS _ hrS Tryd.underlying74 rfl HIS.out ?_) | (refine wpList_load_mid rfl 100 _ rfl (w.heap.size + 1) 0 rfl (nv vv d) _ hrN Tryd.underlying100 rfl (HIN.out vv d) ?_) | (go_at_call 64; refine (CW1.out _).mono ?_; rintro e w9 ⟨rfl, hb9⟩; have HK9 := Lib.hid (HK1.out.below hb9 (Nat.le_refl _)); have HO9 := Lib.hid (own_below HO1.out hb9 (Nat.le_refl _)); have HI9 := Lib.hid ((hb9.block _ (Array.getElem?_eq_some_iff.1 HI1.out).1).trans HI1.out); have HS9 := Lib.hid (Nat.le_trans HS1.out hb9.size); have c5 := HK9.out.tl.hd.at HV5.out; have cv : w9.cell? ⟨w.heap.size + 1, 0, none⟩ = some (.int .i64 (vv : Int)) := HK9.out.hd.at (i := 0) rfl; clear hb9 c0 hrS hrN HK1 HO1 HI1 HS1))
              go_ret2
              exact ⟨_, _, rfl, by rw [HRn.out]; exact ⟨rfl, rfl⟩, HK9.out.2.1⟩
            · have nc : (((ns.length : Nat) : Int) == (st.count : Int) - 1) = false := by rw [beq_eq_false_iff_ne]; omega
              have HRn : Hid (R = rd st ((bl s).drop (k + 1)) (ns ++ [vv]) 0 0) := Lib.hid (by rw [HRm.out, if_pos ⟨hw, hn⟩])
              have HNe := Lib.hid hn
              clear HRm hn hw
              go_wp2_with (first | (refine wpList_load_mid rfl 74 _ rfl w.heap.size 0 rfl VS _ hrS Tryd.underlying74 rfl HIS.out ?_) | (refine wpList_load_mid rfl 100 _ rfl (w.heap.size + 1) 0 rfl (nv vv d) _ hrN Tryd.underlying100 rfl (HIN.out vv d) ?_) | (go_at_call 64; refine (CW1.out _).mono ?_; rintro e w9 ⟨rfl, hb9⟩; have HK9 := Lib.hid (HK1.out.below hb9 (Nat.le_refl _)); have HO9 := Lib.hid (own_below HO1.out hb9 (Nat.le_refl _)); have HI9 := Lib.hid ((hb9.block _ (Array.getElem?_eq_some_iff.1 HI1.out).1).trans HI1.out); have HS9 := Lib.hid (Nat.le_trans HS1.out hb9.size); have c5 := HK9.out.tl.hd.at HV5.out; have cv : w9.cell? ⟨w.heap.size + 1, 0, none⟩ = some (.int .i64 (vv : Int)) := HK9.out.hd.at (i := 0) rfl; clear hb9 c0 hrS hrN HK1 HO1 HI1 HS1) | (at_builtin; have HX1 : Hid (ns.length + 1 ≤ maxLen) := Lib.hid (by have := HNl.out; have := Hcnt9.out; unfold maxLen; omega); have HX2 : Hid ((ns.length + 1) * 8 ≤ 140737488355328) := Lib.hid (by have := HNl.out; have := Hcnt9.out; omega); have HX3 : Hid (w.heap.size + 1 + 1 + 1 ≤ (w9.alloc (.cells #[.int .i64 (vv : Int)] 3)).heap.size) := Lib.hid (by have := HS9.out; simp; omega); refine wpList_append_lies _ rfl _ _ _ rfl (w.heap.size + 1 + 1 + 1) 3 i0 _ 1 8 Tryd.underlying67 HI.out H0.out H1.out H2.out rfl Nat.one_pos _ ns.length (iv (ints' ns)) rfl (HO9.out.alloc _) ⟨w9.heap.size, 0, none⟩ 1 1 [.int .i64 (vv : Int)] rfl rfl (World.news_of_block (cs := #[.int .i64 (vv : Int)]) (t := 3) (fr := (0, 0)) (heap_alloc_new w9 _)) (by simp [Value.oneCell']) Nat.one_pos HX1.out HX2.out HX3.out (w9.heap.size + 1) (by simp) ?_; intro gg cap9 w2 hown2 hgrow hat hlt9; have HK2 := Lib.hid ((HK9.out.alloc (.cells #[.int .i64 (vv : Int)] 3)).grown hgrow (own_nots HO9.out) (own_base HO9.out)); have ht2 := nv_there HK2.out) | (refine wpList_store_mid rfl 100 _ _ rfl (w.heap.size + 1) 0 (nv 0 0).toArray rfl rfl ht2 Tryd.infoNum (nv_one 0 0) ?_))
              have HI2 := Lib.hid ((hgrow.block _ (by have h := (Array.getElem?_eq_some_iff.1 HI9.out).1; simp; omega) (own_noti HO9.out)).trans ((Below.heap_alloc w9 _ _ (Array.getElem?_eq_some_iff.1 HI9.out).1).trans HI9.out))
              have HS2 := Lib.hid (Nat.le_trans HX3.out hgrow.size)
              have hO3 : w2.ownsRow (w.heap.size + 1 + 1 + 1) 3 1 (.slice (some ⟨gg, 0, none⟩) (ns.length + 1) cap9) (ns ++ [vv]).length (iv (ints' (ns ++ [vv]))) := by
                have e1 : (ns ++ [vv]).length = ns.length + 1 := by simp
                have e2 : iv (ints' (ns ++ [vv])) = iv (ints' ns) ++ [.int .i64 (vv : Int)] := by unfold iv ints'; simp
                rw [e1, e2]
                exact hown2
              have HO3 := Lib.hid (own_setcells hO3 (b := w.heap.size + 1) (by omega) 0 (nv 0 0))
              have HK3 := Lib.hid (HK2.out.over (by intro x hx; rw [List.mem_singleton] at hx; rw [hx]; show w.heap.size ≠ w.heap.size + 1; omega) (by omega) (nv 0 0) rfl)
              have HI3 : Hid ((w2.setCells (w.heap.size + 1) 0 (nv 0 0)).heap[w.heap.size + 1 + 1]? = some (.stringIter s (k + 1))) := Lib.hid ((heap_sets (nv 0 0) (by omega) 0 w2).trans HI2.out)
              have HS3 : Hid (w.heap.size + 1 + 1 + 1 ≤ (w2.setCells (w.heap.size + 1) 0 (nv 0 0)).heap.size) := Lib.hid (by rw [size_sets]; exact HS2.out)
              have HNb2 : Hid (∀ n ∈ ns ++ [vv], n < 65536) := Lib.hid (fun n hn => by
                rcases List.mem_append.1 hn with h | h
                · exact HNb.out n h
                · rw [List.mem_singleton.1 h]; exact HP.out Hdig.out)
              clear hown2 hgrow hat hlt9 ht2 hO3
              go_wp2_with fail
              simp only [Act.put]
              go_roundw
              case rel => exact ⟨k + 1, ns ++ [vv], 0, 0, HLt.out, HO3.out, HK3.out, HI3.out, HRn, Lib.hid ⟨by decide, Nat.zero_le _⟩, Lib.hid (by have := HNl.out; have := HNe.out; simp; omega), HNb2, HS3.out⟩
              case measure =>
                have := HLt.out
                rw [iterPos_of HI3.out, iterPos_of HItw.out]
                omega
          · have CW1 := Lib.hid (fun W => CW.out vv d W)
            rw [show whole st vv d = false by simpa using hw] at CW1
            have HRn : Hid (R = none) := Lib.hid (by rw [HRm.out, if_neg (fun h => hw h.1)])
            clear HRm hw
            go_wp2_with (first | (refine wpList_load_mid rfl 74 _ rfl w.heap.size 0 rfl VS _ hrS Tryd.underlying74 rfl HIS.out ?_) | (refine wpList_load_mid rfl 100 _ rfl (w.heap.size + 1) 0 rfl (nv vv d) _ hrN Tryd.underlying100 rfl (HIN.out vv d) ?_) | (go_at_call 64; refine (CW1.out _).mono ?_; rintro e w9 ⟨rfl, hb9⟩; have HK9 := Lib.hid (HK1.out.below hb9 (Nat.le_refl _)); have HO9 := Lib.hid (own_below HO1.out hb9 (Nat.le_refl _)); have HI9 := Lib.hid ((hb9.block _ (Array.getElem?_eq_some_iff.1 HI1.out).1).trans HI1.out); have HS9 := Lib.hid (Nat.le_trans HS1.out hb9.size); have c5 := HK9.out.tl.hd.at HV5.out; have cv : w9.cell? ⟨w.heap.size + 1, 0, none⟩ = some (.int .i64 (vv : Int)) := HK9.out.hd.at (i := 0) rfl; clear hb9 c0 hrS hrN HK1 HO1 HI1 HS1))
            go_ret2
            exact ⟨_, _, rfl, by rw [HRn.out]; exact ⟨rfl, rfl⟩, HK9.out.2.1⟩
        · have hcb : (((s[k]).toNat : Int) == (st.mark.toNat : Int)) = false := by
            rw [beq_eq_false_iff_ne]
            intro h
            exact hc (UInt8.toNat_inj.1 (by omega))
          have hcn0 : (0 : Int) ≤ ((s[k]).toNat : Int) := by omega
          have hcn9 : ((s[k]).toNat : Int) ≤ 2147483647 := by omega
          have CN0 := fun W => CN.out vv d ((s[k]).toNat : Int) W hcn0 hcn9 (by have := HP.out Hdig.out; omega) (by have := HVd.out.2; have := Hdig.out; omega)
          rw [dgI_dg] at CN0
          by_cases hx : nx1 st vv d (dg s[k] : Int) = true
          · rw [if_pos hx] at CN0
            have CN1 := Lib.hid CN0
            have HRn : Hid (R = none) := Lib.hid (by rw [HRk.out, hdr]; exact rd_bad st _ _ _ _ _ hc hx)
            clear CN0 HRk hdr hx hc hcn0 hcn9
            go_wp2_with (first | (refine wpList_load_mid rfl 74 _ rfl w.heap.size 0 rfl VS _ hrS Tryd.underlying74 rfl HIS.out ?_) | (refine wpList_load_mid rfl 100 _ rfl (w.heap.size + 1) 0 rfl (nv vv d) _ hrN Tryd.underlying100 rfl (HIN.out vv d) ?_) | (go_at_call 65; refine (CN1.out _).mono ?_; rintro e w9 ⟨rfl, hb9⟩; have HK9 := Lib.hid (HK1.out.below hb9 (Nat.le_refl _)); have HO9 := Lib.hid (own_below HO1.out hb9 (Nat.le_refl _)); have HI9 := Lib.hid ((hb9.block _ (Array.getElem?_eq_some_iff.1 HI1.out).1).trans HI1.out); have HS9 := Lib.hid (Nat.le_trans HS1.out hb9.size); have ht9 := nv_there HK9.out; clear hb9 c0 hrS hrN HK1 HO1 HI1 HS1) | (refine wpList_store_mid rfl 100 _ _ rfl (w.heap.size + 1) 0 (nv 0 0).toArray rfl rfl ht9 Tryd.infoNum (nv_one 0 0) ?_))
            go_ret2
            exact ⟨_, _, rfl, by rw [HRn.out]; exact ⟨rfl, rfl⟩, below_sets _ (by omega) 0 _ HK9.out.2.1⟩
          · have hxf : nx1 st vv d (dg s[k] : Int) = false := by simpa using hx
            rw [if_neg hx] at CN0
            have HRn : Hid (R = rd st ((bl s).drop (k + 1)) ns (vv * st.base + dg s[k]) (d + 1)) := Lib.hid (by rw [HRk.out, hdr]; exact rd_next st _ _ _ _ _ hc hxf)
            have HVd2 := Lib.hid (nx1_good st vv d s[k] hxf Hbase.out HVd.out.1 HVd.out.2)
            have eV : ((vv : Int) * (st.base : Int) + (dg s[k] : Int)) = ((vv * st.base + dg s[k] : Nat) : Int) := by simp
            have eD : ((d : Nat) : Int) + 1 = ((d + 1 : Nat) : Int) := by simp
            rw [eV, eD] at CN0
            have CN1 := Lib.hid CN0
            clear CN0 HRk hdr hx hxf hc hcn0 hcn9 eV eD
            generalize vv * st.base + dg s[k] = v3 at *
            generalize d + 1 = d3 at *
            go_upto_region 12 with (first | (refine wpList_load_mid rfl 74 _ rfl w.heap.size 0 rfl VS _ hrS Tryd.underlying74 rfl HIS.out ?_) | (refine wpList_load_mid rfl 100 _ rfl (w.heap.size + 1) 0 rfl (nv vv d) _ hrN Tryd.underlying100 rfl (HIN.out vv d) ?_) | (go_at_call 65; refine (CN1.out _).mono ?_; rintro e w9 ⟨rfl, hb9⟩; have HK9 := Lib.hid (HK1.out.below hb9 (Nat.le_refl _)); have HO9 := Lib.hid (own_below HO1.out hb9 (Nat.le_refl _)); have HI9 := Lib.hid ((hb9.block _ (Array.getElem?_eq_some_iff.1 HI1.out).1).trans HI1.out); have HS9 := Lib.hid (Nat.le_trans HS1.out hb9.size); have ht9 := nv_there HK9.out; clear hb9 c0 hrS hrN HK1 HO1 HI1 HS1) | (refine wpList_store_mid rfl 100 _ _ rfl (w.heap.size + 1) 0 (nv v3 d3).toArray rfl rfl ht9 Tryd.infoNum (nv_one v3 d3) ?_))
            have HO3 := Lib.hid (own_setcells HO9.out (b := w.heap.size + 1) (by omega) 0 (nv v3 d3))
            have HK3 := Lib.hid (HK9.out.over (by intro x hx; rw [List.mem_singleton] at hx; rw [hx]; show w.heap.size ≠ w.heap.size + 1; omega) (by omega) (nv v3 d3) rfl)
            have HI3 : Hid ((w9.setCells (w.heap.size + 1) 0 (nv v3 d3)).heap[w.heap.size + 1 + 1]? = some (.stringIter s (k + 1))) := Lib.hid ((heap_sets (nv v3 d3) (by omega) 0 w9).trans HI9.out)
            have HS3 : Hid (w.heap.size + 1 + 1 + 1 ≤ (w9.setCells (w.heap.size + 1) 0 (nv v3 d3)).heap.size) := Lib.hid (by rw [size_sets]; exact HS9.out)
            clear ht9
            go_wp2_with fail
            go_roundw
            case rel => exact ⟨k + 1, ns, v3, d3, HLt.out, HO3.out, HK3.out, HI3.out, HRn, HVd2, HNl, HNb, HS3.out⟩
            case measure =>
              have := HLt.out
              rw [iterPos_of HI3.out, iterPos_of HItw.out]
              omega
      · have ha2 : 128 ≤ (s[k]).toNat := by omega
        obtain ⟨hr0, hr1⟩ := decode_high s k hlt ha2
        have hr9 := decode_le s k
        have hnx0 := fun ty => Lib.run_next_any_at (P := Tryd.prog) wr (w.heap.size + 1 + 1) s k ty HIt.out hlt
        have hO1 := ownsRow_iterAt HO.out (k := w.heap.size + 1 + 1) (by omega) s (k + (Utf8.decode s k).2)
        have hK1 := HK.out.iter (k := w.heap.size + 1 + 1) (by intro x hx; simp at hx; rcases hx with rfl | rfl <;> (show _ ≠ _; omega)) (by omega) s (k + (Utf8.decode s k).2)
        have hI1 := Lib.iterAt_heap wr (w.heap.size + 1 + 1) s k (k + (Utf8.decode s k).2) HIt.out
        have hS1 := Lib.iterAt_size wr (w.heap.size + 1 + 1) s (k + (Utf8.decode s k).2)
        generalize wr.iterAt (w.heap.size + 1 + 1) s (k + (Utf8.decode s k).2) = w1 at *
        generalize (Utf8.decode s k).2 = wd at *
        have HO1 := Lib.hid hO1
        have HK1 := Lib.hid hK1
        have HI1 := Lib.hid hI1
        have HS1 := Lib.hid (show w.heap.size + 1 + 1 + 1 ≤ w1.heap.size by rw [hS1]; exact HSz.out)
        clear hO1 hK1 hI1 hS1 HO HK HIt HSz
        have c0 := HK1.out.tl.hd.at HV0.out
        have hrS := HK1.out.tl.hd.range
        have hrN := HK1.out.hd.range
        have hmk := Hmk.out
        generalize (Utf8.decode s k).1 = r at *
        have hcn0 : (0 : Int) ≤ (r : Int) := by omega
        have hcn9 : (r : Int) ≤ 2147483647 := by omega
        have hcb : ((r : Int) == (st.mark.toNat : Int)) = false := by rw [beq_eq_false_iff_ne]; omega
        have CN0 := fun W => CN.out vv d (r : Int) W hcn0 hcn9 (by have := HP.out Hdig.out; omega) (by have := HVd.out.2; have := Hdig.out; omega)
        rw [if_pos (nx1_high st vv d (r : Int) Hbase.out (by omega))] at CN0
        have CN1 := Lib.hid CN0
        have HRn : Hid (R = none) := Lib.hid (by
          rw [HRk.out, bl_drop s k hlt]
          refine rd_bad st _ _ _ _ _ (fun h => by rw [h] at ha2; omega) ?_
          rw [← dgI_dg]
          exact nx1_high st vv d _ Hbase.out (by omega))
        clear CN0 HRk ha ha2 hr0 hr1 hr9 hmk hcn0 hcn9 hlt
        go_wp2_with (first | (refine wpList_load_mid rfl 74 _ rfl w.heap.size 0 rfl VS _ hrS Tryd.underlying74 rfl HIS.out ?_) | (refine wpList_load_mid rfl 100 _ rfl (w.heap.size + 1) 0 rfl (nv vv d) _ hrN Tryd.underlying100 rfl (HIN.out vv d) ?_) | (go_at_call 65; refine (CN1.out _).mono ?_; rintro e w9 ⟨rfl, hb9⟩; have HK9 := Lib.hid (HK1.out.below hb9 (Nat.le_refl _)); have HO9 := Lib.hid (own_below HO1.out hb9 (Nat.le_refl _)); have HI9 := Lib.hid ((hb9.block _ (Array.getElem?_eq_some_iff.1 HI1.out).1).trans HI1.out); have HS9 := Lib.hid (Nat.le_trans HS1.out hb9.size); have ht9 := nv_there HK9.out; clear hb9 c0 hrS hrN HK1 HO1 HI1 HS1) | (refine wpList_store_mid rfl 100 _ _ rfl (w.heap.size + 1) 0 (nv 0 0).toArray rfl rfl ht9 Tryd.infoNum (nv_one 0 0) ?_))
        go_ret2
        exact ⟨_, _, rfl, by rw [HRn.out]; exact ⟨rfl, rfl⟩, below_sets _ (by omega) 0 _ HK9.out.2.1⟩
    · have hnx0 := fun ty => Lib.run_next_end_at (P := Tryd.prog) wr (w.heap.size + 1 + 1) s k ty HIt.out hlt
      obtain rfl : k = s.size := by omega
      have hrS := HK.out.tl.hd.range
      have hrN := HK.out.hd.range
      have HRm : Hid (R = if whole st vv d = true then some (ns ++ [vv]) else none) := Lib.hid (by rw [HRk.out, bl_drop_end]; rfl)
      have CW0 := fun W => CW.out vv d W
      by_cases hw : whole st vv d = true
      · rw [hw] at CW0
        have CW1 := Lib.hid CW0
        have HRn : Hid (R = some (ns ++ [vv])) := Lib.hid (by rw [HRm.out, if_pos hw])
        clear CW0 HRm hw hlt
        go_wp2_with (first | (refine wpList_load_mid rfl 74 _ rfl w.heap.size 0 rfl VS _ hrS Tryd.underlying74 rfl HIS.out ?_) | (refine wpList_load_mid rfl 100 _ rfl (w.heap.size + 1) 0 rfl (nv vv d) _ hrN Tryd.underlying100 rfl (HIN.out vv d) ?_) | (go_at_call 64; refine (CW1.out _).mono ?_; rintro e w9 ⟨rfl, hb9⟩; have HK9 := Lib.hid (HK.out.below hb9 (Nat.le_refl _)); have HO9 := Lib.hid (own_below HO.out hb9 (Nat.le_refl _)); have HI9 := Lib.hid ((hb9.block _ (Array.getElem?_eq_some_iff.1 HIt.out).1).trans HIt.out); have HS9 := Lib.hid (Nat.le_trans HSz.out hb9.size); have cv : w9.cell? ⟨w.heap.size + 1, 0, none⟩ = some (.int .i64 (vv : Int)) := HK9.out.hd.at (i := 0) rfl; clear hb9 hrS hrN HK HO HIt HSz) | (at_builtin; have HX1 : Hid (ns.length + 1 ≤ maxLen) := Lib.hid (by have := HNl.out; have := Hcnt9.out; unfold maxLen; omega); have HX2 : Hid ((ns.length + 1) * 8 ≤ 140737488355328) := Lib.hid (by have := HNl.out; have := Hcnt9.out; omega); have HX3 : Hid (w.heap.size + 1 + 1 + 1 ≤ (w9.alloc (.cells #[.int .i64 (vv : Int)] 3)).heap.size) := Lib.hid (by have := HS9.out; simp; omega); refine wpList_append_lies _ rfl _ _ _ rfl (w.heap.size + 1 + 1 + 1) 3 i0 _ 1 8 Tryd.underlying67 HI.out H0.out H1.out H2.out rfl Nat.one_pos _ ns.length (iv (ints' ns)) rfl (HO9.out.alloc _) ⟨w9.heap.size, 0, none⟩ 1 1 [.int .i64 (vv : Int)] rfl rfl (World.news_of_block (cs := #[.int .i64 (vv : Int)]) (t := 3) (fr := (0, 0)) (heap_alloc_new w9 _)) (by simp [Value.oneCell']) Nat.one_pos HX1.out HX2.out HX3.out (w9.heap.size + 1) (by simp) ?_; intro gg cap9 w2 hown2 hgrow hat hlt9; have HK2 := Lib.hid ((HK9.out.alloc (.cells #[.int .i64 (vv : Int)] 3)).grown hgrow (own_nots HO9.out) (own_base HO9.out)); have ht2 := nv_there HK2.out))
        have hO3 : w2.ownsRow (w.heap.size + 1 + 1 + 1) 3 1 (.slice (some ⟨gg, 0, none⟩) (ns.length + 1) cap9) (ns.length + 1) (iv (ints' (ns ++ [vv]))) := by
          have e2 : iv (ints' (ns ++ [vv])) = iv (ints' ns) ++ [.int .i64 (vv : Int)] := by unfold iv ints'; simp
          rw [e2]
          exact hown2
        have HG := Lib.hid (hO3.lt gg rfl).1
        have HIc := Lib.hid (own_intc hO3)
        have HNb2 : Hid (∀ n ∈ ns ++ [vv], n < 65536) := Lib.hid (fun n hn => by
          rcases List.mem_append.1 hn with h | h
          · exact HNb.out n h
          · rw [List.mem_singleton.1 h]; exact HP.out Hdig.out)
        clear hown2 hgrow hat hlt9 ht2 hO3
        go_ret2
        refine ⟨_, _, rfl, ?_, HK2.out.2.1⟩
        rw [HRn.out]
        have h1 := HNl.out
        have h2 := Hcnt9.out
        exact ⟨rfl, by simp; omega, by simp, gg, cap9, by simp, by have := HG.out; omega, HIc.out, HNb2.out⟩
      · rw [show whole st vv d = false by simpa using hw] at CW0
        have CW1 := Lib.hid CW0
        have HRn : Hid (R = none) := Lib.hid (by rw [HRm.out, if_neg hw])
        clear CW0 HRm hw hlt
        go_wp2_with (first | (refine wpList_load_mid rfl 74 _ rfl w.heap.size 0 rfl VS _ hrS Tryd.underlying74 rfl HIS.out ?_) | (refine wpList_load_mid rfl 100 _ rfl (w.heap.size + 1) 0 rfl (nv vv d) _ hrN Tryd.underlying100 rfl (HIN.out vv d) ?_) | (go_at_call 64; refine (CW1.out _).mono ?_; rintro e w9 ⟨rfl, hb9⟩; have HK9 := Lib.hid (HK.out.below hb9 (Nat.le_refl _)); have HO9 := Lib.hid (own_below HO.out hb9 (Nat.le_refl _)); have HI9 := Lib.hid ((hb9.block _ (Array.getElem?_eq_some_iff.1 HIt.out).1).trans HIt.out); have HS9 := Lib.hid (Nat.le_trans HSz.out hb9.size); have cv : w9.cell? ⟨w.heap.size + 1, 0, none⟩ = some (.int .i64 (vv : Int)) := HK9.out.hd.at (i := 0) rfl; clear hb9 hrS hrN HK HO HIt HSz))
        go_ret2
        exact ⟨_, _, rfl, by rw [HRn.out]; exact ⟨rfl, rfl⟩, HK9.out.2.1⟩
end Go.Proofs.YtkdplnbabelkoaaDoor
