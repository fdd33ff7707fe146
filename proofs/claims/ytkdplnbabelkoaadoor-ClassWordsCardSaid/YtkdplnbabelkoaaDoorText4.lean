/-
  Proved here: what the program's Text4 answers.
  Conditions: an address of 4 bytes; the library's table of powers holds what it is laid with.
-/
import Derived.Test.YtkdplnbabelkoaaDoorGrpx
import Derived.Test.YtkdplnbabelkoaaDoorShelf
import Derived.Test.YtkdplnbabelkoaaDoorRead
namespace Go.Proofs.YtkdplnbabelkoaaDoor
open Go.RowKit

theorem below_gr (w : World) (k : Nat) (os : Array Obj) : Below w.heap.size w (Sort.grow (w.drewN k) os) := by
  refine ⟨rfl, rfl, rfl, ?_, fun j hj => ?_⟩
  · show w.heap.size ≤ (w.heap ++ os).size
    simp
  · show (w.heap ++ os)[j]? = w.heap[j]?
    rw [Array.getElem?_append_left hj]
/-- The library's table of powers. -/
def Tb (w : World) : Prop := Lib.TabIs Tryd.prog w "internal/strconv.uint64pow10" .u64 Lib.pow10Tab ∧ 4 < w.heap.size
theorem Tb.below {w w' : World} (h : Tb w) (hb : Below w.heap.size w w') : Tb w' :=
  ⟨var?_below hb (show Tryd.prog.globalNamed "internal/strconv.uint64pow10" = some 4 by kernel_rfl) h.2 h.1, Nat.lt_of_lt_of_le h.2 hb.size⟩
theorem itoa_any (n : Nat) (hn : n < 1000) (w : World) (ht : Tb w) : Calls Tryd.prog 38 #[.int .i64 (n : Int)] w fun e w' => e = .returned (.string ⟨(Lib.itoa (n : Int)).toArray⟩) ∧ Below w.heap.size w w' := by
  refine (Tryd.strconv_Itoa (n : Int) (by omega) (by omega) w ht.1).mono ?_
  rintro e w' ⟨he, k, os, rfl⟩
  exact ⟨he, below_gr w k os⟩
/-- The first words in a row of texts. -/
def stl (ws : List (List UInt8)) (n k : Nat) : List Value := ((ws.take k).map fun l => Value.string ⟨l.toArray⟩) ++ List.replicate (n - k) (.string ⟨#[]⟩)
theorem stl_len (ws : List (List UInt8)) (n k : Nat) (hw : ws.length = n) (hk : k ≤ n) : (stl ws n k).length = n := by
  unfold stl
  rw [List.length_append, List.length_map, List.length_take, List.length_replicate]
  omega
theorem stl_next (ws : List (List UInt8)) (n k : Nat) (hw : ws.length = n) (hk : k < n) : (stl ws n k).set k (.string ⟨(ws.getD k []).toArray⟩) = stl ws n (k + 1) := by
  unfold stl
  have hl : ((ws.take k).map fun l => Value.string ⟨l.toArray⟩).length = k := by rw [List.length_map, List.length_take]; omega
  have e : n - k = (n - (k + 1)) + 1 := by omega
  have hlt : k < ws.length := by omega
  rw [e, List.replicate_succ, List.set_append_right _ _ (by omega), hl, Nat.sub_self, List.set_cons_zero, List.take_succ_eq_append_getElem hlt, List.map_append]
  have e2 : ws.getD k [] = ws[k] := by rw [List.getD_eq_getElem?_getD, List.getElem?_eq_getElem hlt]; rfl
  rw [e2]
  simp
theorem stl_at (ws : List (List UInt8)) (n : Nat) (hw : ws.length = n) (j : Nat) (hj : j < n) : (stl ws n n)[j]? = some (.string ⟨(ws.getD j []).toArray⟩) := by
  unfold stl
  rw [Nat.sub_self, List.replicate_zero, List.append_nil, List.take_of_length_le (by omega), List.getElem?_map, List.getElem?_eq_getElem (by omega), List.getD_eq_getElem?_getD, List.getElem?_eq_getElem (by omega)]
  rfl
theorem stl_is (ws : List (List UInt8)) (n k : Nat) (hw : ws.length = n) (hk : k ≤ n) (j : Nat) (hj : j < n) : ∃ s, (stl ws n k)[j]? = some (.string s) := by
  unfold stl
  by_cases h : j < k
  · rw [List.getElem?_append_left (by rw [List.length_map, List.length_take]; omega), List.getElem?_map, List.getElem?_eq_getElem (by rw [List.length_take]; omega)]
    exact ⟨_, rfl⟩
  · rw [List.getElem?_append_right (by rw [List.length_map, List.length_take]; omega), List.getElem?_replicate, if_pos (by rw [List.length_map, List.length_take]; omega)]
    exact ⟨_, rfl⟩
/-- Texts of lists. -/
def tx (ws : List (List UInt8)) : List ByteArray := ws.map fun l => ⟨l.toArray⟩
theorem tx_lists (ws : List (List UInt8)) : (tx ws).map (fun s => s.data.toList) = ws := by
  unfold tx
  rw [List.map_map]
  conv => rhs; rw [← List.map_id ws]
  apply List.map_congr_left
  intro l _
  simp
theorem jn_len (sep : List UInt8) (l : List (List UInt8)) (m : Nat) (hm : ∀ p ∈ l, p.length ≤ m) : (jn sep l).length ≤ l.length * (m + sep.length) := by
  unfold jn
  induction l with
  | nil => simp
  | cons p r ih =>
    have h1 := hm p (by simp)
    have h2 := ih (fun x hx => hm x (by simp [hx]))
    cases r with
    | nil => simp; omega
    | cons q r =>
      rw [List.intercalate_cons_cons, List.length_append, List.length_append, List.length_cons, Nat.succ_mul]
      omega
/-- Texts that lie in a row are joined. -/
theorem join_any (b o : Nat) (ws : List (List UInt8)) (c : Nat) (sep : ByteArray) (w : World) (hs : sep.size ≤ 8) (hl : ws.length ≤ 8) (hm : ∀ p ∈ ws, p.length ≤ 100) (hc : ws.length ≤ c) (hb : b < w.heap.size) (h : ∀ j, j < ws.length → w.cell? ⟨b, o + j, none⟩ = some (.string ⟨(ws.getD j []).toArray⟩)) :
    Calls Tryd.prog 41 #[.slice (some ⟨b, o, none⟩) ws.length c, .string sep] w fun e w' => e = .returned (.string ⟨(jn (bl sep) ws).toArray⟩) ∧ Below w.heap.size w w' := by
  have hx : (tx ws).length = ws.length := by unfold tx; rw [List.length_map]
  have hj := Tryd.strings_Join b o c (tx ws) sep w (fun j x hx2 => by
    have hj2 : j < ws.length := by
      rcases Nat.lt_or_ge j ws.length with h9 | h9
      · exact h9
      · rw [List.getElem?_eq_none (by rw [hx]; exact h9)] at hx2; cases hx2
    rw [h j hj2]
    unfold tx at hx2
    rw [List.getElem?_map, List.getElem?_eq_getElem hj2] at hx2
    rw [List.getD_eq_getElem?_getD, List.getElem?_eq_getElem hj2, ← Option.some.inj hx2]
    rfl) hb (by rw [hx]; omega) (by rw [hx]; exact hc) (by
    rw [tx_lists]
    have h1 := jn_len (bl sep) ws 100 hm
    have h2 : (bl sep).length ≤ 8 := by rw [bl_len]; exact hs
    have h3 : ws.length * (100 + (bl sep).length) ≤ 8 * 108 := Nat.mul_le_mul hl (by omega)
    show (jn (bl sep) ws).length ≤ _
    omega)
  rw [hx, tx_lists] at hj
  exact hj
/-- An IPv4 address's word. -/
def txt4 (x : List UInt8) : List UInt8 := jn [46] (x.map fun c => Lib.itoa ((c.toNat : Nat) : Int))
theorem itoa_len (n : Nat) (h : n < 256) : (Lib.itoa (n : Int)).length ≤ 3 := by
  have : ∀ k : Fin 256, (Lib.itoa ((k.val : Nat) : Int)).length ≤ 3 := by decide +kernel
  exact this ⟨n, h⟩
theorem Tryd.vi0 (a b c d : Int) (W : World) : (Instr.index 28 (.agg #[.int .u8 a, .int .u8 b, .int .u8 c, .int .u8 d]) (.int .i64 0)).run Tryd.prog W = .ok (.int .u8 a) W := by kernel_rfl
theorem Tryd.vi1 (a b c d : Int) (W : World) : (Instr.index 28 (.agg #[.int .u8 a, .int .u8 b, .int .u8 c, .int .u8 d]) (.int .i64 1)).run Tryd.prog W = .ok (.int .u8 b) W := by kernel_rfl
theorem Tryd.vi2 (a b c d : Int) (W : World) : (Instr.index 28 (.agg #[.int .u8 a, .int .u8 b, .int .u8 c, .int .u8 d]) (.int .i64 2)).run Tryd.prog W = .ok (.int .u8 c) W := by kernel_rfl
theorem Tryd.vi3 (a b c d : Int) (W : World) : (Instr.index 28 (.agg #[.int .u8 a, .int .u8 b, .int .u8 c, .int .u8 d]) (.int .i64 3)).run Tryd.prog W = .ok (.int .u8 d) W := by kernel_rfl
theorem vi_at (x : List UInt8) (hx : x.length = 4) (k : Nat) (hk : k < 4) (W : World) : (Instr.index 28 (.agg (bu x).toArray) (.int .i64 (k : Int))).run Tryd.prog W = .ok (.int .u8 ((x.getD k 0).toNat : Int)) W := by
  match x, hx with
  | [a, b, c, d], _ =>
    rcases k with _ | _ | _ | _ | k
    · exact Tryd.vi0 _ _ _ _ W
    · exact Tryd.vi1 _ _ _ _ W
    · exact Tryd.vi2 _ _ _ _ W
    · exact Tryd.vi3 _ _ _ _ W
    · omega
set_option maxRecDepth 100000 in
set_option maxHeartbeats 4000000 in
theorem text4_any (x : List UInt8) (w : World) (hx : x.length = 4) (ht : Tb w) :
    Calls Tryd.prog 32 #[.agg (bu x).toArray] w fun e w' => e = .returned (.string ⟨(txt4 x).toArray⟩) ∧ Below w.heap.size w w' := by
  obtain ⟨ws, hws⟩ : ∃ ws, ws = x.map fun c => Lib.itoa ((c.toNat : Nat) : Int) := ⟨_, rfl⟩
  have HT : Hid (txt4 x = jn [46] ws) := Lib.hid (by rw [hws]; rfl)
  have HWl : Hid (ws.length = 4) := Lib.hid (by rw [hws, List.length_map, hx])
  have HWm : Hid (∀ p ∈ ws, p.length ≤ 100) := Lib.hid (fun p hp => by
    rw [hws, List.mem_map] at hp
    obtain ⟨c, _, rfl⟩ := hp
    have := itoa_len c.toNat c.toNat_lt
    omega)
  have HWk : Hid (∀ k, k < 4 → ws.getD k [] = Lib.itoa (((x.getD k 0).toNat : Nat) : Int)) := Lib.hid (fun k hk => by
    have hkx : k < x.length := by omega
    rw [hws, List.getD_eq_getElem?_getD, List.getElem?_map, List.getElem?_eq_getElem hkx, List.getD_eq_getElem?_getD, List.getElem?_eq_getElem hkx]
    rfl)
  have HVi := Lib.hid (vi_at x hx)
  have CI := Lib.hid (fun (k : Nat) W (h : Tb W) => itoa_any (x.getD k 0).toNat (by have := (x.getD k 0).toNat_lt; omega) W h)
  have HIX : Hid ((Tryd.prog.info? 28).map (·.size) = some (bu x).length) := Lib.hid (Tryd.infoU4 _ hx)
  obtain ⟨VZ, hVZ⟩ : ∃ VZ, VZ = stl ws 4 0 := ⟨_, rfl⟩
  have hz : ([.string ⟨#[]⟩, .string ⟨#[]⟩, .string ⟨#[]⟩, .string ⟨#[]⟩] : List Value).toArray = VZ.toArray := by rw [hVZ]; rfl
  have HK1 := Lib.hid (kp2 w 28 89 (bu x) VZ)
  have HTb := Lib.hid ht
  have HVZ := Lib.hid hVZ
  clear hws hx ht hVZ
  generalize txt4 x = TX at *
  generalize bu x = X at *
  generalize hw1 : (w.alloc (.cells X.toArray 28)).alloc (.cells VZ.toArray 89) = w1 at *
  go_enter Tryd.func32, Tryd.ntmps32
  go_upto_region 2 with (fail)
  clear hw1 hz
  have hr := HK1.out.tl.hd.range
  go_wp2_with (refine wpList_load_mid rfl 28 _ rfl w.heap.size 0 rfl X _ hr Tryd.underlying28 rfl HIX.out ?_)
  go_loopw [7] (fun i wr => ∃ k : Nat, k ≤ 4 ∧ i = .int .i64 k ∧ Kp w w.heap.size [(w.heap.size + 1, 89, stl ws 4 k), (w.heap.size, 28, X)] wr) (fun i _ => 4 - (intOf i).toNat)
  case atStart => exact ⟨0, Nat.zero_le _, rfl, by rw [← HVZ.out]; exact HK1.out⟩
  case round =>
    obtain ⟨k, hk, rfl, hK⟩ := hrel
    have HK := Lib.hid hK
    clear hK HK1 hr HVZ
    by_cases hlt : k < 4
    · have i4 : ((k : Nat) : Int) < 4 := by omega
      have hvi := fun W => HVi.out k hlt W
      have CI1 := Lib.hid (CI.out k)
      have HW1 := Lib.hid (HWk.out k hlt)
      have HNx := Lib.hid (stl_next ws 4 k HWl.out hlt)
      have HIs := Lib.hid (stl_is ws 4 k HWl.out hk k hlt)
      rw [HW1.out] at HNx
      have hc9 := (x.getD k 0).toNat_lt
      generalize (x.getD k 0).toNat = c at *
      have jc9 : (c : Int) < 256 := by omega
      have jc0 : (0 : Int) ≤ (c : Int) := by omega
      have ew : wrap64 ((c : Nat) : Int) = (c : Int) := by unfold wrap64; omega
      generalize Lib.itoa ((c : Nat) : Int) = s at *
      go_upto_region 5 with (fail)
      go_wp2_with fail
      refine (CI1.out _ (HTb.out.below HK.out.2.1)).mono ?_
      rintro e w9 ⟨rfl, hb9⟩
      have hK9 := HK.out.below hb9 (Nat.le_refl _)
      obtain ⟨s0, hs0⟩ := HIs.out
      have cc := hK9.hd.at hs0
      have cz := hK9.hd.z k
      have hk2 := hK9.set1 (by intro y hy; rw [List.mem_singleton] at hy; rw [hy]; show w.heap.size ≠ w.heap.size + 1; omega) (by omega) k (.string ⟨s.toArray⟩)
      rw [HNx.out] at hk2
      have HK2 := Lib.hid hk2
      clear hk2 hK9 hb9 HK hs0
      go_wp2_with fail
      go_roundw
      case rel => exact ⟨k + 1, hlt, by go_num, HK2.out⟩
      case measure => simp [intOf]; omega
    · obtain rfl : k = 4 := by omega
      have e4 : ((4 : Nat) : Int) = 4 := rfl
      have CJ := Lib.hid (join_any (w.heap.size + 1) 0 ws 4 ⟨#[46]⟩ wr (by decide) (by rw [HWl.out]; decide) HWm.out (by rw [HWl.out]; exact Nat.le_refl _) HK.out.hd.lt (fun j hj => by
        rw [Nat.zero_add]
        exact HK.out.hd.at (stl_at ws 4 HWl.out j (by rw [← HWl.out]; exact hj))))
      rw [HWl.out] at CJ
      have HB := Lib.hid HK.out.2.1
      have HBz := Lib.hid HK.out.2.2
      simp only [e4] at *
      go_wp2_with fail
      refine CJ.out.mono ?_
      rintro e w9 ⟨rfl, hb9⟩
      have HB9 := Lib.hid (HB.out.trans (hb9.mono HBz.out))
      clear hb9 CJ HB HK
      go_wp2_with fail
      go_ret
      exact ⟨by rw [HT.out]; rfl, HB9.out⟩
end Go.Proofs.YtkdplnbabelkoaaDoor
