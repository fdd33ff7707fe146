/-
  Proved here: what the library's FormatInt answers in base 16 of a number below 65536.
  Conditions: the library's table holds 4 at place 15.
-/
import Derived.Test.YtkdplnbabelkoaaDoorHx
import Derived.Test.YtkdplnbabelkoaaDoorClear
import Derived.Test.YtkdplnbabelkoaaDoorEqs
import Derived.Laws.BytesArg
import Derived.Laws.Bits64b
import Derived.Laws.ResultCell
namespace Go.Proofs.YtkdplnbabelkoaaDoor
open Go.RowKit

theorem Tryd.dig0 (W : World) : (Instr.index 9 (.string ⟨#[48, 49, 50, 51, 52, 53, 54, 55, 56, 57, 97, 98, 99, 100, 101, 102, 103, 104, 105, 106, 107, 108, 109, 110, 111, 112, 113, 114, 115, 116, 117, 118, 119, 120, 121, 122]⟩) (.int .u64 0)).run Tryd.prog W = .ok (.int .u8 ((dgt 0).toNat : Int)) W := by kernel_rfl
theorem Tryd.dig1 (W : World) : (Instr.index 9 (.string ⟨#[48, 49, 50, 51, 52, 53, 54, 55, 56, 57, 97, 98, 99, 100, 101, 102, 103, 104, 105, 106, 107, 108, 109, 110, 111, 112, 113, 114, 115, 116, 117, 118, 119, 120, 121, 122]⟩) (.int .u64 1)).run Tryd.prog W = .ok (.int .u8 ((dgt 1).toNat : Int)) W := by kernel_rfl
theorem Tryd.dig2 (W : World) : (Instr.index 9 (.string ⟨#[48, 49, 50, 51, 52, 53, 54, 55, 56, 57, 97, 98, 99, 100, 101, 102, 103, 104, 105, 106, 107, 108, 109, 110, 111, 112, 113, 114, 115, 116, 117, 118, 119, 120, 121, 122]⟩) (.int .u64 2)).run Tryd.prog W = .ok (.int .u8 ((dgt 2).toNat : Int)) W := by kernel_rfl
theorem Tryd.dig3 (W : World) : (Instr.index 9 (.string ⟨#[48, 49, 50, 51, 52, 53, 54, 55, 56, 57, 97, 98, 99, 100, 101, 102, 103, 104, 105, 106, 107, 108, 109, 110, 111, 112, 113, 114, 115, 116, 117, 118, 119, 120, 121, 122]⟩) (.int .u64 3)).run Tryd.prog W = .ok (.int .u8 ((dgt 3).toNat : Int)) W := by kernel_rfl
theorem Tryd.dig4 (W : World) : (Instr.index 9 (.string ⟨#[48, 49, 50, 51, 52, 53, 54, 55, 56, 57, 97, 98, 99, 100, 101, 102, 103, 104, 105, 106, 107, 108, 109, 110, 111, 112, 113, 114, 115, 116, 117, 118, 119, 120, 121, 122]⟩) (.int .u64 4)).run Tryd.prog W = .ok (.int .u8 ((dgt 4).toNat : Int)) W := by kernel_rfl
theorem Tryd.dig5 (W : World) : (Instr.index 9 (.string ⟨#[48, 49, 50, 51, 52, 53, 54, 55, 56, 57, 97, 98, 99, 100, 101, 102, 103, 104, 105, 106, 107, 108, 109, 110, 111, 112, 113, 114, 115, 116, 117, 118, 119, 120, 121, 122]⟩) (.int .u64 5)).run Tryd.prog W = .ok (.int .u8 ((dgt 5).toNat : Int)) W := by kernel_rfl
theorem Tryd.dig6 (W : World) : (Instr.index 9 (.string ⟨#[48, 49, 50, 51, 52, 53, 54, 55, 56, 57, 97, 98, 99, 100, 101, 102, 103, 104, 105, 106, 107, 108, 109, 110, 111, 112, 113, 114, 115, 116, 117, 118, 119, 120, 121, 122]⟩) (.int .u64 6)).run Tryd.prog W = .ok (.int .u8 ((dgt 6).toNat : Int)) W := by kernel_rfl
theorem Tryd.dig7 (W : World) : (Instr.index 9 (.string ⟨#[48, 49, 50, 51, 52, 53, 54, 55, 56, 57, 97, 98, 99, 100, 101, 102, 103, 104, 105, 106, 107, 108, 109, 110, 111, 112, 113, 114, 115, 116, 117, 118, 119, 120, 121, 122]⟩) (.int .u64 7)).run Tryd.prog W = .ok (.int .u8 ((dgt 7).toNat : Int)) W := by kernel_rfl
theorem Tryd.dig8 (W : World) : (Instr.index 9 (.string ⟨#[48, 49, 50, 51, 52, 53, 54, 55, 56, 57, 97, 98, 99, 100, 101, 102, 103, 104, 105, 106, 107, 108, 109, 110, 111, 112, 113, 114, 115, 116, 117, 118, 119, 120, 121, 122]⟩) (.int .u64 8)).run Tryd.prog W = .ok (.int .u8 ((dgt 8).toNat : Int)) W := by kernel_rfl
theorem Tryd.dig9 (W : World) : (Instr.index 9 (.string ⟨#[48, 49, 50, 51, 52, 53, 54, 55, 56, 57, 97, 98, 99, 100, 101, 102, 103, 104, 105, 106, 107, 108, 109, 110, 111, 112, 113, 114, 115, 116, 117, 118, 119, 120, 121, 122]⟩) (.int .u64 9)).run Tryd.prog W = .ok (.int .u8 ((dgt 9).toNat : Int)) W := by kernel_rfl
theorem Tryd.dig10 (W : World) : (Instr.index 9 (.string ⟨#[48, 49, 50, 51, 52, 53, 54, 55, 56, 57, 97, 98, 99, 100, 101, 102, 103, 104, 105, 106, 107, 108, 109, 110, 111, 112, 113, 114, 115, 116, 117, 118, 119, 120, 121, 122]⟩) (.int .u64 10)).run Tryd.prog W = .ok (.int .u8 ((dgt 10).toNat : Int)) W := by kernel_rfl
theorem Tryd.dig11 (W : World) : (Instr.index 9 (.string ⟨#[48, 49, 50, 51, 52, 53, 54, 55, 56, 57, 97, 98, 99, 100, 101, 102, 103, 104, 105, 106, 107, 108, 109, 110, 111, 112, 113, 114, 115, 116, 117, 118, 119, 120, 121, 122]⟩) (.int .u64 11)).run Tryd.prog W = .ok (.int .u8 ((dgt 11).toNat : Int)) W := by kernel_rfl
theorem Tryd.dig12 (W : World) : (Instr.index 9 (.string ⟨#[48, 49, 50, 51, 52, 53, 54, 55, 56, 57, 97, 98, 99, 100, 101, 102, 103, 104, 105, 106, 107, 108, 109, 110, 111, 112, 113, 114, 115, 116, 117, 118, 119, 120, 121, 122]⟩) (.int .u64 12)).run Tryd.prog W = .ok (.int .u8 ((dgt 12).toNat : Int)) W := by kernel_rfl
theorem Tryd.dig13 (W : World) : (Instr.index 9 (.string ⟨#[48, 49, 50, 51, 52, 53, 54, 55, 56, 57, 97, 98, 99, 100, 101, 102, 103, 104, 105, 106, 107, 108, 109, 110, 111, 112, 113, 114, 115, 116, 117, 118, 119, 120, 121, 122]⟩) (.int .u64 13)).run Tryd.prog W = .ok (.int .u8 ((dgt 13).toNat : Int)) W := by kernel_rfl
theorem Tryd.dig14 (W : World) : (Instr.index 9 (.string ⟨#[48, 49, 50, 51, 52, 53, 54, 55, 56, 57, 97, 98, 99, 100, 101, 102, 103, 104, 105, 106, 107, 108, 109, 110, 111, 112, 113, 114, 115, 116, 117, 118, 119, 120, 121, 122]⟩) (.int .u64 14)).run Tryd.prog W = .ok (.int .u8 ((dgt 14).toNat : Int)) W := by kernel_rfl
theorem Tryd.dig15 (W : World) : (Instr.index 9 (.string ⟨#[48, 49, 50, 51, 52, 53, 54, 55, 56, 57, 97, 98, 99, 100, 101, 102, 103, 104, 105, 106, 107, 108, 109, 110, 111, 112, 113, 114, 115, 116, 117, 118, 119, 120, 121, 122]⟩) (.int .u64 15)).run Tryd.prog W = .ok (.int .u8 ((dgt 15).toNat : Int)) W := by kernel_rfl
theorem dig_at (k : Nat) (h : k < 16) (W : World) : (Instr.index 9 (.string ⟨#[48, 49, 50, 51, 52, 53, 54, 55, 56, 57, 97, 98, 99, 100, 101, 102, 103, 104, 105, 106, 107, 108, 109, 110, 111, 112, 113, 114, 115, 116, 117, 118, 119, 120, 121, 122]⟩) (.int .u64 (k : Int))).run Tryd.prog W = .ok (.int .u8 ((dgt k).toNat : Int)) W := by
  rcases k with _ | _ | _ | _ | _ | _ | _ | _ | _ | _ | _ | _ | _ | _ | _ | _ | k
  · exact Tryd.dig0 W
  · exact Tryd.dig1 W
  · exact Tryd.dig2 W
  · exact Tryd.dig3 W
  · exact Tryd.dig4 W
  · exact Tryd.dig5 W
  · exact Tryd.dig6 W
  · exact Tryd.dig7 W
  · exact Tryd.dig8 W
  · exact Tryd.dig9 W
  · exact Tryd.dig10 W
  · exact Tryd.dig11 W
  · exact Tryd.dig12 W
  · exact Tryd.dig13 W
  · exact Tryd.dig14 W
  · exact Tryd.dig15 W
  · omega
theorem and_15 (u : Nat) (h : u < 65536) : bits .and .u64 (u : Int) 15 = ((u % 16 : Nat) : Int) := by
  have h1 := bits_and_u64_nat u 15 (by omega) (by omega)
  rw [show u &&& 15 = u % 16 from Nat.and_two_pow_sub_one_eq_mod u 4] at h1
  exact h1
/-- The table's place that the number 16 asks for. -/
def Db (w : World) : Prop := w.cell? ⟨7, 15, none⟩ = some (.int .u8 4)
theorem Db.below {w w' : World} (h : Db w) (hb : Below w.heap.size w w') : Db w' := (hb.cell (World.block_lt_of_cell? w _ h)).trans h
set_option maxRecDepth 100000 in
set_option maxHeartbeats 1000000 in
theorem tz64_any (w : World) (hc : Db w) : Calls Tryd.prog 88 #[.int .u64 16] w fun e w' => e = .returned (.int .i64 4) ∧ w = w' := by
  have hc2 : w.cell? ⟨7, 15, none⟩ = some (.int .u8 4) := hc
  clear hc
  have e15 : IntKind.u64.wrap (bits BinOp.and IntKind.u64 16 (IntKind.u64.wrap (-16)) * 285870213051353865) / 288230376151711744 = 15 := by decide +kernel
  go_enter Tryd.func88, Tryd.ntmps88
  go_wp2_with fail
  go_ret
  exact ⟨rfl, rfl⟩
theorem tz_any (w : World) (hc : Db w) : Calls Tryd.prog 80 #[.int .u64 16] w fun e w' => e = .returned (.int .i64 4) ∧ w = w' := by
  go_enter Tryd.func80, Tryd.ntmps80
  go_wp2_with fail
  refine (tz64_any w hc).mono ?_
  rintro e w' ⟨rfl, rfl⟩
  go_wp2_with fail
  go_ret
  exact ⟨rfl, rfl⟩
theorem pow2_any (w : World) : Calls Tryd.prog 79 #[.int .i64 16] w fun e w' => e = .returned (.bool true) ∧ w = w' := by
  go_enter Tryd.func79, Tryd.ntmps79
  go_wp2_with fail
  go_ret
  exact ⟨rfl, rfl⟩
/-- The written bytes behind noughts. -/
def tl65 (t : List UInt8) : List UInt8 := List.replicate (65 - t.length) 0 ++ t
theorem tl65_len (t : List UInt8) (h : t.length ≤ 65) : (tl65 t).length = 65 := by unfold tl65; simp; omega
theorem tl65_set (t : List UInt8) (d : UInt8) (h : t.length < 65) : (tl65 t).set (65 - (t.length + 1)) d = tl65 (d :: t) := by
  unfold tl65
  have e : 65 - t.length = (65 - (t.length + 1)) + 1 := by omega
  rw [e, List.replicate_succ', List.append_assoc, List.set_append_right _ _ (by simp), List.length_replicate, Nat.sub_self]
  rfl
theorem tl65_tail (t : List UInt8) (h : t.length ≤ 65) (i : Nat) (hi : i < t.length) : (tl65 t).getD (65 - t.length + i) 0 = t.getD i 0 := by
  unfold tl65
  rw [List.getD_eq_getElem?_getD, List.getD_eq_getElem?_getD, List.getElem?_append_right (by simp), List.length_replicate]
  congr 2
  omega
theorem str_iu (l : List UInt8) : strOfNums (iu l) = ⟨l.toArray⟩ := by
  unfold strOfNums iu
  rw [List.map_map]
  have e : (List.map ((fun n => UInt8.ofNat n.toNat) ∘ fun c : UInt8 => ((c.toNat : Nat) : Int)) l) = l := by
    conv => rhs; rw [← List.map_id l]
    apply List.map_congr_left
    intro c _
    show UInt8.ofNat ((c.toNat : Nat) : Int).toNat = c
    simp
  rw [e]
/-- A row's tail as a text. -/
theorem tail_conv (w : World) (b : Nat) (T : TypeId) (t : List UInt8) (hk : Bk w b T (bu (tl65 t)).toArray) (h : t.length ≤ 65) (c : Nat) : (convert 84 9 (.slice (some ⟨b, 65 - t.length, none⟩) t.length c)).run Tryd.prog w = .ok (.string ⟨t.toArray⟩) w := by
  have h1 := run_convert_bytes_arg w 84 5 Tryd.underlying84 Tryd.underlying5 b (65 - t.length) t.length c (iu t) (iu_len t) (fun i hi => by
    have h2 := hk.at (i := 65 - t.length + i) (bu_at (tl65 t) _ (by rw [tl65_len t h]; omega))
    rw [tl65_tail t h i hi] at h2
    have e : (iu t).getD i 0 = ((t.getD i 0).toNat : Int) := by
      unfold iu
      rw [List.getD_eq_getElem?_getD, List.getElem?_map, List.getElem?_eq_getElem hi, List.getD_eq_getElem?_getD, List.getElem?_eq_getElem hi]
      rfl
    rw [e]
    exact h2) 9 Tryd.underlying9
  rw [str_iu] at h1
  exact h1
theorem Tryd.len65 : Tryd.prog.arrayLen 120 = 65 := by kernel_rfl
theorem Tryd.und65 : Tryd.prog.underlying 120 = some (.array (Tryd.prog.arrayLen 120) (Tryd.prog.elem 120)) := by kernel_rfl
theorem Tryd.siz65 (W : World) : (sizeOf (Tryd.prog.elem 120)).run Tryd.prog W = .ok 1 W := by kernel_rfl
theorem slice65 (b p : Nat) (hp : p < 65) (W : World) : (Instr.sliceAt 120 (.pointer (some ⟨b, 0, none⟩)) (some (.int .i64 (p : Int))) none none).run Tryd.prog W = .ok (.slice (some ⟨b, p, none⟩) (65 - p) (65 - p)) W := by
  have h := run_sliceAt_array_l W 120 ⟨b, 0, none⟩ Tryd.und65 .i64 (p : Int) (by omega) (by rw [Tryd.len65]; omega)
  rw [h, Tryd.siz65, Tryd.len65]
  unfold slicedAt
  have e : ((p : Int)).toNat = p := rfl
  rw [e]
  simp only [Result.andThen_ok]
  rw [if_neg (by omega), Addr.add_mid, Nat.mul_one, Nat.zero_add]
set_option maxRecDepth 100000 in
set_option maxHeartbeats 8000000 in
theorem fmtbits_any (n : Nat) (hn : n < 65536) (w : World) (hc : Db w) :
    Calls Tryd.prog 71 #[.slice none 0 0, .int .u64 (n : Int), .int .i64 16, .bool false, .bool false] w fun e w' => e = .returned (.tuple #[.slice none 0 0, .string ⟨(hexd n).toArray⟩]) ∧ Below w.heap.size w w' := by
  obtain ⟨VZ, hVZ⟩ : ∃ VZ, VZ = bu (tl65 []) := ⟨_, rfl⟩
  have hz : Tryd.zeroCells120 = VZ.toArray := by rw [hVZ]; rfl
  have HHz := Lib.hid hz
  have HK1 := Lib.hid ((Kp.start w).new 120 VZ)
  have HDb := Lib.hid (hc.below ((Below.refl w.heap.size w).alloc (Nat.le_refl _) (.cells VZ.toArray 120)))
  have HVZ := Lib.hid hVZ
  obtain ⟨H, hH⟩ : ∃ H, H = hexd n := ⟨_, rfl⟩
  rw [← hH]
  have HH : Hid (H = hexd n ++ []) := Lib.hid (by rw [hH, List.append_nil])
  clear hH
  clear hVZ hc
  generalize hw1 : w.alloc (.cells VZ.toArray 120) = w1 at *
  go_enter Tryd.func71, Tryd.ntmps71
  go_upto_region 4 with (fail)
  clear hw1 hz
  go_upto_region 11 with (first | (go_at_call 79; refine (pow2_any _).mono ?_; rintro e w9 ⟨rfl, rfl⟩) | (go_at_call 80; refine (tz_any _ HDb.out).mono ?_; rintro e w9 ⟨rfl, rfl⟩))
  go_loopw [1, 13] (fun u i wr => ∃ (un p : Nat) (t : List UInt8), u = .int .u64 (un : Int) ∧ i = .int .i64 (p : Int) ∧ p + t.length = 65 ∧ Kp w w.heap.size [(w.heap.size, 120, bu (tl65 t))] wr ∧ Hid (H = hexd un ++ t) ∧ Hid (un < 16 ^ (4 - t.length) ∧ t.length ≤ 3)) (fun u _ _ => (intOf u).toNat)
  case atStart => exact ⟨n, 65, [], rfl, rfl, rfl, by rw [← HVZ.out]; exact HK1.out, HH, Lib.hid ⟨hn, by decide⟩⟩
  case round =>
    obtain ⟨un, p, t, rfl, rfl, hpt, hK, HHt, HB⟩ := hrel
    have HK := Lib.hid hK
    have HPt := Lib.hid hpt
    have hB := HB.out
    have hu9 : un < 65536 := by
      have h1 : 16 ^ (4 - t.length) ≤ 16 ^ 4 := Nat.pow_le_pow_right (by omega) (by omega)
      have := hB.1
      omega
    clear hK HK1 HH HDb HVZ hn
    obtain ⟨p1, hp1⟩ : ∃ p1, p = p1 + 1 := ⟨p - 1, by omega⟩
    have HP1 : Hid (p1 + (t.length + 1) = 65) := Lib.hid (by omega)
    have e1 : ((p : Nat) : Int) - 1 = (p1 : Int) := by omega
    have j65 : (p1 : Int) < 65 := by omega
    have HSet : Hid (∀ d, (tl65 t).set p1 d = tl65 (d :: t)) := Lib.hid (fun d => by
      have e : p1 = 65 - (t.length + 1) := by omega
      rw [e]
      exact tl65_set t d (by omega))
    have HTl : Hid ((tl65 t).length = 65) := Lib.hid (tl65_len t (by omega))
    have cc := HK.out.hd.at (i := p1) (bu_at _ p1 (by rw [HTl.out]; omega))
    have cz := HK.out.hd.z p1
    generalize (tl65 t).getD p1 0 = dx at *
    by_cases hge : 16 ≤ un
    · have ige : (16 : Int) ≤ (un : Int) := by omega
      have dge := decide_eq_true ige
      have hk := and_15 un hu9
      have HS2 : Hid (H = hexd (un / 16) ++ (dgt (un % 16) :: t)) := Lib.hid (by
        rw [HHt.out, hexd_big un (by omega), List.append_assoc]
        rfl)
      have HB2 : Hid (un / 16 < 16 ^ (4 - (t.length + 1)) ∧ t.length + 1 ≤ 3) := Lib.hid (by
        have h3 : t.length ≤ 2 := by
          rcases Nat.lt_or_ge t.length 3 with h | h
          · omega
          · have e : t.length = 3 := by omega
            rw [e] at hB
            have := hB.1
            omega
        refine ⟨?_, by omega⟩
        have e : 4 - t.length = (4 - (t.length + 1)) + 1 := by omega
        have h5 := hB.1
        rw [e, Nat.pow_succ] at h5
        omega)
      have hdi := fun W => dig_at (un % 16) (by omega) W
      have e16 : ((un : Nat) : Int) / 16 = ((un / 16 : Nat) : Int) := by omega
      have hk16 : un % 16 < 16 := by omega
      have HLt : Hid (un / 16 < un) := Lib.hid (by omega)
      generalize un / 16 = u2 at *
      generalize un % 16 = k at *
      have hk2 := HK.out.set1 (l := []) (by intro y hy; cases hy) (Nat.le_refl _) p1 (.int .u8 ((dgt k).toNat : Int))
      rw [← bu_set, HSet.out] at hk2
      have HK2 := Lib.hid hk2
      clear hk2 hk16 hB HB HHt hpt hp1 hu9
      generalize dgt k = d at *
      go_wp2_with fail
      go_roundw
      case rel => exact ⟨u2, p1, d :: t, rfl, rfl, HP1.out, HK2.out, HS2, HB2⟩
      case measure =>
        have := HLt.out
        simp [intOf]
        omega
    · have ige : ¬ (16 : Int) ≤ (un : Int) := by omega
      have dge := decide_eq_false ige
      have hdi := fun W => dig_at un (by omega) W
      have HX : Hid (H = dgt un :: t) := Lib.hid (by rw [HHt.out, hexd_small un (by omega)]; rfl)
      have hk2 := HK.out.set1 (l := []) (by intro y hy; cases hy) (Nat.le_refl _) p1 (.int .u8 ((dgt un).toNat : Int))
      rw [← bu_set, HSet.out] at hk2
      have HK2 := Lib.hid hk2
      have hcv := fun c => tail_conv _ w.heap.size 120 (dgt un :: t) hk2.hd (by simp; omega) c
      have e5 : 65 - (dgt un :: t).length = p1 := by simp; omega
      have e6 : (dgt un :: t).length = 65 - p1 := by simp; omega
      rw [e5, e6] at hcv
      have hsl := fun W => slice65 w.heap.size p1 (by omega) W
      clear hk2 hB HB HHt hpt hp1 hu9 e5 e6
      generalize dgt un = d at *
      go_wp2_with fail
      go_ret2
      exact ⟨by rw [HX.out]; rfl, HK2.out.2.1⟩
set_option maxRecDepth 100000 in
set_option maxHeartbeats 4000000 in
theorem ifmtint_any (n : Nat) (hn : n < 65536) (w : World) (hc : Db w) :
    Calls Tryd.prog 58 #[.int .i64 (n : Int), .int .i64 16] w fun e w' => e = .returned (.string ⟨(hexd n).toArray⟩) ∧ Below w.heap.size w w' := by
  have CB := Lib.hid (fmtbits_any n hn w hc)
  generalize hexd n = H at *
  have h0 : ¬ ((n : Nat) : Int) < 0 := by omega
  have d0 := decide_eq_false h0
  have ew : IntKind.u64.wrap ((n : Nat) : Int) = (n : Int) := by unfold IntKind.wrap IntKind.bits IntKind.signed; simp; omega
  go_enter Tryd.func58, Tryd.ntmps58
  go_wp2_with fail
  refine CB.out.mono ?_
  rintro e w' ⟨rfl, hb⟩
  have HB := Lib.hid hb
  clear hb
  go_wp2_with fail
  go_ret
  exact ⟨rfl, HB.out⟩
theorem fmtint_any (n : Nat) (hn : n < 65536) (w : World) (hc : Db w) :
    Calls Tryd.prog 34 #[.int .i64 (n : Int), .int .i64 16] w fun e w' => e = .returned (.string ⟨(hexd n).toArray⟩) ∧ Below w.heap.size w w' := by
  have CB := Lib.hid (ifmtint_any n hn w hc)
  generalize hexd n = H at *
  go_enter Tryd.func34, Tryd.ntmps34
  go_wp2_with fail
  refine CB.out.mono ?_
  rintro e w' ⟨rfl, hb⟩
  have HB := Lib.hid hb
  clear hb
  go_wp2_with fail
  go_ret
  exact ⟨rfl, HB.out⟩
end Go.Proofs.YtkdplnbabelkoaaDoor
