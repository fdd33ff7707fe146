/-
  Proved here: what the document's held and Martian4 answer.
  Conditions: texts of at most 70000 bytes, an address of 4 bytes.
-/
import Derived.Test.YtkdplnbabelkoaaDoorNet4
namespace Go.Proofs.YtkdplnbabelkoaaDoor
open Go.RowKit

theorem netN4_len (s : ByteArray) : (valN4 s).ad.length = 4 := by
  unfold valN4
  split
  · exact val4u_len _
  · rfl
def heldOne (a : List UInt8) (t : ByteArray) : Bool := okN4 t && (valN4 t).holds a
def heldv (l : List ByteArray) (a : List UInt8) : Bool := l.any (heldOne a)
theorem any_next (l : List ByteArray) (p : ByteArray → Bool) (k : Nat) (h : k < l.length) : (l.take (k + 1)).any p = ((l.take k).any p || p l[k]) := by
  rw [List.take_succ_eq_append_getElem h, List.any_append]
  simp
theorem any_more (l : List ByteArray) (p : ByteArray → Bool) (k : Nat) (h : (l.take k).any p = true) : l.any p = true := by
  rw [List.any_eq_true] at *
  obtain ⟨x, hx, h0⟩ := h
  exact ⟨x, List.mem_of_mem_take hx, h0⟩
theorem StrC.old {g : Nat} {l : List ByteArray} {w w' : World} {B : Nat} (h : StrC g l w) (hb : Below B w w') (hg : g < B) : StrC g l w' := fun i hi => (hb.cell hg).trans (h i hi)
set_option maxRecDepth 100000 in
set_option maxHeartbeats 2000000 in
theorem rheld_any (g cap : Nat) (l : List ByteArray) (a : List UInt8) (w : World) (hc : StrC g l w) (hg : g < w.heap.size) (hz : ∀ t ∈ l, t.size ≤ 70000) (ha : a.length = 4) (hn9 : l.length ≤ 1000000) :
    Calls Tryd.prog 57 #[.slice (some ⟨g, 0, none⟩) l.length cap, .agg (bu a).toArray] w fun e w' => e = .returned (.bool (heldv l a)) ∧ Below w.heap.size w w' := by
  have HR : Hid (heldv l a = l.any (heldOne a)) := Lib.hid rfl
  generalize heldv l a = R at *
  have HC := Lib.hid hc
  have CP := Lib.hid (fun t (h : t ∈ l) W => rparsenet4_any t W (hz t h))
  have CH := Lib.hid (fun t W => rholds4_any (valN4 t) a (netN4_len t) ha W)
  have HNx := Lib.hid (any_next l (heldOne a))
  have HMo := Lib.hid (any_more l (heldOne a))
  have HOne : Hid (∀ t, heldOne a t = (okN4 t && (valN4 t).holds a)) := Lib.hid (fun _ => rfl)
  have HIA : Hid ((Tryd.prog.info? 28).map (·.size) = some (bu a).length) := Lib.hid (by rw [bu_len, ha]; exact Tryd.infoFour zero4 rfl)
  have HIV := Lib.hid (fun t => Tryd.infoN4 (valN4 t) (netN4_len t))
  have HOV := Lib.hid (fun t => nn_one (valN4 t))
  have HLV : Hid (∀ t, (valN4 t).vals.length = 5) := Lib.hid (fun t => by unfold Nn.vals; rw [List.length_append, bu_len, netN4_len]; rfl)
  have HK1 := Lib.hid ((Kp.start w).new 28 (bu a))
  have Hg := Lib.hid hg
  clear hc hg hz ha
  generalize bu a = VA at *
  generalize hw1 : w.alloc (.cells VA.toArray 28) = w1 at *
  go_enter Tryd.func57, Tryd.ntmps57
  go_upto_region 1 with (fail)
  clear hw1
  go_wp2_with fail
  go_loopw [5] (fun i wr => ∃ k : Nat, k ≤ l.length ∧ i = .int .i64 k ∧ Kp w w.heap.size [(w.heap.size, 28, VA)] wr ∧ Hid ((l.take k).any (heldOne a) = false)) (fun i _ => l.length - (intOf i).toNat)
  case atStart => exact ⟨0, Nat.zero_le _, rfl, HK1.out, Lib.hid rfl⟩
  case round =>
    obtain ⟨k, hk, rfl, hK, hJ⟩ := hrel
    have HK := Lib.hid hK
    clear hK HK1
    by_cases hlt : k < l.length
    · have il : ((k : Nat) : Int) < (l.length : Int) := by omega
      have cs := (HC.out.old HK.out.2.1 Hg.out) k hlt
      have C1 := Lib.hid (CP.out l[k] (List.getElem_mem hlt))
      have C2 := Lib.hid (CH.out l[k])
      have hn := HNx.out k hlt
      rw [hJ.out, Bool.false_or, HOne.out] at hn
      have HN := Lib.hid hn
      have HM := Lib.hid (HMo.out (k + 1))
      have HI1 := Lib.hid (HIV.out l[k])
      have HO1 := Lib.hid (HOV.out l[k])
      have HL1 := Lib.hid (HLV.out l[k])
      clear hn
      have HLt := Lib.hid hlt
      generalize okN4 l[k] = o1 at *
      generalize (valN4 l[k]).holds a = o2 at *
      generalize (valN4 l[k]).vals = NV at *
      generalize l[k] = t at *
      go_wp2_with fail
      refine (C1.out _).mono ?_
      rintro e w3 ⟨rfl, b3⟩
      have HK3 := Lib.hid (HK.out.below b3 (Nat.le_refl _))
      clear b3 HK C1 cs
      have ht3 : (w3.alloc (.cells ([.int .u8 0, .int .u8 0, .int .u8 0, .int .u8 0, .int .i64 0] : List Value).toArray 32)).there w3.heap.size 0 NV.toArray.size := (bk_new w3 32 ([.int .u8 0, .int .u8 0, .int .u8 0, .int .u8 0, .int .i64 0] : List Value).toArray).there _ (by have := HL1.out; simp; omega)
      go_upto_region 5 with (refine wpList_store_mid rfl 32 _ _ rfl w3.heap.size 0 NV.toArray rfl rfl ht3 (by simpa using HI1.out) HO1.out ?_)
      have HK4 := Lib.hid (HK3.out.put 32 ([.int .u8 0, .int .u8 0, .int .u8 0, .int .u8 0, .int .i64 0] : List Value).toArray NV (by have := HL1.out; simp; omega))
      clear ht3 HK3
      generalize (w3.alloc (.cells ([.int .u8 0, .int .u8 0, .int .u8 0, .int .u8 0, .int .i64 0] : List Value).toArray 32)).setCells w3.heap.size 0 NV = w4 at *
      generalize w3.heap.size = g4 at *
      cases o1
      · have HX : Hid ((l.take (k + 1)).any (heldOne a) = false) := Lib.hid (by rw [HN.out]; rfl)
        clear HN HM
        go_wp2_with fail
        go_roundw
        case rel => exact ⟨k + 1, by have := HLt.out; omega, by go_num, HK4.out.tl, HX⟩
        case measure => have := HLt.out; simp [intOf]; omega
      · have hr0 := HK4.out.hd.range
        have hr1 := HK4.out.tl.hd.range
        go_wp2_with (first | (refine wpList_load_if (by rfl) 32 _ rfl g4 0 rfl NV _ hr0 Tryd.underlying32 rfl HI1.out ?_) | (refine wpList_load_if (by rfl) 28 _ rfl w.heap.size 0 rfl VA _ hr1 Tryd.underlying28 rfl HIA.out ?_))
        clear hr0 hr1
        refine (C2.out _).mono ?_
        rintro e w5 ⟨rfl, b5⟩
        have HK5 := Lib.hid (HK4.out.below b5 (Nat.le_refl _))
        clear b5 HK4 C2
        cases o2
        · have HX : Hid ((l.take (k + 1)).any (heldOne a) = false) := Lib.hid (by rw [HN.out]; rfl)
          clear HN HM
          go_wp2_with fail
          go_roundw
          case rel => exact ⟨k + 1, by have := HLt.out; omega, by go_num, HK5.out.tl, HX⟩
          case measure => have := HLt.out; simp [intOf]; omega
        · have HX : Hid (R = true) := Lib.hid (by rw [HR.out]; exact HM.out (by rw [HN.out]; rfl))
          clear HN HM
          go_wp2_with fail
          go_ret
          exact ⟨by rw [HX.out]; rfl, HK5.out.2.1⟩
    · obtain rfl : k = l.length := by omega
      have HX : Hid (R = false) := Lib.hid (by rw [HR.out]; have h := hJ.out; rwa [List.take_length] at h)
      go_wp2_with fail
      go_ret
      exact ⟨by rw [HX.out]; rfl, HK.out.2.1⟩
/-- The words of the prefixes that hold martians. -/
def marsL : List ByteArray := [⟨#[48, 46, 48, 46, 48, 46, 48, 47, 56]⟩, ⟨#[49, 50, 55, 46, 48, 46, 48, 46, 48, 47, 56]⟩, ⟨#[49, 54, 57, 46, 50, 53, 52, 46, 48, 46, 48, 47, 49, 54]⟩, ⟨#[50, 50, 52, 46, 48, 46, 48, 46, 48, 47, 52]⟩, ⟨#[50, 52, 48, 46, 48, 46, 48, 46, 48, 47, 52]⟩]
def mars4 (a : List UInt8) : Bool := heldv marsL a
set_option maxRecDepth 100000 in
set_option maxHeartbeats 1000000 in
theorem rmartian4_any (a : List UInt8) (ha : a.length = 4) (w : World) :
    Calls Tryd.prog 28 #[.agg (bu a).toArray] w fun e w' => e = .returned (.bool (mars4 a)) ∧ Below w.heap.size w w' := by
  have CH : Hid (∀ (W : World) (g : Nat), StrC g marsL W → g < W.heap.size → Calls Tryd.prog 57 #[.slice (some ⟨g, 0, none⟩) 5 5, .agg (bu a).toArray] W fun e w' => e = .returned (.bool (mars4 a)) ∧ Below W.heap.size W w') := Lib.hid (fun W g hc hg => rheld_any g 5 marsL a W hc hg (by decide) ha (by decide))
  have HK1 := Lib.hid ((Kp.start w).new 28 (bu a))
  have HIA : Hid ((Tryd.prog.info? 28).map (·.size) = some (bu a).length) := Lib.hid (by rw [bu_len, ha]; exact Tryd.infoFour zero4 rfl)
  have HS1 : Hid ((w.alloc (.cells (bu a).toArray 28)).heap.size = w.heap.size + 1) := Lib.hid (by simp)
  generalize mars4 a = R at *
  generalize bu a = VA at *
  clear ha
  generalize hw1 : w.alloc (.cells VA.toArray 28) = w1 at *
  go_enter Tryd.func28, Tryd.ntmps28
  go_upto_region 1 with (fail)
  clear hw1
  have HK2 := Lib.hid (HK1.out.alloc (.cells #[.string ⟨#[48, 46, 48, 46, 48, 46, 48, 47, 56]⟩, .string ⟨#[49, 50, 55, 46, 48, 46, 48, 46, 48, 47, 56]⟩, .string ⟨#[49, 54, 57, 46, 50, 53, 52, 46, 48, 46, 48, 47, 49, 54]⟩, .string ⟨#[50, 50, 52, 46, 48, 46, 48, 46, 48, 47, 52]⟩, .string ⟨#[50, 52, 48, 46, 48, 46, 48, 46, 48, 47, 52]⟩] 9))
  have hbk : Bk (w1.alloc (.cells #[.string ⟨#[48, 46, 48, 46, 48, 46, 48, 47, 56]⟩, .string ⟨#[49, 50, 55, 46, 48, 46, 48, 46, 48, 47, 56]⟩, .string ⟨#[49, 54, 57, 46, 50, 53, 52, 46, 48, 46, 48, 47, 49, 54]⟩, .string ⟨#[50, 50, 52, 46, 48, 46, 48, 46, 48, 47, 52]⟩, .string ⟨#[50, 52, 48, 46, 48, 46, 48, 46, 48, 47, 52]⟩] 9)) w1.heap.size 9 #[.string ⟨#[48, 46, 48, 46, 48, 46, 48, 47, 56]⟩, .string ⟨#[49, 50, 55, 46, 48, 46, 48, 46, 48, 47, 56]⟩, .string ⟨#[49, 54, 57, 46, 50, 53, 52, 46, 48, 46, 48, 47, 49, 54]⟩, .string ⟨#[50, 50, 52, 46, 48, 46, 48, 46, 48, 47, 52]⟩, .string ⟨#[50, 52, 48, 46, 48, 46, 48, 46, 48, 47, 52]⟩] := bk_new _ _ _
  have HSC : Hid (StrC w1.heap.size marsL (w1.alloc (.cells #[.string ⟨#[48, 46, 48, 46, 48, 46, 48, 47, 56]⟩, .string ⟨#[49, 50, 55, 46, 48, 46, 48, 46, 48, 47, 56]⟩, .string ⟨#[49, 54, 57, 46, 50, 53, 52, 46, 48, 46, 48, 47, 49, 54]⟩, .string ⟨#[50, 50, 52, 46, 48, 46, 48, 46, 48, 47, 52]⟩, .string ⟨#[50, 52, 48, 46, 48, 46, 48, 46, 48, 47, 52]⟩] 9))) := Lib.hid (fun i hi => by
    have : i = 0 ∨ i = 1 ∨ i = 2 ∨ i = 3 ∨ i = 4 := by have : marsL.length = 5 := rfl; omega
    rcases this with rfl | rfl | rfl | rfl | rfl <;> exact hbk.c _ _ rfl)
  have HLT : Hid (w1.heap.size < (w1.alloc (.cells #[.string ⟨#[48, 46, 48, 46, 48, 46, 48, 47, 56]⟩, .string ⟨#[49, 50, 55, 46, 48, 46, 48, 46, 48, 47, 56]⟩, .string ⟨#[49, 54, 57, 46, 50, 53, 52, 46, 48, 46, 48, 47, 49, 54]⟩, .string ⟨#[50, 50, 52, 46, 48, 46, 48, 46, 48, 47, 52]⟩, .string ⟨#[50, 52, 48, 46, 48, 46, 48, 46, 48, 47, 52]⟩] 9)).heap.size) := Lib.hid (by simp)
  have hr := HK2.out.hd.range
  clear hbk HK1
  go_wp2_with (refine wpList_load_mid rfl 28 _ rfl w.heap.size 0 rfl VA _ hr Tryd.underlying28 rfl HIA.out ?_)
  refine (CH.out _ _ HSC.out HLT.out).mono ?_
  rintro e w3 ⟨rfl, b3⟩
  have HK3 := Lib.hid (HK2.out.below b3 (Nat.le_refl _))
  clear b3 HK2 CH hr
  go_wp2_with fail
  go_ret
  exact ⟨rfl, HK3.out.2.1⟩
end Go.Proofs.YtkdplnbabelkoaaDoor
