/-
  Proved here: what the document's Martian6 and May answer; that this is what the program's tables say.
  Conditions: addresses of their lengths.
-/
import Derived.Test.YtchdagdmbjpmcaaDoorNet6
import Derived.Test.YtchdagdmbjpmcaaDoorHeld
import Derived.Test.YtchdagdmbjpmcaaDoorMayp
namespace Go.Proofs.YtchdagdmbjpmcaaDoor
open Go.RowKit

/-- The words of the prefixes that hold IPv6 martians, of the private ones, and of the well-known one. -/
def marsL6 : List ByteArray := [⟨#[58, 58, 47, 49, 50, 56]⟩, ⟨#[58, 58, 49, 47, 49, 50, 56]⟩, ⟨#[58, 58, 102, 102, 102, 102, 58, 48, 58, 48, 47, 57, 54]⟩, ⟨#[102, 101, 56, 48, 58, 58, 47, 49, 48]⟩, ⟨#[102, 102, 48, 48, 58, 58, 47, 56]⟩]
def heldOne6 (a : List UInt8) (t : ByteArray) : Bool := okN6 t && (valN6 t).holds a
theorem mars_four (a : List UInt8) : mars4 a = mart4 a := by
  have h0 : ∀ t ∈ marsL, okN4 t = true := by decide +kernel
  have h1 : marsL.map (fun t => ((valN4 t).ad, (valN4 t).ln)) = mL4.map (fun p => (p.ad, p.ln)) := by decide +kernel
  unfold mars4 heldv mart4
  have e1 : marsL.any (heldOne a) = (marsL.map fun t => ((valN4 t).ad, (valN4 t).ln)).any fun q => (Nn.mk q.1 q.2).holds a := by
    rw [List.any_map, Bool.eq_iff_iff, List.any_eq_true, List.any_eq_true]
    constructor
    · rintro ⟨t, ht, h⟩
      unfold heldOne at h
      rw [h0 t ht] at h
      exact ⟨t, ht, by simpa using h⟩
    · rintro ⟨t, ht, h⟩
      refine ⟨t, ht, ?_⟩
      unfold heldOne
      rw [h0 t ht]
      simpa using h
  rw [e1, h1, List.any_map]
  rfl
theorem mars_six (a : List UInt8) : marsL6.any (heldOne6 a) = mart6 a := by
  have h0 : ∀ t ∈ marsL6, okN6 t = true := by decide +kernel
  have h1 : marsL6.map (fun t => ((valN6 t).ad, (valN6 t).ln)) = mL6.map (fun p => (p.ad, p.ln)) := by decide +kernel
  unfold mart6
  have e1 : marsL6.any (heldOne6 a) = (marsL6.map fun t => ((valN6 t).ad, (valN6 t).ln)).any fun q => (Nn.mk q.1 q.2).holds a := by
    rw [List.any_map, Bool.eq_iff_iff, List.any_eq_true, List.any_eq_true]
    constructor
    · rintro ⟨t, ht, h⟩
      unfold heldOne6 at h
      rw [h0 t ht] at h
      exact ⟨t, ht, by simpa using h⟩
    · rintro ⟨t, ht, h⟩
      refine ⟨t, ht, ?_⟩
      unfold heldOne6
      rw [h0 t ht]
      simpa using h
  rw [e1, h1, List.any_map]
  rfl
set_option maxRecDepth 100000 in
set_option maxHeartbeats 8000000 in
theorem rmartian6_any (a : List UInt8) (ha : a.length = 16) (w : World) :
    Calls Tryd.prog 45 #[.agg (bu a).toArray] w fun e w' => e = .returned (.bool (mart6 a)) ∧ Below w.heap.size w w' := by
  obtain ⟨l, hl⟩ : ∃ l, l = marsL6 := ⟨_, rfl⟩
  have HR : Hid (mart6 a = l.any (heldOne6 a)) := Lib.hid (by rw [hl]; exact (mars_six a).symm)
  have hl5 : l.length = 5 := by rw [hl]; rfl
  have hz : ∀ t ∈ l, t.size ≤ 70000 := by rw [hl]; decide
  generalize mart6 a = R at *
  have CP := Lib.hid (fun t (h : t ∈ l) W => rparsenet6_any t W (hz t h))
  have CH := Lib.hid (fun t W => rholds6_any (valN6 t) a (valN6_len t) ha W)
  have HNx := Lib.hid (any_next l (heldOne6 a))
  have HMo := Lib.hid (any_more l (heldOne6 a))
  have HOne : Hid (∀ t, heldOne6 a t = (okN6 t && (valN6 t).holds a)) := Lib.hid (fun _ => rfl)
  have HIA : Hid ((Tryd.prog.info? 23).map (·.size) = some (bu a).length) := Lib.hid (Tryd.infoU6 _ ha)
  have HIV := Lib.hid (fun t => Tryd.infoNn6 (valN6 t) (valN6_len t))
  have HOV := Lib.hid (fun t => nn_one (valN6 t))
  have HLV : Hid (∀ t, (valN6 t).vals.length = 17) := Lib.hid (fun t => by unfold Nn.vals; rw [List.length_append, bu_len, valN6_len]; rfl)
  have HK1 := Lib.hid ((Kp.start w).new 23 (bu a))
  clear hz ha
  generalize bu a = VA at *
  generalize hw1 : w.alloc (.cells VA.toArray 23) = w1 at *
  go_enter Tryd.func45, Tryd.ntmps45
  go_upto_region 1 with (fail)
  clear hw1
  have HK2 := Lib.hid (HK1.out.alloc (.cells #[.string ⟨#[58, 58, 47, 49, 50, 56]⟩, .string ⟨#[58, 58, 49, 47, 49, 50, 56]⟩, .string ⟨#[58, 58, 102, 102, 102, 102, 58, 48, 58, 48, 47, 57, 54]⟩, .string ⟨#[102, 101, 56, 48, 58, 58, 47, 49, 48]⟩, .string ⟨#[102, 102, 48, 48, 58, 58, 47, 56]⟩] 9))
  have hbk : Bk (w1.alloc (.cells #[.string ⟨#[58, 58, 47, 49, 50, 56]⟩, .string ⟨#[58, 58, 49, 47, 49, 50, 56]⟩, .string ⟨#[58, 58, 102, 102, 102, 102, 58, 48, 58, 48, 47, 57, 54]⟩, .string ⟨#[102, 101, 56, 48, 58, 58, 47, 49, 48]⟩, .string ⟨#[102, 102, 48, 48, 58, 58, 47, 56]⟩] 9)) w1.heap.size 9 #[.string ⟨#[58, 58, 47, 49, 50, 56]⟩, .string ⟨#[58, 58, 49, 47, 49, 50, 56]⟩, .string ⟨#[58, 58, 102, 102, 102, 102, 58, 48, 58, 48, 47, 57, 54]⟩, .string ⟨#[102, 101, 56, 48, 58, 58, 47, 49, 48]⟩, .string ⟨#[102, 102, 48, 48, 58, 58, 47, 56]⟩] := bk_new _ _ _
  have HSC : Hid (StrC w1.heap.size l (w1.alloc (.cells #[.string ⟨#[58, 58, 47, 49, 50, 56]⟩, .string ⟨#[58, 58, 49, 47, 49, 50, 56]⟩, .string ⟨#[58, 58, 102, 102, 102, 102, 58, 48, 58, 48, 47, 57, 54]⟩, .string ⟨#[102, 101, 56, 48, 58, 58, 47, 49, 48]⟩, .string ⟨#[102, 102, 48, 48, 58, 58, 47, 56]⟩] 9))) := Lib.hid (fun i hi => by
    subst hl
    have : i = 0 ∨ i = 1 ∨ i = 2 ∨ i = 3 ∨ i = 4 := by omega
    rcases this with rfl | rfl | rfl | rfl | rfl <;> exact hbk.c _ _ rfl)
  have HLT : Hid (w1.heap.size < (w1.alloc (.cells #[.string ⟨#[58, 58, 47, 49, 50, 56]⟩, .string ⟨#[58, 58, 49, 47, 49, 50, 56]⟩, .string ⟨#[58, 58, 102, 102, 102, 102, 58, 48, 58, 48, 47, 57, 54]⟩, .string ⟨#[102, 101, 56, 48, 58, 58, 47, 49, 48]⟩, .string ⟨#[102, 102, 48, 48, 58, 58, 47, 56]⟩] 9)).heap.size) := Lib.hid (by simp)
  have HL5 := Lib.hid hl5
  clear hbk HK1 hl hl5
  go_wp2_with fail
  generalize w1.alloc (.cells #[.string ⟨#[58, 58, 47, 49, 50, 56]⟩, .string ⟨#[58, 58, 49, 47, 49, 50, 56]⟩, .string ⟨#[58, 58, 102, 102, 102, 102, 58, 48, 58, 48, 47, 57, 54]⟩, .string ⟨#[102, 101, 56, 48, 58, 58, 47, 49, 48]⟩, .string ⟨#[102, 102, 48, 48, 58, 58, 47, 56]⟩] 9) = w2 at *
  generalize w1.heap.size = g at *
  go_loopw [4] (fun i wr => ∃ k : Nat, k ≤ 5 ∧ i = .int .i64 k ∧ Below w2.heap.size w2 wr ∧ Kp w w.heap.size [(w.heap.size, 23, VA)] wr ∧ Hid ((l.take k).any (heldOne6 a) = false)) (fun i _ => 5 - (intOf i).toNat)
  case atStart => exact ⟨0, Nat.zero_le _, rfl, Below.refl _ _, HK2.out, Lib.hid rfl⟩
  case round =>
    obtain ⟨k, hk, rfl, hB, hK, hJ⟩ := hrel
    have HK := Lib.hid hK
    have HB := Lib.hid hB
    clear hK HK2 hB
    by_cases hlt : k < 5
    · have il : ((k : Nat) : Int) < 5 := by omega
      have hlt5 : k < l.length := by rw [HL5.out]; exact hlt
      have cs := (HSC.out.old HB.out HLT.out) k hlt5
      have C1 := Lib.hid (CP.out l[k] (List.getElem_mem hlt5))
      have C2 := Lib.hid (CH.out l[k])
      have hn := HNx.out k hlt5
      rw [hJ.out, Bool.false_or, HOne.out] at hn
      have HN := Lib.hid hn
      have HM := Lib.hid (HMo.out (k + 1))
      have HI1 := Lib.hid (HIV.out l[k])
      have HO1 := Lib.hid (HOV.out l[k])
      have HL1 := Lib.hid (HLV.out l[k])
      clear hn
      have HLt := Lib.hid hlt
      generalize okN6 l[k] = o1 at *
      generalize (valN6 l[k]).holds a = o2 at *
      generalize (valN6 l[k]).vals = NV at *
      generalize l[k] = t at *
      clear hlt5
      go_wp2_with fail
      refine (C1.out _).mono ?_
      rintro e w3 ⟨rfl, b3⟩
      have HK3 := Lib.hid (HK.out.below b3 (Nat.le_refl _))
      have HB3 := Lib.hid (HB.out.trans (b3.mono HB.out.size))
      clear b3 HK C1 cs HB
      have ht3 : (w3.alloc (.cells ([.int .u8 0, .int .u8 0, .int .u8 0, .int .u8 0, .int .u8 0, .int .u8 0, .int .u8 0, .int .u8 0, .int .u8 0, .int .u8 0, .int .u8 0, .int .u8 0, .int .u8 0, .int .u8 0, .int .u8 0, .int .u8 0, .int .i64 0] : List Value).toArray 106)).there w3.heap.size 0 NV.toArray.size := (bk_new w3 106 ([.int .u8 0, .int .u8 0, .int .u8 0, .int .u8 0, .int .u8 0, .int .u8 0, .int .u8 0, .int .u8 0, .int .u8 0, .int .u8 0, .int .u8 0, .int .u8 0, .int .u8 0, .int .u8 0, .int .u8 0, .int .u8 0, .int .i64 0] : List Value).toArray).there _ (by have := HL1.out; simp; omega)
      go_upto_region 6 with (refine wpList_store_mid rfl 106 _ _ rfl w3.heap.size 0 NV.toArray rfl rfl ht3 (by simpa using HI1.out) HO1.out ?_)
      have HK4 := Lib.hid (HK3.out.put 106 ([.int .u8 0, .int .u8 0, .int .u8 0, .int .u8 0, .int .u8 0, .int .u8 0, .int .u8 0, .int .u8 0, .int .u8 0, .int .u8 0, .int .u8 0, .int .u8 0, .int .u8 0, .int .u8 0, .int .u8 0, .int .u8 0, .int .i64 0] : List Value).toArray NV (by have := HL1.out; simp; omega))
      have HB4 := Lib.hid (below_sets NV (b := w3.heap.size) HB3.out.size 0 _ (HB3.out.alloc HB3.out.size (.cells ([.int .u8 0, .int .u8 0, .int .u8 0, .int .u8 0, .int .u8 0, .int .u8 0, .int .u8 0, .int .u8 0, .int .u8 0, .int .u8 0, .int .u8 0, .int .u8 0, .int .u8 0, .int .u8 0, .int .u8 0, .int .u8 0, .int .i64 0] : List Value).toArray 106)))
      clear ht3 HK3 HB3
      generalize (w3.alloc (.cells ([.int .u8 0, .int .u8 0, .int .u8 0, .int .u8 0, .int .u8 0, .int .u8 0, .int .u8 0, .int .u8 0, .int .u8 0, .int .u8 0, .int .u8 0, .int .u8 0, .int .u8 0, .int .u8 0, .int .u8 0, .int .u8 0, .int .i64 0] : List Value).toArray 106)).setCells w3.heap.size 0 NV = w4 at *
      generalize w3.heap.size = g4 at *
      cases o1
      · have HX : Hid ((l.take (k + 1)).any (heldOne6 a) = false) := Lib.hid (by rw [HN.out]; rfl)
        clear HN HM
        go_wp2_with fail
        go_roundw
        case rel => exact ⟨k + 1, by have := HLt.out; omega, by go_num, HB4.out, HK4.out.tl, HX⟩
        case measure => have := HLt.out; simp [intOf]; omega
      · have hr0 := HK4.out.hd.range
        have hr1 := HK4.out.tl.hd.range
        go_wp2_with (first | (refine wpList_load_if (by rfl) 106 _ rfl g4 0 rfl NV _ hr0 Tryd.underlying106 rfl HI1.out ?_) | (refine wpList_load_if (by rfl) 23 _ rfl w.heap.size 0 rfl VA _ hr1 Tryd.underlying23 rfl HIA.out ?_))
        clear hr0 hr1
        refine (C2.out _).mono ?_
        rintro e w5 ⟨rfl, b5⟩
        have HK5 := Lib.hid (HK4.out.below b5 (Nat.le_refl _))
        have HB5 := Lib.hid (HB4.out.trans (b5.mono HB4.out.size))
        clear b5 HK4 C2 HB4
        cases o2
        · have HX : Hid ((l.take (k + 1)).any (heldOne6 a) = false) := Lib.hid (by rw [HN.out]; rfl)
          clear HN HM
          go_wp2_with fail
          go_roundw
          case rel => exact ⟨k + 1, by have := HLt.out; omega, by go_num, HB5.out, HK5.out.tl, HX⟩
          case measure => have := HLt.out; simp [intOf]; omega
        · have HX : Hid (R = true) := Lib.hid (by rw [HR.out]; exact HM.out (by rw [HN.out]; rfl))
          clear HN HM
          go_wp2_with fail
          go_ret
          exact ⟨by rw [HX.out]; rfl, HK5.out.2.1⟩
    · have hk5 : k = 5 := by omega
      have HX : Hid (R = false) := Lib.hid (by rw [HR.out]; have h := hJ.out; rwa [hk5, ← HL5.out, List.take_length] at h)
      have il : ¬ ((k : Nat) : Int) < 5 := by omega
      clear hk5
      go_wp2_with fail
      go_ret
      exact ⟨by rw [HX.out]; rfl, HK.out.2.1⟩
end Go.Proofs.YtchdagdmbjpmcaaDoor
