/-
  Proved here: what the document's Martian6 and May answer; that this is what the program's tables say.
  Conditions: addresses of their lengths.
  Proved here: the law ClassHolds answers true.
  Conditions: what the library's and the package's variables hold.
-/
import Derived.Test.YtkkgcmfcfacakaaDoorNet6
import Derived.Test.YtkkgcmfcfacakaaDoorHeld
import Derived.Test.YtkkgcmfcfacakaaDoorMayp
import Derived.Test.YtkkgcmfcfacakaaDoorAwakec
import Derived.Test.YtkkgcmfcfacakaaDoorLiftc
namespace Go.Proofs.YtkkgcmfcfacakaaDoor
open Go.RowKit

/-- The words of the prefixes that hold IPv6 martians, of the private ones, and of the well-known one. -/
def marsL6 : List ByteArray := [⟨#[58, 58, 47, 49, 50, 56]⟩, ⟨#[58, 58, 49, 47, 49, 50, 56]⟩, ⟨#[58, 58, 102, 102, 102, 102, 58, 48, 58, 48, 47, 57, 54]⟩, ⟨#[102, 101, 56, 48, 58, 58, 47, 49, 48]⟩, ⟨#[102, 102, 48, 48, 58, 58, 47, 56]⟩]
def privL : List ByteArray := [⟨#[49, 48, 46, 48, 46, 48, 46, 48, 47, 56]⟩, ⟨#[49, 55, 50, 46, 49, 54, 46, 48, 46, 48, 47, 49, 50]⟩, ⟨#[49, 57, 50, 46, 49, 54, 56, 46, 48, 46, 48, 47, 49, 54]⟩, ⟨#[49, 48, 48, 46, 54, 52, 46, 48, 46, 48, 47, 49, 48]⟩]
def knW : ByteArray := ⟨#[54, 52, 58, 102, 102, 57, 98, 58, 58, 47, 57, 54]⟩
def heldOne6 (a : List UInt8) (t : ByteArray) : Bool := okN6 t && (valN6 t).holds a
theorem mars_four (a : List UInt8) : mars4 a = mart4 a := by
  have h0 : ∀ t ∈ marsL, okN4 t = true := by decide +kernel
  have h1 : marsL.map (fun t => ((valN4 t).ad, (valN4 t).ln)) = mL4.map (fun p => (p.ad, p.ln)) := by decide +kernel
  unfold mars4 heldv mart4
  have e1 : marsL.any (heldOne a) = (marsL.map fun t => ((valN4 t).ad, (valN4 t).ln)).any fun q => (Nn.mk q.1 q.2).holds a := by
    rw [List.any_map, Bool.eq_iff_iff, List.any_eq_true, List.any_eq_true]
    constructor
    · rintro ⟨t, ht, h⟩
      unfold heldOne at h
      rw [h0 t ht] at h
      exact ⟨t, ht, by simpa using h⟩
    · rintro ⟨t, ht, h⟩
      refine ⟨t, ht, ?_⟩
      unfold heldOne
      rw [h0 t ht]
      simpa using h
  rw [e1, h1, List.any_map]
  rfl
theorem priv_four (a : List UInt8) : heldv privL a = priv a := by
  have h0 : ∀ t ∈ privL, okN4 t = true := by decide +kernel
  have h1 : privL.map (fun t => ((valN4 t).ad, (valN4 t).ln)) = pL4.map (fun p => (p.ad, p.ln)) := by decide +kernel
  unfold heldv priv
  have e1 : privL.any (heldOne a) = (privL.map fun t => ((valN4 t).ad, (valN4 t).ln)).any fun q => (Nn.mk q.1 q.2).holds a := by
    rw [List.any_map, Bool.eq_iff_iff, List.any_eq_true, List.any_eq_true]
    constructor
    · rintro ⟨t, ht, h⟩
      unfold heldOne at h
      rw [h0 t ht] at h
      exact ⟨t, ht, by simpa using h⟩
    · rintro ⟨t, ht, h⟩
      refine ⟨t, ht, ?_⟩
      unfold heldOne
      rw [h0 t ht]
      simpa using h
  rw [e1, h1, List.any_map]
  rfl
theorem mars_six (a : List UInt8) : marsL6.any (heldOne6 a) = mart6 a := by
  have h0 : ∀ t ∈ marsL6, okN6 t = true := by decide +kernel
  have h1 : marsL6.map (fun t => ((valN6 t).ad, (valN6 t).ln)) = mL6.map (fun p => (p.ad, p.ln)) := by decide +kernel
  unfold mart6
  have e1 : marsL6.any (heldOne6 a) = (marsL6.map fun t => ((valN6 t).ad, (valN6 t).ln)).any fun q => (Nn.mk q.1 q.2).holds a := by
    rw [List.any_map, Bool.eq_iff_iff, List.any_eq_true, List.any_eq_true]
    constructor
    · rintro ⟨t, ht, h⟩
      unfold heldOne6 at h
      rw [h0 t ht] at h
      exact ⟨t, ht, by simpa using h⟩
    · rintro ⟨t, ht, h⟩
      refine ⟨t, ht, ?_⟩
      unfold heldOne6
      rw [h0 t ht]
      simpa using h
  rw [e1, h1, List.any_map]
  rfl
theorem kn_val : (valN6 knW).ad = knN.ad ∧ (valN6 knW).ln = knN.ln := by decide +kernel
theorem kn_is : valN6 knW = knN := by
  have h := kn_val
  cases hv : valN6 knW with
  | mk a l =>
    rw [hv] at h
    cases hk : knN with
    | mk b m =>
      rw [hk] at h
      rw [show a = b from h.1, show l = m from h.2]
set_option maxRecDepth 100000 in
set_option maxHeartbeats 8000000 in
theorem rmartian6_any (a : List UInt8) (ha : a.length = 16) (w : World) :
    Calls Tryd.prog 30 #[.agg (bu a).toArray] w fun e w' => e = .returned (.bool (mart6 a)) ∧ Below w.heap.size w w' := by
  obtain ⟨l, hl⟩ : ∃ l, l = marsL6 := ⟨_, rfl⟩
  have HR : Hid (mart6 a = l.any (heldOne6 a)) := Lib.hid (by rw [hl]; exact (mars_six a).symm)
  have hl5 : l.length = 5 := by rw [hl]; rfl
  have hz : ∀ t ∈ l, t.size ≤ 70000 := by rw [hl]; decide
  generalize mart6 a = R at *
  have CP := Lib.hid (fun t (h : t ∈ l) W => rparsenet6_any t W (hz t h))
  have CH := Lib.hid (fun t W => rholds6_any (valN6 t) a (valN6_len t) ha W)
  have HNx := Lib.hid (any_next l (heldOne6 a))
  have HMo := Lib.hid (any_more l (heldOne6 a))
  have HOne : Hid (∀ t, heldOne6 a t = (okN6 t && (valN6 t).holds a)) := Lib.hid (fun _ => rfl)
  have HIA : Hid ((Tryd.prog.info? 24).map (·.size) = some (bu a).length) := Lib.hid (Tryd.infoU6 _ ha)
  have HIV := Lib.hid (fun t => Tryd.infoNn6 (valN6 t) (valN6_len t))
  have HOV := Lib.hid (fun t => nn_one (valN6 t))
  have HLV : Hid (∀ t, (valN6 t).vals.length = 17) := Lib.hid (fun t => by unfold Nn.vals; rw [List.length_append, bu_len, valN6_len]; rfl)
  have HK1 := Lib.hid ((Kp.start w).new 24 (bu a))
  clear hz ha
  generalize bu a = VA at *
  generalize hw1 : w.alloc (.cells VA.toArray 24) = w1 at *
  go_enter Tryd.func30, Tryd.ntmps30
  go_upto_region 1 with (fail)
  clear hw1
  have HK2 := Lib.hid (HK1.out.alloc (.cells #[.string ⟨#[58, 58, 47, 49, 50, 56]⟩, .string ⟨#[58, 58, 49, 47, 49, 50, 56]⟩, .string ⟨#[58, 58, 102, 102, 102, 102, 58, 48, 58, 48, 47, 57, 54]⟩, .string ⟨#[102, 101, 56, 48, 58, 58, 47, 49, 48]⟩, .string ⟨#[102, 102, 48, 48, 58, 58, 47, 56]⟩] 9))
  have hbk : Bk (w1.alloc (.cells #[.string ⟨#[58, 58, 47, 49, 50, 56]⟩, .string ⟨#[58, 58, 49, 47, 49, 50, 56]⟩, .string ⟨#[58, 58, 102, 102, 102, 102, 58, 48, 58, 48, 47, 57, 54]⟩, .string ⟨#[102, 101, 56, 48, 58, 58, 47, 49, 48]⟩, .string ⟨#[102, 102, 48, 48, 58, 58, 47, 56]⟩] 9)) w1.heap.size 9 #[.string ⟨#[58, 58, 47, 49, 50, 56]⟩, .string ⟨#[58, 58, 49, 47, 49, 50, 56]⟩, .string ⟨#[58, 58, 102, 102, 102, 102, 58, 48, 58, 48, 47, 57, 54]⟩, .string ⟨#[102, 101, 56, 48, 58, 58, 47, 49, 48]⟩, .string ⟨#[102, 102, 48, 48, 58, 58, 47, 56]⟩] := bk_new _ _ _
  have HSC : Hid (StrC w1.heap.size l (w1.alloc (.cells #[.string ⟨#[58, 58, 47, 49, 50, 56]⟩, .string ⟨#[58, 58, 49, 47, 49, 50, 56]⟩, .string ⟨#[58, 58, 102, 102, 102, 102, 58, 48, 58, 48, 47, 57, 54]⟩, .string ⟨#[102, 101, 56, 48, 58, 58, 47, 49, 48]⟩, .string ⟨#[102, 102, 48, 48, 58, 58, 47, 56]⟩] 9))) := Lib.hid (fun i hi => by
    subst hl
    have : i = 0 ∨ i = 1 ∨ i = 2 ∨ i = 3 ∨ i = 4 := by omega
    rcases this with rfl | rfl | rfl | rfl | rfl <;> exact hbk.c _ _ rfl)
  have HLT : Hid (w1.heap.size < (w1.alloc (.cells #[.string ⟨#[58, 58, 47, 49, 50, 56]⟩, .string ⟨#[58, 58, 49, 47, 49, 50, 56]⟩, .string ⟨#[58, 58, 102, 102, 102, 102, 58, 48, 58, 48, 47, 57, 54]⟩, .string ⟨#[102, 101, 56, 48, 58, 58, 47, 49, 48]⟩, .string ⟨#[102, 102, 48, 48, 58, 58, 47, 56]⟩] 9)).heap.size) := Lib.hid (by simp)
  have HL5 := Lib.hid hl5
  clear hbk HK1 hl hl5
  go_wp2_with fail
  generalize w1.alloc (.cells #[.string ⟨#[58, 58, 47, 49, 50, 56]⟩, .string ⟨#[58, 58, 49, 47, 49, 50, 56]⟩, .string ⟨#[58, 58, 102, 102, 102, 102, 58, 48, 58, 48, 47, 57, 54]⟩, .string ⟨#[102, 101, 56, 48, 58, 58, 47, 49, 48]⟩, .string ⟨#[102, 102, 48, 48, 58, 58, 47, 56]⟩] 9) = w2 at *
  generalize w1.heap.size = g at *
  go_loopw [4] (fun i wr => ∃ k : Nat, k ≤ 5 ∧ i = .int .i64 k ∧ Below w2.heap.size w2 wr ∧ Kp w w.heap.size [(w.heap.size, 24, VA)] wr ∧ Hid ((l.take k).any (heldOne6 a) = false)) (fun i _ => 5 - (intOf i).toNat)
  case atStart => exact ⟨0, Nat.zero_le _, rfl, Below.refl _ _, HK2.out, Lib.hid rfl⟩
  case round =>
    obtain ⟨k, hk, rfl, hB, hK, hJ⟩ := hrel
    have HK := Lib.hid hK
    have HB := Lib.hid hB
    clear hK HK2 hB
    by_cases hlt : k < 5
    · have il : ((k : Nat) : Int) < 5 := by omega
      have hlt5 : k < l.length := by rw [HL5.out]; exact hlt
      have cs := (HSC.out.old HB.out HLT.out) k hlt5
      have C1 := Lib.hid (CP.out l[k] (List.getElem_mem hlt5))
      have C2 := Lib.hid (CH.out l[k])
      have hn := HNx.out k hlt5
      rw [hJ.out, Bool.false_or, HOne.out] at hn
      have HN := Lib.hid hn
      have HM := Lib.hid (HMo.out (k + 1))
      have HI1 := Lib.hid (HIV.out l[k])
      have HO1 := Lib.hid (HOV.out l[k])
      have HL1 := Lib.hid (HLV.out l[k])
      clear hn
      have HLt := Lib.hid hlt
      generalize okN6 l[k] = o1 at *
      generalize (valN6 l[k]).holds a = o2 at *
      generalize (valN6 l[k]).vals = NV at *
      generalize l[k] = t at *
      clear hlt5
      go_wp2_with fail
      refine (C1.out _).mono ?_
      rintro e w3 ⟨rfl, b3⟩
      have HK3 := Lib.hid (HK.out.below b3 (Nat.le_refl _))
      have HB3 := Lib.hid (HB.out.trans (b3.mono HB.out.size))
      clear b3 HK C1 cs HB
      have ht3 : (w3.alloc (.cells ([.int .u8 0, .int .u8 0, .int .u8 0, .int .u8 0, .int .u8 0, .int .u8 0, .int .u8 0, .int .u8 0, .int .u8 0, .int .u8 0, .int .u8 0, .int .u8 0, .int .u8 0, .int .u8 0, .int .u8 0, .int .u8 0, .int .i64 0] : List Value).toArray 36)).there w3.heap.size 0 NV.toArray.size := (bk_new w3 36 ([.int .u8 0, .int .u8 0, .int .u8 0, .int .u8 0, .int .u8 0, .int .u8 0, .int .u8 0, .int .u8 0, .int .u8 0, .int .u8 0, .int .u8 0, .int .u8 0, .int .u8 0, .int .u8 0, .int .u8 0, .int .u8 0, .int .i64 0] : List Value).toArray).there _ (by have := HL1.out; simp; omega)
      go_upto_region 6 with (refine wpList_store_mid rfl 36 _ _ rfl w3.heap.size 0 NV.toArray rfl rfl ht3 (by simpa using HI1.out) HO1.out ?_)
      have HK4 := Lib.hid (HK3.out.put 36 ([.int .u8 0, .int .u8 0, .int .u8 0, .int .u8 0, .int .u8 0, .int .u8 0, .int .u8 0, .int .u8 0, .int .u8 0, .int .u8 0, .int .u8 0, .int .u8 0, .int .u8 0, .int .u8 0, .int .u8 0, .int .u8 0, .int .i64 0] : List Value).toArray NV (by have := HL1.out; simp; omega))
      have HB4 := Lib.hid (below_sets NV (b := w3.heap.size) HB3.out.size 0 _ (HB3.out.alloc HB3.out.size (.cells ([.int .u8 0, .int .u8 0, .int .u8 0, .int .u8 0, .int .u8 0, .int .u8 0, .int .u8 0, .int .u8 0, .int .u8 0, .int .u8 0, .int .u8 0, .int .u8 0, .int .u8 0, .int .u8 0, .int .u8 0, .int .u8 0, .int .i64 0] : List Value).toArray 36)))
      clear ht3 HK3 HB3
      generalize (w3.alloc (.cells ([.int .u8 0, .int .u8 0, .int .u8 0, .int .u8 0, .int .u8 0, .int .u8 0, .int .u8 0, .int .u8 0, .int .u8 0, .int .u8 0, .int .u8 0, .int .u8 0, .int .u8 0, .int .u8 0, .int .u8 0, .int .u8 0, .int .i64 0] : List Value).toArray 36)).setCells w3.heap.size 0 NV = w4 at *
      generalize w3.heap.size = g4 at *
      cases o1
      · have HX : Hid ((l.take (k + 1)).any (heldOne6 a) = false) := Lib.hid (by rw [HN.out]; rfl)
        clear HN HM
        go_wp2_with fail
        go_roundw
        case rel => exact ⟨k + 1, by have := HLt.out; omega, by go_num, HB4.out, HK4.out.tl, HX⟩
        case measure => have := HLt.out; simp [intOf]; omega
      · have hr0 := HK4.out.hd.range
        have hr1 := HK4.out.tl.hd.range
        go_wp2_with (first | (refine wpList_load_if (by rfl) 36 _ rfl g4 0 rfl NV _ hr0 Tryd.underlying36 rfl HI1.out ?_) | (refine wpList_load_if (by rfl) 24 _ rfl w.heap.size 0 rfl VA _ hr1 Tryd.underlying24 rfl HIA.out ?_))
        clear hr0 hr1
        refine (C2.out _).mono ?_
        rintro e w5 ⟨rfl, b5⟩
        have HK5 := Lib.hid (HK4.out.below b5 (Nat.le_refl _))
        have HB5 := Lib.hid (HB4.out.trans (b5.mono HB4.out.size))
        clear b5 HK4 C2 HB4
        cases o2
        · have HX : Hid ((l.take (k + 1)).any (heldOne6 a) = false) := Lib.hid (by rw [HN.out]; rfl)
          clear HN HM
          go_wp2_with fail
          go_roundw
          case rel => exact ⟨k + 1, by have := HLt.out; omega, by go_num, HB5.out, HK5.out.tl, HX⟩
          case measure => have := HLt.out; simp [intOf]; omega
        · have HX : Hid (R = true) := Lib.hid (by rw [HR.out]; exact HM.out (by rw [HN.out]; rfl))
          clear HN HM
          go_wp2_with fail
          go_ret
          exact ⟨by rw [HX.out]; rfl, HK5.out.2.1⟩
    · have hk5 : k = 5 := by omega
      have HX : Hid (R = false) := Lib.hid (by rw [HR.out]; have h := hJ.out; rwa [hk5, ← HL5.out, List.take_length] at h)
      have il : ¬ ((k : Nat) : Int) < 5 := by omega
      clear hk5
      go_wp2_with fail
      go_ret
      exact ⟨by rw [HX.out]; rfl, HK.out.2.1⟩
set_option maxRecDepth 100000 in
set_option maxHeartbeats 8000000 in
theorem rmay_any (p : Nn) (a : List UInt8) (w : World) (hp : p.ad.length = 16) (ha : a.length = 4) :
    Calls Tryd.prog 31 #[.agg p.vals.toArray, .agg (bu a).toArray] w fun e w' => e = .returned (.bool (mayv p a)) ∧ Below w.heap.size w w' := by
  have CK : Hid (∀ W, Calls Tryd.prog 22 #[.string ⟨#[54, 52, 58, 102, 102, 57, 98, 58, 58, 47, 57, 54]⟩] W fun e w' => e = .returned (.tuple #[.agg knN.vals.toArray, .bool (okN6 knW)]) ∧ Below W.heap.size W w') := Lib.hid (fun W => by
    have h := rparsenet6_any knW W (by decide)
    rwa [kn_is] at h)
  have CM : Hid (∀ W, Calls Tryd.prog 28 #[.agg (bu a).toArray] W fun e w' => e = .returned (.bool (mart4 a)) ∧ Below W.heap.size W w') := Lib.hid (fun W => by rw [← mars_four]; exact rmartian4_any a ha W)
  have CH : Hid (∀ (W : World) (g : Nat), StrC g privL W → g < W.heap.size → Calls Tryd.prog 57 #[.slice (some ⟨g, 0, none⟩) 4 4, .agg (bu a).toArray] W fun e w' => e = .returned (.bool (priv a)) ∧ Below W.heap.size W w') := Lib.hid (fun W g hc hg => by rw [← priv_four]; exact rheld_any g 4 privL a W hc hg (by decide) ha (by decide))
  have HE : ∀ W, (binOp .eql 36 (.agg p.vals.toArray) (.agg knN.vals.toArray)).run Tryd.prog W = .ok (.bool (isKn p)) W := fun W => eqN6 p knN hp rfl W
  have HM : Hid (mayv p a = (!mart4 a && !(isKn p && priv a))) := Lib.hid rfl
  have HI_VP : Hid ((Tryd.prog.info? 36).map (·.size) = some (p.vals).length) := Lib.hid (Tryd.infoNn6 _ hp)
  have HO_VP : Hid ((p.vals).toArray.all (·.oneCell') = true) := Lib.hid (nn_one _)
  have HL_VP : Hid ((p.vals).length = 17) := Lib.hid (by unfold Nn.vals; rw [List.length_append, bu_len, hp]; rfl)
  have HI_VA : Hid ((Tryd.prog.info? 28).map (·.size) = some (bu a).length) := Lib.hid (Tryd.infoU4 _ ha)
  have HO_VA : Hid ((bu a).toArray.all (·.oneCell') = true) := Lib.hid (bu_one _)
  have HL_VA : Hid ((bu a).length = 4) := Lib.hid (by rw [bu_len]; exact ha)
  have HI_VK : Hid ((Tryd.prog.info? 36).map (·.size) = some (knN.vals).length) := Lib.hid (Tryd.infoNn6 _ rfl)
  have HO_VK : Hid ((knN.vals).toArray.all (·.oneCell') = true) := Lib.hid (nn_one _)
  have HL_VK : Hid ((knN.vals).length = 17) := Lib.hid (rfl)
  have HK1 : Hid (Kp w w.heap.size [(w.heap.size + 1, 28, bu a), (w.heap.size, 36, p.vals)] ((w.alloc (.cells p.vals.toArray 36)).alloc (.cells (bu a).toArray 28))) := Lib.hid (kp2 w 36 28 p.vals (bu a))
  generalize mayv p a = R at *
  generalize mart4 a = M at *
  generalize priv a = Q at *
  generalize isKn p = I at *
  generalize p.vals = VP at *
  generalize bu a = VA at *
  generalize knN.vals = VK at *
  generalize okN6 knW = OK at *
  clear hp ha
  generalize hw1 : (w.alloc (.cells VP.toArray 36)).alloc (.cells VA.toArray 28) = w1 at *
  go_enter Tryd.func31, Tryd.ntmps31
  go_upto_region 1 with (fail)
  clear hw1
  go_wp2_with (fail)
  refine (CK.out _).mono ?_
  rintro e w2 ⟨rfl, bb⟩
  have HK2 := Lib.hid (HK1.out.below bb (Nat.le_refl _))
  clear bb HK1
  have ht := (bk_new w2 36 ([.int .u8 0, .int .u8 0, .int .u8 0, .int .u8 0, .int .u8 0, .int .u8 0, .int .u8 0, .int .u8 0, .int .u8 0, .int .u8 0, .int .u8 0, .int .u8 0, .int .u8 0, .int .u8 0, .int .u8 0, .int .u8 0, .int .i64 0] : List Value).toArray).there VK.toArray.size (by have := HL_VK.out; simp; omega)
  go_upto_region 2 with ((refine wpList_store_mid rfl 36 _ _ rfl w2.heap.size 0 VK.toArray rfl rfl ht (by simpa using HI_VK.out) HO_VK.out ?_))
  have HK3 := Lib.hid (HK2.out.put 36 ([.int .u8 0, .int .u8 0, .int .u8 0, .int .u8 0, .int .u8 0, .int .u8 0, .int .u8 0, .int .u8 0, .int .u8 0, .int .u8 0, .int .u8 0, .int .u8 0, .int .u8 0, .int .u8 0, .int .u8 0, .int .u8 0, .int .i64 0] : List Value).toArray VK (by have := HL_VK.out; simp; omega))
  clear ht HK2
  generalize (w2.alloc (.cells ([.int .u8 0, .int .u8 0, .int .u8 0, .int .u8 0, .int .u8 0, .int .u8 0, .int .u8 0, .int .u8 0, .int .u8 0, .int .u8 0, .int .u8 0, .int .u8 0, .int .u8 0, .int .u8 0, .int .u8 0, .int .u8 0, .int .i64 0] : List Value).toArray 36)).setCells w2.heap.size 0 VK = w3 at *
  generalize w2.heap.size = g3 at *
  have HKb := Lib.hid (HK3.out.alloc (.cells #[.string ⟨#[49, 48, 46, 48, 46, 48, 46, 48, 47, 56]⟩, .string ⟨#[49, 55, 50, 46, 49, 54, 46, 48, 46, 48, 47, 49, 50]⟩, .string ⟨#[49, 57, 50, 46, 49, 54, 56, 46, 48, 46, 48, 47, 49, 54]⟩, .string ⟨#[49, 48, 48, 46, 54, 52, 46, 48, 46, 48, 47, 49, 48]⟩] 9))
  have hbk : Bk (w3.alloc (.cells #[.string ⟨#[49, 48, 46, 48, 46, 48, 46, 48, 47, 56]⟩, .string ⟨#[49, 55, 50, 46, 49, 54, 46, 48, 46, 48, 47, 49, 50]⟩, .string ⟨#[49, 57, 50, 46, 49, 54, 56, 46, 48, 46, 48, 47, 49, 54]⟩, .string ⟨#[49, 48, 48, 46, 54, 52, 46, 48, 46, 48, 47, 49, 48]⟩] 9)) w3.heap.size 9 #[.string ⟨#[49, 48, 46, 48, 46, 48, 46, 48, 47, 56]⟩, .string ⟨#[49, 55, 50, 46, 49, 54, 46, 48, 46, 48, 47, 49, 50]⟩, .string ⟨#[49, 57, 50, 46, 49, 54, 56, 46, 48, 46, 48, 47, 49, 54]⟩, .string ⟨#[49, 48, 48, 46, 54, 52, 46, 48, 46, 48, 47, 49, 48]⟩] := bk_new _ _ _
  have HSC : Hid (StrC w3.heap.size privL (w3.alloc (.cells #[.string ⟨#[49, 48, 46, 48, 46, 48, 46, 48, 47, 56]⟩, .string ⟨#[49, 55, 50, 46, 49, 54, 46, 48, 46, 48, 47, 49, 50]⟩, .string ⟨#[49, 57, 50, 46, 49, 54, 56, 46, 48, 46, 48, 47, 49, 54]⟩, .string ⟨#[49, 48, 48, 46, 54, 52, 46, 48, 46, 48, 47, 49, 48]⟩] 9))) := Lib.hid (fun i hi => by
    have : i = 0 ∨ i = 1 ∨ i = 2 ∨ i = 3 := by have : privL.length = 4 := rfl; omega
    rcases this with rfl | rfl | rfl | rfl <;> exact hbk.c _ _ rfl)
  have HLT : Hid (w3.heap.size < (w3.alloc (.cells #[.string ⟨#[49, 48, 46, 48, 46, 48, 46, 48, 47, 56]⟩, .string ⟨#[49, 55, 50, 46, 49, 54, 46, 48, 46, 48, 47, 49, 50]⟩, .string ⟨#[49, 57, 50, 46, 49, 54, 56, 46, 48, 46, 48, 47, 49, 54]⟩, .string ⟨#[49, 48, 48, 46, 54, 52, 46, 48, 46, 48, 47, 49, 48]⟩] 9)).heap.size) := Lib.hid (by simp)
  clear hbk
  have hr0 := HK3.out.tl.tl.hd.range
  have hr1 := HK3.out.hd.range
  have hr2 := HKb.out.tl.hd.range
  have hr3 := HK3.out.tl.hd.range
  cases I
  · go_upto_region 4 with (first | (refine wpList_load_mid rfl 36 _ rfl w.heap.size 0 rfl VP _ hr0 Tryd.underlying36 rfl HI_VP.out ?_) | (refine wpList_load_mid rfl 36 _ rfl g3 0 rfl VK _ hr1 Tryd.underlying36 rfl HI_VK.out ?_))
    clear hr0 hr1 hr2
    go_wp2_with (refine wpList_load_mid rfl 28 _ rfl (w.heap.size + 1) 0 rfl VA _ hr3 Tryd.underlying28 rfl HI_VA.out ?_)
    refine (CM.out _).mono ?_
    rintro e w9 ⟨rfl, b9⟩
    have HK9 := Lib.hid (HK3.out.below b9 (Nat.le_refl _))
    have HX : Hid (R = !M) := Lib.hid (by rw [HM.out]; simp)
    clear HM b9 HKb
    go_wp2_with fail
    go_ret
    exact ⟨by rw [HX.out]; rfl, HK9.out.2.1⟩
  · go_wp2_with (first | (refine wpList_load_mid rfl 36 _ rfl w.heap.size 0 rfl VP _ hr0 Tryd.underlying36 rfl HI_VP.out ?_) | (refine wpList_load_mid rfl 36 _ rfl g3 0 rfl VK _ hr1 Tryd.underlying36 rfl HI_VK.out ?_) | (refine wpList_load_if (by rfl) 28 _ rfl (w.heap.size + 1) 0 rfl VA _ hr2 Tryd.underlying28 rfl HI_VA.out ?_))
    refine (CH.out _ _ HSC.out HLT.out).mono ?_
    rintro e w9 ⟨rfl, b9⟩
    have HK9 := Lib.hid (HKb.out.below b9 (Nat.le_refl _))
    clear b9 HKb hr0 hr1 hr2 hr3 HSC HLT
    cases Q
    · have hr2 := HK9.out.tl.hd.range
      go_wp2_with (refine wpList_load_mid rfl 28 _ rfl (w.heap.size + 1) 0 rfl VA _ hr2 Tryd.underlying28 rfl HI_VA.out ?_)
      refine (CM.out _).mono ?_
      rintro e w10 ⟨rfl, b9⟩
      have HK10 := Lib.hid (HK9.out.below b9 (Nat.le_refl _))
      have HX : Hid (R = !M) := Lib.hid (by rw [HM.out]; simp)
      clear HM b9
      go_wp2_with fail
      go_ret
      exact ⟨by rw [HX.out]; rfl, HK10.out.2.1⟩
    · have HX : Hid (R = false) := Lib.hid (by rw [HM.out]; simp)
      clear HM
      go_wp2_with fail
      go_ret
      exact ⟨by rw [HX.out]; rfl, HK9.out.2.1⟩

theorem kp_bel {w0 w : World} {B : Nat} {l : List (Nat × TypeId × List Value)} (h : Kp w0 B l w) : Below B w0 w := h.2.1
set_option maxRecDepth 100000 in
set_option maxHeartbeats 8000000 in
theorem classHolds_any (m n : Nn) (a x : List UInt8) (w : World) (hm : m.ad.length = 4) (hn : n.ad.length = 16) (ha : a.length = 4) (hx : x.length = 16) (h0 : Hw w) (hv : Vc w) (h6 : w.rangeAt 2 0 (flatN mL6)) :
    Calls Tryd.prog 5 #[.agg m.vals.toArray, .agg n.vals.toArray, .agg (bu a).toArray, .agg (bu x).toArray] w fun e w' => e = .returned (.bool true) ∧ Below w.heap.size w w' := by
  have HW := Lib.hid h0
  have HV := Lib.hid hv
  have HG := Lib.hid h6
  have CA := Lib.hid (fun W (h : Hw W) => awakec_true W h)
  have K1 : Hid (∀ W, Calls Tryd.prog 23 #[.agg m.vals.toArray, .agg (bu a).toArray] W fun e w' => e = .returned (.bool (m.holds a)) ∧ Below W.heap.size W w') := Lib.hid (fun W => holds4_any m a W hm ha)
  have D1 : Hid (∀ W, Calls Tryd.prog 24 #[.agg m.vals.toArray, .agg (bu a).toArray] W fun e w' => e = .returned (.bool (m.holds a)) ∧ Below W.heap.size W w') := Lib.hid (fun W => rholds4_any m a hm ha W)
  have K2 : Hid (∀ W, Calls Tryd.prog 25 #[.agg n.vals.toArray, .agg (bu x).toArray] W fun e w' => e = .returned (.bool (n.holds x)) ∧ Below W.heap.size W w') := Lib.hid (fun W => holds6_any n x W hn hx)
  have D2 : Hid (∀ W, Calls Tryd.prog 26 #[.agg n.vals.toArray, .agg (bu x).toArray] W fun e w' => e = .returned (.bool (n.holds x)) ∧ Below W.heap.size W w') := Lib.hid (fun W => rholds6_any n x hn hx W)
  have K3 : Hid (∀ W, Vc W → Calls Tryd.prog 27 #[.agg (bu a).toArray] W fun e w' => e = .returned (.bool (mart4 a)) ∧ Below W.heap.size W w') := Lib.hid (fun W h => mart4_any a W ha h.m4)
  have D3 : Hid (∀ W, Calls Tryd.prog 28 #[.agg (bu a).toArray] W fun e w' => e = .returned (.bool (mart4 a)) ∧ Below W.heap.size W w') := Lib.hid (fun W => by rw [← mars_four]; exact rmartian4_any a ha W)
  have K4 : Hid (∀ W, W.rangeAt 2 0 (flatN mL6) → Calls Tryd.prog 29 #[.agg (bu x).toArray] W fun e w' => e = .returned (.bool (mart6 x)) ∧ Below W.heap.size W w') := Lib.hid (fun W h => mart6_any x W hx h)
  have D4 : Hid (∀ W, Calls Tryd.prog 30 #[.agg (bu x).toArray] W fun e w' => e = .returned (.bool (mart6 x)) ∧ Below W.heap.size W w') := Lib.hid (fun W => rmartian6_any x hx W)
  have K5 : Hid (∀ W, Vc W → Calls Tryd.prog 18 #[.agg n.vals.toArray, .agg (bu a).toArray] W fun e w' => e = .returned (.bool (mayv n a)) ∧ Below W.heap.size W w') := Lib.hid (fun W h => may_any n a W hn ha h.m4 h.pr h.kn)
  have D5 : Hid (∀ W, Calls Tryd.prog 31 #[.agg n.vals.toArray, .agg (bu a).toArray] W fun e w' => e = .returned (.bool (mayv n a)) ∧ Below W.heap.size W w') := Lib.hid (fun W => rmay_any n a W hn ha)
  have HI_VM : Hid ((Tryd.prog.info? 32).map (·.size) = some (m.vals).length) := Lib.hid (Tryd.infoNn4 _ hm)
  have HO_VM : Hid ((m.vals).toArray.all (·.oneCell') = true) := Lib.hid (nn_one _)
  have HL_VM : Hid ((m.vals).length = 5) := Lib.hid (by unfold Nn.vals; rw [List.length_append, bu_len, hm]; rfl)
  have HI_VN : Hid ((Tryd.prog.info? 36).map (·.size) = some (n.vals).length) := Lib.hid (Tryd.infoNn6 _ hn)
  have HO_VN : Hid ((n.vals).toArray.all (·.oneCell') = true) := Lib.hid (nn_one _)
  have HL_VN : Hid ((n.vals).length = 17) := Lib.hid (by unfold Nn.vals; rw [List.length_append, bu_len, hn]; rfl)
  have HI_VA : Hid ((Tryd.prog.info? 28).map (·.size) = some (bu a).length) := Lib.hid (Tryd.infoU4 _ ha)
  have HO_VA : Hid ((bu a).toArray.all (·.oneCell') = true) := Lib.hid (bu_one _)
  have HL_VA : Hid ((bu a).length = 4) := Lib.hid (by rw [bu_len]; exact ha)
  have HI_VX : Hid ((Tryd.prog.info? 24).map (·.size) = some (bu x).length) := Lib.hid (Tryd.infoU6 _ hx)
  have HO_VX : Hid ((bu x).toArray.all (·.oneCell') = true) := Lib.hid (bu_one _)
  have HL_VX : Hid ((bu x).length = 16) := Lib.hid (by rw [bu_len]; exact hx)
  have HK1 : Hid (Kp w w.heap.size [(w.heap.size + 1 + 1 + 1, 24, bu x), (w.heap.size + 1 + 1, 28, bu a), (w.heap.size + 1, 36, n.vals), (w.heap.size, 32, m.vals)] ((((w.alloc (.cells m.vals.toArray 32)).alloc (.cells n.vals.toArray 36)).alloc (.cells (bu a).toArray 28)).alloc (.cells (bu x).toArray 24))) := Lib.hid (by
    have h := (kp2 w 32 36 m.vals n.vals).new 28 (bu a)
    have e : ((w.alloc (.cells m.vals.toArray 32)).alloc (.cells n.vals.toArray 36)).heap.size = w.heap.size + 1 + 1 := by simp
    rw [e] at h
    have h2 := h.new 24 (bu x)
    have e2 : (((w.alloc (.cells m.vals.toArray 32)).alloc (.cells n.vals.toArray 36)).alloc (.cells (bu a).toArray 28)).heap.size = w.heap.size + 1 + 1 + 1 := by simp
    rwa [e2] at h2)
  clear hm hn ha hx h0 hv h6
  generalize m.holds a = R1 at *
  generalize n.holds x = R2 at *
  generalize mart4 a = R3 at *
  generalize mart6 x = R4 at *
  generalize mayv n a = R5 at *
  generalize m.vals = VM at *
  generalize n.vals = VN at *
  generalize bu a = VA at *
  generalize bu x = VX at *
  generalize hw1 : (((w.alloc (.cells VM.toArray 32)).alloc (.cells VN.toArray 36)).alloc (.cells VA.toArray 28)).alloc (.cells VX.toArray 24) = w1 at *
  go_enter Tryd.func5, Tryd.ntmps5
  go_upto_region 1 with (fail)
  clear hw1
  go_wp2_with (fail)
  refine (CA.out _ (HW.out.below HK1.out.2.1)).mono ?_
  rintro e w2 ⟨rfl, bb⟩
  have HK2 := Lib.hid (HK1.out.below bb (Nat.le_refl _))
  clear bb HK1
  go_upto_region 3 with (fail)
  have HKR : Hid (∀ W : World, Kp w w.heap.size [(w.heap.size + 1 + 1 + 1, 24, VX), (w.heap.size + 1 + 1, 28, VA), (w.heap.size + 1, 36, VN), (w.heap.size, 32, VM)] W → (fun w' => Kp w w.heap.size [(w.heap.size + 1 + 1 + 1, 24, VX), (w.heap.size + 1 + 1, 28, VA), (w.heap.size + 1, 36, VN), (w.heap.size, 32, VM)] w' ∧ w'.rangeAt (w.heap.size + 1 + 1 + 1) 0 VX ∧ w'.rangeAt (w.heap.size + 1 + 1) 0 VA ∧ w'.rangeAt (w.heap.size + 1) 0 VN ∧ w'.rangeAt (w.heap.size) 0 VM) W) := Lib.hid (fun W k => ⟨k, k.hd.range, k.tl.hd.range, k.tl.tl.hd.range, k.tl.tl.tl.hd.range⟩)
  refine wp_region_noPanic ?_
  refine wp_region_held_drew (S := fun w' => Kp w w.heap.size [(w.heap.size + 1 + 1 + 1, 24, VX), (w.heap.size + 1 + 1, 28, VA), (w.heap.size + 1, 36, VN), (w.heap.size, 32, VM)] w' ∧ w'.rangeAt (w.heap.size + 1 + 1 + 1) 0 VX ∧ w'.rangeAt (w.heap.size + 1 + 1) 0 VA ∧ w'.rangeAt (w.heap.size + 1) 0 VN ∧ w'.rangeAt (w.heap.size) 0 VM) (by kernel_rfl) (HKR.out _ HK2.out.drew) (fun hHeld => ?_)
  refine wpAnyH_take (i := 0) (oi := { dst := some 11, op := Op.load 32 (Operand.tmp 4), type := 32, pos := "law.go:41", after := #[], guard := none }) (v := .agg (VM).toArray) rfl (by kernel_rfl) (by kernel_rfl) (by kernel_rfl) (fun _ _ _ h => h) (yieldsIf_load_mid (by rfl) _ _ rfl (w.heap.size) 0 rfl (VM) _ (fun ww hSw => hSw.2.2.2.2) Tryd.underlying32 rfl HI_VM.out) (by assumption) ?_
  (try simp only [Act.put, List.setIfInBounds_toArray, List.set_cons_zero, List.set_cons_succ])
  refine wpAnyH_take (i := 1) (oi := { dst := some 12, op := Op.load 28 (Operand.tmp 6), type := 28, pos := "law.go:41", after := #[], guard := none }) (v := .agg (VA).toArray) rfl (by kernel_rfl) (by kernel_rfl) (by kernel_rfl) (fun _ _ _ h => h) (yieldsIf_load_mid (by rfl) _ _ rfl (w.heap.size + 1 + 1) 0 rfl (VA) _ (fun ww hSw => hSw.2.2.1) Tryd.underlying28 rfl HI_VA.out) (by assumption) ?_
  (try simp only [Act.put, List.setIfInBounds_toArray, List.set_cons_zero, List.set_cons_succ])
  refine wpAnyH_take (i := 3) (oi := { dst := some 14, op := Op.load 32 (Operand.tmp 4), type := 32, pos := "law.go:41", after := #[], guard := none }) (v := .agg (VM).toArray) rfl (by kernel_rfl) (by kernel_rfl) (by kernel_rfl) (fun _ _ _ h => h) (yieldsIf_load_mid (by rfl) _ _ rfl (w.heap.size) 0 rfl (VM) _ (fun ww hSw => hSw.2.2.2.2) Tryd.underlying32 rfl HI_VM.out) (by assumption) ?_
  (try simp only [Act.put, List.setIfInBounds_toArray, List.set_cons_zero, List.set_cons_succ])
  refine wpAnyH_take (i := 4) (oi := { dst := some 15, op := Op.load 28 (Operand.tmp 6), type := 28, pos := "law.go:41", after := #[], guard := none }) (v := .agg (VA).toArray) rfl (by kernel_rfl) (by kernel_rfl) (by kernel_rfl) (fun _ _ _ h => h) (yieldsIf_load_mid (by rfl) _ _ rfl (w.heap.size + 1 + 1) 0 rfl (VA) _ (fun ww hSw => hSw.2.2.1) Tryd.underlying28 rfl HI_VA.out) (by assumption) ?_
  (try simp only [Act.put, List.setIfInBounds_toArray, List.set_cons_zero, List.set_cons_succ])
  refine wpAnyH_ready (rs := [2]) (by kernel_rfl) (by simp) ?_
  refine AllReadyH.cons (o := { dst := some 13, op := Op.call { callee := Callee.value (Operand.func 23), args := #[Operand.tmp 11, Operand.tmp 12], argTypes := #[32, 28] }, type := 4, pos := "law.go:41", after := #[{ on := 0, ground := Ground.data }, { on := 1, ground := Ground.data }], guard := none }) rfl (fun K hK => ?_) AllReadyH.nil
  go_simp
  ((with_reducible refine (K1.out _).mono ?_); rintro e w9 ⟨rfl, hb9⟩)
  refine hK.out _ _ (HKR.out _ ((And.left hHeld).below hb9 (Nat.le_refl _))) (fun hHeld => ?_)
  clear hK K
  (try simp only [Act.put, List.setIfInBounds_toArray, List.set_cons_zero, List.set_cons_succ])
  refine wpAnyH_ready (rs := [5]) (by kernel_rfl) (by simp) ?_
  refine AllReadyH.cons (o := { dst := some 16, op := Op.call { callee := Callee.value (Operand.func 24), args := #[Operand.tmp 14, Operand.tmp 15], argTypes := #[32, 28] }, type := 4, pos := "law.go:41", after := #[{ on := 3, ground := Ground.data }, { on := 4, ground := Ground.data }, { on := 2, ground := Ground.chain }], guard := none }) rfl (fun K hK => ?_) AllReadyH.nil
  go_simp
  ((with_reducible refine (D1.out _).mono ?_); rintro e w9 ⟨rfl, hb9⟩)
  refine hK.out _ _ (HKR.out _ ((And.left hHeld).below hb9 (Nat.le_refl _))) (fun hHeld => ?_)
  clear hK K
  (try simp only [Act.put, List.setIfInBounds_toArray, List.set_cons_zero, List.set_cons_succ])
  refine wpAnyH_take (i := 6) (oi := { dst := some 17, op := Op.binOp BinOp.eql 4 (Operand.tmp 13) (Operand.tmp 16) 4, type := 4, pos := "law.go:41", after := #[{ on := 2, ground := Ground.data }, { on := 5, ground := Ground.data }], guard := none }) (v := .bool true) rfl (by kernel_rfl) (by kernel_rfl) (by kernel_rfl) (fun _ _ _ h => h) (Or.inl ⟨by rfl, fun ww _ => by cases R1 <;> rfl⟩) (by assumption) ?_
  (try simp only [Act.put, List.setIfInBounds_toArray, List.set_cons_zero, List.set_cons_succ])
  refine wpAnyH_take (i := 7) (oi := { dst := some 18, op := Op.move (Operand.tmp 17), type := 4, pos := "law.go:41", after := #[{ on := 6, ground := Ground.data }, { on := 5, ground := Ground.chain }], guard := none }) (v := ?_) rfl (by kernel_rfl) (by kernel_rfl) (by kernel_rfl) (fun _ _ _ h => h) (Or.inl ⟨by rfl, ?_⟩) (by assumption) ?_
  rotate_left
  · (intro ww hSw; (try dsimp only at hSw); go_simp; try with_reducible rfl)
  (try simp only [Act.put, List.setIfInBounds_toArray, List.set_cons_zero, List.set_cons_succ])
  refine wpAnyH_take (i := 8) (oi := { dst := some 19, op := Op.load 36 (Operand.tmp 5), type := 36, pos := "law.go:41", after := #[{ on := 7, ground := Ground.guard }], guard := some (7, true) }) (v := .agg (VN).toArray) rfl (by kernel_rfl) (by kernel_rfl) (by kernel_rfl) (fun _ _ _ h => h) (yieldsIf_load_mid (by rfl) _ _ rfl (w.heap.size + 1) 0 rfl (VN) _ (fun ww hSw => hSw.2.2.2.1) Tryd.underlying36 rfl HI_VN.out) (by assumption) ?_
  (try simp only [Act.put, List.setIfInBounds_toArray, List.set_cons_zero, List.set_cons_succ])
  refine wpAnyH_take (i := 9) (oi := { dst := some 20, op := Op.load 24 (Operand.tmp 7), type := 24, pos := "law.go:41", after := #[{ on := 7, ground := Ground.guard }], guard := some (7, true) }) (v := .agg (VX).toArray) rfl (by kernel_rfl) (by kernel_rfl) (by kernel_rfl) (fun _ _ _ h => h) (yieldsIf_load_mid (by rfl) _ _ rfl (w.heap.size + 1 + 1 + 1) 0 rfl (VX) _ (fun ww hSw => hSw.2.1) Tryd.underlying24 rfl HI_VX.out) (by assumption) ?_
  (try simp only [Act.put, List.setIfInBounds_toArray, List.set_cons_zero, List.set_cons_succ])
  refine wpAnyH_take (i := 11) (oi := { dst := some 22, op := Op.load 36 (Operand.tmp 5), type := 36, pos := "law.go:41", after := #[{ on := 7, ground := Ground.guard }], guard := some (7, true) }) (v := .agg (VN).toArray) rfl (by kernel_rfl) (by kernel_rfl) (by kernel_rfl) (fun _ _ _ h => h) (yieldsIf_load_mid (by rfl) _ _ rfl (w.heap.size + 1) 0 rfl (VN) _ (fun ww hSw => hSw.2.2.2.1) Tryd.underlying36 rfl HI_VN.out) (by assumption) ?_
  (try simp only [Act.put, List.setIfInBounds_toArray, List.set_cons_zero, List.set_cons_succ])
  refine wpAnyH_take (i := 12) (oi := { dst := some 23, op := Op.load 24 (Operand.tmp 7), type := 24, pos := "law.go:41", after := #[{ on := 7, ground := Ground.guard }], guard := some (7, true) }) (v := .agg (VX).toArray) rfl (by kernel_rfl) (by kernel_rfl) (by kernel_rfl) (fun _ _ _ h => h) (yieldsIf_load_mid (by rfl) _ _ rfl (w.heap.size + 1 + 1 + 1) 0 rfl (VX) _ (fun ww hSw => hSw.2.1) Tryd.underlying24 rfl HI_VX.out) (by assumption) ?_
  (try simp only [Act.put, List.setIfInBounds_toArray, List.set_cons_zero, List.set_cons_succ])
  refine wpAnyH_ready (rs := [10]) (by kernel_rfl) (by simp) ?_
  refine AllReadyH.cons (o := { dst := some 21, op := Op.call { callee := Callee.value (Operand.func 25), args := #[Operand.tmp 19, Operand.tmp 20], argTypes := #[36, 24] }, type := 4, pos := "law.go:41", after := #[{ on := 8, ground := Ground.data }, { on := 9, ground := Ground.data }, { on := 7, ground := Ground.chain }, { on := 7, ground := Ground.guard }], guard := some (7, true) }) rfl (fun K hK => ?_) AllReadyH.nil
  go_simp
  ((with_reducible refine (K2.out _).mono ?_); rintro e w9 ⟨rfl, hb9⟩)
  refine hK.out _ _ (HKR.out _ ((And.left hHeld).below hb9 (Nat.le_refl _))) (fun hHeld => ?_)
  clear hK K
  (try simp only [Act.put, List.setIfInBounds_toArray, List.set_cons_zero, List.set_cons_succ])
  refine wpAnyH_ready (rs := [13]) (by kernel_rfl) (by simp) ?_
  refine AllReadyH.cons (o := { dst := some 24, op := Op.call { callee := Callee.value (Operand.func 26), args := #[Operand.tmp 22, Operand.tmp 23], argTypes := #[36, 24] }, type := 4, pos := "law.go:41", after := #[{ on := 11, ground := Ground.data }, { on := 12, ground := Ground.data }, { on := 10, ground := Ground.chain }, { on := 7, ground := Ground.guard }], guard := some (7, true) }) rfl (fun K hK => ?_) AllReadyH.nil
  go_simp
  ((with_reducible refine (D2.out _).mono ?_); rintro e w9 ⟨rfl, hb9⟩)
  refine hK.out _ _ (HKR.out _ ((And.left hHeld).below hb9 (Nat.le_refl _))) (fun hHeld => ?_)
  clear hK K
  (try simp only [Act.put, List.setIfInBounds_toArray, List.set_cons_zero, List.set_cons_succ])
  refine wpAnyH_take (i := 14) (oi := { dst := some 25, op := Op.binOp BinOp.eql 4 (Operand.tmp 21) (Operand.tmp 24) 4, type := 4, pos := "law.go:41", after := #[{ on := 10, ground := Ground.data }, { on := 13, ground := Ground.data }, { on := 7, ground := Ground.guard }], guard := some (7, true) }) (v := .bool true) rfl (by kernel_rfl) (by kernel_rfl) (by kernel_rfl) (fun _ _ _ h => h) (Or.inl ⟨by rfl, fun ww _ => by cases R2 <;> rfl⟩) (by assumption) ?_
  (try simp only [Act.put, List.setIfInBounds_toArray, List.set_cons_zero, List.set_cons_succ])
  refine wpAnyH_take (i := 15) (oi := { dst := some 26, op := Op.pick (Operand.tmp 18) (Operand.tmp 25) (Operand.const (Value.bool false)), type := 4, pos := "law.go:41", after := #[{ on := 7, ground := Ground.data }, { on := 14, ground := Ground.data }], guard := none }) (v := ?_) rfl (by kernel_rfl) (by kernel_rfl) (by kernel_rfl) (fun _ _ _ h => h) (Or.inl ⟨by rfl, ?_⟩) (by assumption) ?_
  rotate_left
  · (intro ww hSw; (try dsimp only at hSw); go_simp; try with_reducible rfl)
  (try simp only [Act.put, List.setIfInBounds_toArray, List.set_cons_zero, List.set_cons_succ])
  refine wpAnyH_take (i := 16) (oi := { dst := some 27, op := Op.move (Operand.tmp 26), type := 4, pos := "law.go:41", after := #[{ on := 15, ground := Ground.data }, { on := 13, ground := Ground.chain }], guard := none }) (v := ?_) rfl (by kernel_rfl) (by kernel_rfl) (by kernel_rfl) (fun _ _ _ h => h) (Or.inl ⟨by rfl, ?_⟩) (by assumption) ?_
  rotate_left
  · (intro ww hSw; (try dsimp only at hSw); go_simp; try with_reducible rfl)
  (try simp only [Act.put, List.setIfInBounds_toArray, List.set_cons_zero, List.set_cons_succ])
  refine wpAnyH_take (i := 17) (oi := { dst := some 28, op := Op.load 28 (Operand.tmp 6), type := 28, pos := "law.go:41", after := #[{ on := 16, ground := Ground.guard }], guard := some (16, true) }) (v := .agg (VA).toArray) rfl (by kernel_rfl) (by kernel_rfl) (by kernel_rfl) (fun _ _ _ h => h) (yieldsIf_load_mid (by rfl) _ _ rfl (w.heap.size + 1 + 1) 0 rfl (VA) _ (fun ww hSw => hSw.2.2.1) Tryd.underlying28 rfl HI_VA.out) (by assumption) ?_
  (try simp only [Act.put, List.setIfInBounds_toArray, List.set_cons_zero, List.set_cons_succ])
  refine wpAnyH_take (i := 19) (oi := { dst := some 30, op := Op.load 28 (Operand.tmp 6), type := 28, pos := "law.go:41", after := #[{ on := 16, ground := Ground.guard }], guard := some (16, true) }) (v := .agg (VA).toArray) rfl (by kernel_rfl) (by kernel_rfl) (by kernel_rfl) (fun _ _ _ h => h) (yieldsIf_load_mid (by rfl) _ _ rfl (w.heap.size + 1 + 1) 0 rfl (VA) _ (fun ww hSw => hSw.2.2.1) Tryd.underlying28 rfl HI_VA.out) (by assumption) ?_
  (try simp only [Act.put, List.setIfInBounds_toArray, List.set_cons_zero, List.set_cons_succ])
  refine wpAnyH_ready (rs := [18]) (by kernel_rfl) (by simp) ?_
  refine AllReadyH.cons (o := { dst := some 29, op := Op.call { callee := Callee.value (Operand.func 27), args := #[Operand.tmp 28], argTypes := #[28] }, type := 4, pos := "law.go:41", after := #[{ on := 17, ground := Ground.data }, { on := 16, ground := Ground.chain }, { on := 16, ground := Ground.guard }], guard := some (16, true) }) rfl (fun K hK => ?_) AllReadyH.nil
  go_simp
  ((with_reducible refine (K3.out _ (HV.out.below (kp_bel (And.left hHeld)))).mono ?_); rintro e w9 ⟨rfl, hb9⟩)
  refine hK.out _ _ (HKR.out _ ((And.left hHeld).below hb9 (Nat.le_refl _))) (fun hHeld => ?_)
  clear hK K
  (try simp only [Act.put, List.setIfInBounds_toArray, List.set_cons_zero, List.set_cons_succ])
  refine wpAnyH_ready (rs := [20]) (by kernel_rfl) (by simp) ?_
  refine AllReadyH.cons (o := { dst := some 31, op := Op.call { callee := Callee.value (Operand.func 28), args := #[Operand.tmp 30], argTypes := #[28] }, type := 4, pos := "law.go:41", after := #[{ on := 19, ground := Ground.data }, { on := 18, ground := Ground.chain }, { on := 16, ground := Ground.guard }], guard := some (16, true) }) rfl (fun K hK => ?_) AllReadyH.nil
  go_simp
  ((with_reducible refine (D3.out _).mono ?_); rintro e w9 ⟨rfl, hb9⟩)
  refine hK.out _ _ (HKR.out _ ((And.left hHeld).below hb9 (Nat.le_refl _))) (fun hHeld => ?_)
  clear hK K
  (try simp only [Act.put, List.setIfInBounds_toArray, List.set_cons_zero, List.set_cons_succ])
  refine wpAnyH_take (i := 21) (oi := { dst := some 32, op := Op.binOp BinOp.eql 4 (Operand.tmp 29) (Operand.tmp 31) 4, type := 4, pos := "law.go:41", after := #[{ on := 18, ground := Ground.data }, { on := 20, ground := Ground.data }, { on := 16, ground := Ground.guard }], guard := some (16, true) }) (v := .bool true) rfl (by kernel_rfl) (by kernel_rfl) (by kernel_rfl) (fun _ _ _ h => h) (Or.inl ⟨by rfl, fun ww _ => by cases R3 <;> rfl⟩) (by assumption) ?_
  (try simp only [Act.put, List.setIfInBounds_toArray, List.set_cons_zero, List.set_cons_succ])
  refine wpAnyH_take (i := 22) (oi := { dst := some 33, op := Op.pick (Operand.tmp 27) (Operand.tmp 32) (Operand.const (Value.bool false)), type := 4, pos := "law.go:41", after := #[{ on := 16, ground := Ground.data }, { on := 21, ground := Ground.data }], guard := none }) (v := ?_) rfl (by kernel_rfl) (by kernel_rfl) (by kernel_rfl) (fun _ _ _ h => h) (Or.inl ⟨by rfl, ?_⟩) (by assumption) ?_
  rotate_left
  · (intro ww hSw; (try dsimp only at hSw); go_simp; try with_reducible rfl)
  (try simp only [Act.put, List.setIfInBounds_toArray, List.set_cons_zero, List.set_cons_succ])
  refine wpAnyH_take (i := 23) (oi := { dst := some 34, op := Op.move (Operand.tmp 33), type := 4, pos := "law.go:41", after := #[{ on := 22, ground := Ground.data }, { on := 20, ground := Ground.chain }], guard := none }) (v := ?_) rfl (by kernel_rfl) (by kernel_rfl) (by kernel_rfl) (fun _ _ _ h => h) (Or.inl ⟨by rfl, ?_⟩) (by assumption) ?_
  rotate_left
  · (intro ww hSw; (try dsimp only at hSw); go_simp; try with_reducible rfl)
  (try simp only [Act.put, List.setIfInBounds_toArray, List.set_cons_zero, List.set_cons_succ])
  refine wpAnyH_take (i := 24) (oi := { dst := some 35, op := Op.load 24 (Operand.tmp 7), type := 24, pos := "law.go:41", after := #[{ on := 23, ground := Ground.guard }], guard := some (23, true) }) (v := .agg (VX).toArray) rfl (by kernel_rfl) (by kernel_rfl) (by kernel_rfl) (fun _ _ _ h => h) (yieldsIf_load_mid (by rfl) _ _ rfl (w.heap.size + 1 + 1 + 1) 0 rfl (VX) _ (fun ww hSw => hSw.2.1) Tryd.underlying24 rfl HI_VX.out) (by assumption) ?_
  (try simp only [Act.put, List.setIfInBounds_toArray, List.set_cons_zero, List.set_cons_succ])
  refine wpAnyH_take (i := 26) (oi := { dst := some 37, op := Op.load 24 (Operand.tmp 7), type := 24, pos := "law.go:41", after := #[{ on := 23, ground := Ground.guard }], guard := some (23, true) }) (v := .agg (VX).toArray) rfl (by kernel_rfl) (by kernel_rfl) (by kernel_rfl) (fun _ _ _ h => h) (yieldsIf_load_mid (by rfl) _ _ rfl (w.heap.size + 1 + 1 + 1) 0 rfl (VX) _ (fun ww hSw => hSw.2.1) Tryd.underlying24 rfl HI_VX.out) (by assumption) ?_
  (try simp only [Act.put, List.setIfInBounds_toArray, List.set_cons_zero, List.set_cons_succ])
  refine wpAnyH_ready (rs := [25]) (by kernel_rfl) (by simp) ?_
  refine AllReadyH.cons (o := { dst := some 36, op := Op.call { callee := Callee.value (Operand.func 29), args := #[Operand.tmp 35], argTypes := #[24] }, type := 4, pos := "law.go:41", after := #[{ on := 24, ground := Ground.data }, { on := 23, ground := Ground.chain }, { on := 23, ground := Ground.guard }], guard := some (23, true) }) rfl (fun K hK => ?_) AllReadyH.nil
  go_simp
  ((with_reducible refine (K4.out _ (rangeAt_below HG.out (kp_bel (And.left hHeld)))).mono ?_); rintro e w9 ⟨rfl, hb9⟩)
  refine hK.out _ _ (HKR.out _ ((And.left hHeld).below hb9 (Nat.le_refl _))) (fun hHeld => ?_)
  clear hK K
  (try simp only [Act.put, List.setIfInBounds_toArray, List.set_cons_zero, List.set_cons_succ])
  refine wpAnyH_ready (rs := [27]) (by kernel_rfl) (by simp) ?_
  refine AllReadyH.cons (o := { dst := some 38, op := Op.call { callee := Callee.value (Operand.func 30), args := #[Operand.tmp 37], argTypes := #[24] }, type := 4, pos := "law.go:41", after := #[{ on := 26, ground := Ground.data }, { on := 25, ground := Ground.chain }, { on := 23, ground := Ground.guard }], guard := some (23, true) }) rfl (fun K hK => ?_) AllReadyH.nil
  go_simp
  ((with_reducible refine (D4.out _).mono ?_); rintro e w9 ⟨rfl, hb9⟩)
  refine hK.out _ _ (HKR.out _ ((And.left hHeld).below hb9 (Nat.le_refl _))) (fun hHeld => ?_)
  clear hK K
  (try simp only [Act.put, List.setIfInBounds_toArray, List.set_cons_zero, List.set_cons_succ])
  refine wpAnyH_take (i := 28) (oi := { dst := some 39, op := Op.binOp BinOp.eql 4 (Operand.tmp 36) (Operand.tmp 38) 4, type := 4, pos := "law.go:41", after := #[{ on := 25, ground := Ground.data }, { on := 27, ground := Ground.data }, { on := 23, ground := Ground.guard }], guard := some (23, true) }) (v := .bool true) rfl (by kernel_rfl) (by kernel_rfl) (by kernel_rfl) (fun _ _ _ h => h) (Or.inl ⟨by rfl, fun ww _ => by cases R4 <;> rfl⟩) (by assumption) ?_
  (try simp only [Act.put, List.setIfInBounds_toArray, List.set_cons_zero, List.set_cons_succ])
  refine wpAnyH_take (i := 29) (oi := { dst := some 40, op := Op.pick (Operand.tmp 34) (Operand.tmp 39) (Operand.const (Value.bool false)), type := 4, pos := "law.go:41", after := #[{ on := 23, ground := Ground.data }, { on := 28, ground := Ground.data }], guard := none }) (v := ?_) rfl (by kernel_rfl) (by kernel_rfl) (by kernel_rfl) (fun _ _ _ h => h) (Or.inl ⟨by rfl, ?_⟩) (by assumption) ?_
  rotate_left
  · (intro ww hSw; (try dsimp only at hSw); go_simp; try with_reducible rfl)
  (try simp only [Act.put, List.setIfInBounds_toArray, List.set_cons_zero, List.set_cons_succ])
  refine wpAnyH_take (i := 30) (oi := { dst := some 41, op := Op.move (Operand.tmp 40), type := 4, pos := "law.go:41", after := #[{ on := 29, ground := Ground.data }, { on := 27, ground := Ground.chain }], guard := none }) (v := ?_) rfl (by kernel_rfl) (by kernel_rfl) (by kernel_rfl) (fun _ _ _ h => h) (Or.inl ⟨by rfl, ?_⟩) (by assumption) ?_
  rotate_left
  · (intro ww hSw; (try dsimp only at hSw); go_simp; try with_reducible rfl)
  (try simp only [Act.put, List.setIfInBounds_toArray, List.set_cons_zero, List.set_cons_succ])
  refine wpAnyH_take (i := 31) (oi := { dst := some 42, op := Op.load 36 (Operand.tmp 5), type := 36, pos := "law.go:41", after := #[{ on := 30, ground := Ground.guard }], guard := some (30, true) }) (v := .agg (VN).toArray) rfl (by kernel_rfl) (by kernel_rfl) (by kernel_rfl) (fun _ _ _ h => h) (yieldsIf_load_mid (by rfl) _ _ rfl (w.heap.size + 1) 0 rfl (VN) _ (fun ww hSw => hSw.2.2.2.1) Tryd.underlying36 rfl HI_VN.out) (by assumption) ?_
  (try simp only [Act.put, List.setIfInBounds_toArray, List.set_cons_zero, List.set_cons_succ])
  refine wpAnyH_take (i := 32) (oi := { dst := some 43, op := Op.load 28 (Operand.tmp 6), type := 28, pos := "law.go:41", after := #[{ on := 30, ground := Ground.guard }], guard := some (30, true) }) (v := .agg (VA).toArray) rfl (by kernel_rfl) (by kernel_rfl) (by kernel_rfl) (fun _ _ _ h => h) (yieldsIf_load_mid (by rfl) _ _ rfl (w.heap.size + 1 + 1) 0 rfl (VA) _ (fun ww hSw => hSw.2.2.1) Tryd.underlying28 rfl HI_VA.out) (by assumption) ?_
  (try simp only [Act.put, List.setIfInBounds_toArray, List.set_cons_zero, List.set_cons_succ])
  refine wpAnyH_take (i := 34) (oi := { dst := some 45, op := Op.load 36 (Operand.tmp 5), type := 36, pos := "law.go:41", after := #[{ on := 30, ground := Ground.guard }], guard := some (30, true) }) (v := .agg (VN).toArray) rfl (by kernel_rfl) (by kernel_rfl) (by kernel_rfl) (fun _ _ _ h => h) (yieldsIf_load_mid (by rfl) _ _ rfl (w.heap.size + 1) 0 rfl (VN) _ (fun ww hSw => hSw.2.2.2.1) Tryd.underlying36 rfl HI_VN.out) (by assumption) ?_
  (try simp only [Act.put, List.setIfInBounds_toArray, List.set_cons_zero, List.set_cons_succ])
  refine wpAnyH_take (i := 35) (oi := { dst := some 46, op := Op.load 28 (Operand.tmp 6), type := 28, pos := "law.go:41", after := #[{ on := 30, ground := Ground.guard }], guard := some (30, true) }) (v := .agg (VA).toArray) rfl (by kernel_rfl) (by kernel_rfl) (by kernel_rfl) (fun _ _ _ h => h) (yieldsIf_load_mid (by rfl) _ _ rfl (w.heap.size + 1 + 1) 0 rfl (VA) _ (fun ww hSw => hSw.2.2.1) Tryd.underlying28 rfl HI_VA.out) (by assumption) ?_
  (try simp only [Act.put, List.setIfInBounds_toArray, List.set_cons_zero, List.set_cons_succ])
  refine wpAnyH_ready (rs := [33]) (by kernel_rfl) (by simp) ?_
  refine AllReadyH.cons (o := { dst := some 44, op := Op.call { callee := Callee.value (Operand.func 18), args := #[Operand.tmp 42, Operand.tmp 43], argTypes := #[36, 28] }, type := 4, pos := "law.go:41", after := #[{ on := 31, ground := Ground.data }, { on := 32, ground := Ground.data }, { on := 30, ground := Ground.chain }, { on := 30, ground := Ground.guard }], guard := some (30, true) }) rfl (fun K hK => ?_) AllReadyH.nil
  go_simp
  ((with_reducible refine (K5.out _ (HV.out.below (kp_bel (And.left hHeld)))).mono ?_); rintro e w9 ⟨rfl, hb9⟩)
  refine hK.out _ _ (HKR.out _ ((And.left hHeld).below hb9 (Nat.le_refl _))) (fun hHeld => ?_)
  clear hK K
  (try simp only [Act.put, List.setIfInBounds_toArray, List.set_cons_zero, List.set_cons_succ])
  refine wpAnyH_ready (rs := [36]) (by kernel_rfl) (by simp) ?_
  refine AllReadyH.cons (o := { dst := some 47, op := Op.call { callee := Callee.value (Operand.func 31), args := #[Operand.tmp 45, Operand.tmp 46], argTypes := #[36, 28] }, type := 4, pos := "law.go:41", after := #[{ on := 34, ground := Ground.data }, { on := 35, ground := Ground.data }, { on := 33, ground := Ground.chain }, { on := 30, ground := Ground.guard }], guard := some (30, true) }) rfl (fun K hK => ?_) AllReadyH.nil
  go_simp
  ((with_reducible refine (D5.out _).mono ?_); rintro e w9 ⟨rfl, hb9⟩)
  refine hK.out _ _ (HKR.out _ ((And.left hHeld).below hb9 (Nat.le_refl _))) (fun hHeld => ?_)
  clear hK K
  (try simp only [Act.put, List.setIfInBounds_toArray, List.set_cons_zero, List.set_cons_succ])
  refine wpAnyH_take (i := 37) (oi := { dst := some 48, op := Op.binOp BinOp.eql 4 (Operand.tmp 44) (Operand.tmp 47) 4, type := 4, pos := "law.go:41", after := #[{ on := 33, ground := Ground.data }, { on := 36, ground := Ground.data }, { on := 30, ground := Ground.guard }], guard := some (30, true) }) (v := .bool true) rfl (by kernel_rfl) (by kernel_rfl) (by kernel_rfl) (fun _ _ _ h => h) (Or.inl ⟨by rfl, fun ww _ => by cases R5 <;> rfl⟩) (by assumption) ?_
  (try simp only [Act.put, List.setIfInBounds_toArray, List.set_cons_zero, List.set_cons_succ])
  refine wpAnyH_take (i := 38) (oi := { dst := some 49, op := Op.pick (Operand.tmp 41) (Operand.tmp 48) (Operand.const (Value.bool false)), type := 4, pos := "law.go:41", after := #[{ on := 30, ground := Ground.data }, { on := 37, ground := Ground.data }], guard := none }) (v := ?_) rfl (by kernel_rfl) (by kernel_rfl) (by kernel_rfl) (fun _ _ _ h => h) (Or.inl ⟨by rfl, ?_⟩) (by assumption) ?_
  rotate_left
  · (intro ww hSw; (try dsimp only at hSw); go_simp; try with_reducible rfl)
  (try simp only [Act.put, List.setIfInBounds_toArray, List.set_cons_zero, List.set_cons_succ])
  refine wpAnyH_take (i := 39) (oi := { dst := some 8, op := Op.assign (Operand.tmp 49), type := 4, pos := "law.go:41", after := #[{ on := 38, ground := Ground.data }, { on := 36, ground := Ground.chain }, { on := 0, ground := Ground.phase }, { on := 1, ground := Ground.phase }, { on := 2, ground := Ground.phase }, { on := 3, ground := Ground.phase }, { on := 4, ground := Ground.phase }, { on := 5, ground := Ground.phase }, { on := 6, ground := Ground.phase }, { on := 7, ground := Ground.phase }, { on := 8, ground := Ground.phase }, { on := 9, ground := Ground.phase }, { on := 10, ground := Ground.phase }, { on := 11, ground := Ground.phase }, { on := 12, ground := Ground.phase }, { on := 13, ground := Ground.phase }, { on := 14, ground := Ground.phase }, { on := 15, ground := Ground.phase }, { on := 16, ground := Ground.phase }, { on := 17, ground := Ground.phase }, { on := 18, ground := Ground.phase }, { on := 19, ground := Ground.phase }, { on := 20, ground := Ground.phase }, { on := 21, ground := Ground.phase }, { on := 22, ground := Ground.phase }, { on := 23, ground := Ground.phase }, { on := 24, ground := Ground.phase }, { on := 25, ground := Ground.phase }, { on := 26, ground := Ground.phase }, { on := 27, ground := Ground.phase }, { on := 28, ground := Ground.phase }, { on := 29, ground := Ground.phase }, { on := 30, ground := Ground.phase }, { on := 31, ground := Ground.phase }, { on := 32, ground := Ground.phase }, { on := 33, ground := Ground.phase }, { on := 34, ground := Ground.phase }, { on := 35, ground := Ground.phase }, { on := 36, ground := Ground.phase }, { on := 37, ground := Ground.phase }, { on := 38, ground := Ground.phase }], guard := none }) (v := ?_) rfl (by kernel_rfl) (by kernel_rfl) (by kernel_rfl) (fun _ _ _ h => h) (Or.inl ⟨by rfl, ?_⟩) (by assumption) ?_
  rotate_left
  · (intro ww hSw; (try dsimp only at hSw); go_simp; try with_reducible rfl)
  (try simp only [Act.put, List.setIfInBounds_toArray, List.set_cons_zero, List.set_cons_succ])
  refine wpAnyH_done (by kernel_rfl) ?_ _
  refine NoPanic.normal ?_
  go_wp2_with fail
  go_ret
  exact ⟨rfl, (And.left hHeld).2.1⟩
end Go.Proofs.YtkkgcmfcfacakaaDoor
