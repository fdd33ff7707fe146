/-
  Proved here: what the program's May answers.
  Conditions: the package's lists hold what they are laid with.
-/
import Derived.Test.YtkdplnbabelkoaaDoorMarts
namespace Go.Proofs.YtkdplnbabelkoaaDoor
open Go.RowKit

/-- The well-known prefix. -/
def knN : Nn := ⟨[0, 100, 255, 155, 0, 0, 0, 0, 0, 0, 0, 0, 0, 0, 0, 0], 96⟩
def isKn (p : Nn) : Bool := decide (p.ad = knN.ad) && p.ln == knN.ln
def mart4 (a : List UInt8) : Bool := mL4.any fun p => p.holds a
def mart6 (a : List UInt8) : Bool := mL6.any fun p => p.holds a
def priv (a : List UInt8) : Bool := pL4.any fun p => p.holds a
/-- Whether an address may be translated with a prefix. -/
def mayv (p : Nn) (a : List UInt8) : Bool := !mart4 a && !(isKn p && priv a)
set_option maxRecDepth 100000 in
set_option maxHeartbeats 4000000 in
theorem may_any (p : Nn) (a : List UInt8) (w : World) (hp : p.ad.length = 16) (ha : a.length = 4) (hgm : w.rangeAt 1 0 (flatN mL4)) (hgp : w.rangeAt 3 0 (flatN pL4)) (hgk : w.rangeAt 0 0 knN.vals) :
    Calls Tryd.prog 18 #[.agg p.vals.toArray, .agg (bu a).toArray] w fun e w' => e = .returned (.bool (mayv p a)) ∧ Below w.heap.size w w' := by
  have HR : Hid (mayv p a = (!mart4 a && !(isKn p && priv a))) := Lib.hid rfl
  have CM : Hid (∀ W, W.rangeAt 1 0 (flatN mL4) → Calls Tryd.prog 27 #[.agg (bu a).toArray] W fun e w' => e = .returned (.bool (mart4 a)) ∧ Below W.heap.size W w') := Lib.hid (fun W h => mart4_any a W ha h)
  have CP : Hid (∀ W, W.rangeAt 3 0 (flatN pL4) → Calls Tryd.prog 50 #[.agg (bu a).toArray] W fun e w' => e = .returned (.bool (priv a)) ∧ Below W.heap.size W w') := Lib.hid (fun W h => priv_any a W ha h)
  have heq : ∀ W, (binOp .eql 36 (.agg p.vals.toArray) (.agg knN.vals.toArray)).run Tryd.prog W = .ok (.bool (isKn p)) W := fun W => eqN6 p knN hp rfl W
  have HK1 := Lib.hid (kp2 w 36 28 p.vals (bu a))
  have hb := (((Below.refl w.heap.size w).alloc (Nat.le_refl _) (.cells p.vals.toArray 36)).alloc (by simp) (.cells (bu a).toArray 28))
  have hrm := rangeAt_below hgm hb
  have hrp := rangeAt_below hgp hb
  have hrk := rangeAt_below hgk hb
  have HIA : Hid ((Tryd.prog.info? 28).map (·.size) = some (bu a).length) := Lib.hid (Tryd.infoU4 _ ha)
  have HIP : Hid ((Tryd.prog.info? 36).map (·.size) = some p.vals.length) := Lib.hid (Tryd.infoNn6 p hp)
  have HIK : Hid ((Tryd.prog.info? 36).map (·.size) = some knN.vals.length) := Lib.hid (Tryd.infoNn6 knN rfl)
  generalize mayv p a = R at *
  generalize mart4 a = M at *
  generalize priv a = Pr at *
  generalize isKn p = E at *
  generalize knN.vals = KV at *
  generalize p.vals = PV at *
  generalize bu a = X at *
  generalize flatN mL4 = MV at *
  generalize flatN pL4 = QV at *
  clear hgm hgp hgk hp ha hb
  generalize hw1 : (w.alloc (.cells PV.toArray 36)).alloc (.cells X.toArray 28) = w1 at *
  go_enter Tryd.func18, Tryd.ntmps18
  go_upto_region 1 with (fail)
  clear hw1
  have hrX := HK1.out.hd.range
  cases M
  · cases E
    · have HX : Hid (R = true) := Lib.hid (by rw [HR.out]; rfl)
      clear HR
      go_wp2_with (first | (refine wpList_load_mid rfl 28 _ rfl (w.heap.size + 1) 0 rfl X _ hrX Tryd.underlying28 rfl HIA.out ?_) | (go_at_call 27; refine (CM.out _ hrm).mono ?_; rintro e w2 ⟨rfl, hb2⟩; have HK2 := Lib.hid (HK1.out.below hb2 (Nat.le_refl _)); have hrX := HK2.out.hd.range; have hrP := HK2.out.tl.hd.range; have hrK := rangeAt_below hrk hb2; have hrq := rangeAt_below hrp hb2; clear hrm hrk hrp hb2) | (refine wpList_load_if (by rfl) 36 _ rfl w.heap.size 0 rfl PV _ hrP Tryd.underlying36 rfl HIP.out ?_) | (refine wpList_load_if (by rfl) 36 _ rfl 0 0 rfl KV _ hrK Tryd.underlying36 rfl HIK.out ?_))
      go_ret
      exact ⟨by rw [HX.out]; rfl, HK2.out.2.1⟩
    · have HX : Hid (R = !Pr) := Lib.hid (by rw [HR.out]; rfl)
      clear HR
      go_wp2_with (first | (refine wpList_load_if (by rfl) 28 _ rfl (w.heap.size + 1) 0 rfl X _ hrX Tryd.underlying28 rfl HIA.out ?_) | (go_at_call 27; refine (CM.out _ hrm).mono ?_; rintro e w2 ⟨rfl, hb2⟩; have HK2 := Lib.hid (HK1.out.below hb2 (Nat.le_refl _)); have hrX := HK2.out.hd.range; have hrP := HK2.out.tl.hd.range; have hrK := rangeAt_below hrk hb2; have hrq := rangeAt_below hrp hb2; clear hrm hrk hrp hb2) | (refine wpList_load_if (by rfl) 36 _ rfl w.heap.size 0 rfl PV _ hrP Tryd.underlying36 rfl HIP.out ?_) | (refine wpList_load_if (by rfl) 36 _ rfl 0 0 rfl KV _ hrK Tryd.underlying36 rfl HIK.out ?_) | (go_at_call 50; refine (CP.out _ hrq).mono ?_; rintro e w3 ⟨rfl, hb3⟩; have HK3 := Lib.hid (HK2.out.below hb3 (Nat.le_refl _)); clear hrq hb3))
      go_ret
      exact ⟨by rw [HX.out]; rfl, HK3.out.2.1⟩
  · have HX : Hid (R = false) := Lib.hid (by rw [HR.out]; rfl)
    clear HR
    go_wp2_with (first | (refine wpList_load_mid rfl 28 _ rfl (w.heap.size + 1) 0 rfl X _ hrX Tryd.underlying28 rfl HIA.out ?_) | (go_at_call 27; refine (CM.out _ hrm).mono ?_; rintro e w2 ⟨rfl, hb2⟩; have HK2 := Lib.hid (HK1.out.below hb2 (Nat.le_refl _)); have hrX := HK2.out.hd.range; have hrP := HK2.out.tl.hd.range; have hrK := rangeAt_below hrk hb2; have hrq := rangeAt_below hrp hb2; clear hrm hrk hrp hb2))
    go_ret
    exact ⟨by rw [HX.out]; rfl, HK2.out.2.1⟩
end Go.Proofs.YtkdplnbabelkoaaDoor
