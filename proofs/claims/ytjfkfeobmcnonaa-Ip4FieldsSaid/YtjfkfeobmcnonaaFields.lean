/-
  Proved here: the law Ip4Fields answers true, and leaves old memory as it was.
  Conditions: none.
-/
import Derived.Test.YtjfkfeobmcnonaaFieldsPlain
import Derived.Test.YtjfkfeobmcnonaaLawKit
namespace Go.Proofs.Ytjfkfeobmcnonaa
open Go.RowKit

/-- The packet with its own To as its From, too. -/
def Pkt.mid (p : Pkt) : Pkt := { p with a0 := p.b0, a1 := p.b1, a2 := p.b2, a3 := p.b3 }
theorem puts_mid (p : Pkt) : puts p.vals.toArray 7 [.int .u8 p.b0, .int .u8 p.b1, .int .u8 p.b2, .int .u8 p.b3] = p.mid.vals.toArray := rfl
theorem puts_flip (p : Pkt) : puts p.mid.vals.toArray 11 [.int .u8 p.a0, .int .u8 p.a1, .int .u8 p.a2, .int .u8 p.a3] = p.flip.vals.toArray := rfl
theorem one4 (x0 x1 x2 x3 : Int) : [Value.int .u8 x0, .int .u8 x1, .int .u8 x2, .int .u8 x3].toArray.all (·.oneCell') = true := by simp [Value.oneCell']
set_option maxRecDepth 100000 in
set_option maxHeartbeats 400000 in
theorem ip4Fields_long (p : Pkt) (t : Int) (w : World) (h : 70000 < p.data.size) :
    Calls Try.prog 11 #[.agg p.vals.toArray, .int .u8 t] w fun e w' => e = .returned (.bool true) ∧ Below w.heap.size w w' := by
  obtain ⟨V, hV⟩ : ∃ V, V = (p).vals := ⟨_, rfl⟩
  have HIV : Hid ((Try.prog.info? 29).map (·.size) = some V.length) := Lib.hid (by rw [hV]; exact Try.infoIp (p))
  have HOV : Hid (V.toArray.all (·.oneCell') = true) := Lib.hid (by rw [hV]; exact vals_one (p))
  have HPV : Hid (∀ q : Pkt, puts q.vals.toArray 0 V = V.toArray) := Lib.hid (fun q => by rw [hV]; exact puts_all q (p))
  have HSV : Hid (V.toArray.size = 17) := Lib.hid (by rw [hV]; rfl)
  have HC : Hid (V[16]? = some (.string p.data) ∧ V[15]? = some (.string p.opts)) := Lib.hid (by rw [hV]; exact ⟨rfl, rfl⟩)
  rw [← hV]
  have HV := Lib.hid hV
  clear hV
  have HQ0 := Lib.hid (QB.new w V)
  go_enter Try.func11, Try.ntmps11
  go_wp2_with fail
  refine (awake_true _).mono ?_
  rintro e w1 ⟨rfl, b1⟩
  have HQw1 := Lib.hid (HQ0.out.below b1 (Nat.le_refl _))
  clear b1 HQ0
  have c16 := HQw1.out.at HC.out.1
  have c15 := HQw1.out.at HC.out.2
  go_wp2_with fail
  go_ret
  exact ⟨rfl, HQw1.out.2.1⟩
set_option maxRecDepth 100000 in
set_option maxHeartbeats 400000 in
theorem ip4Fields_wide (p : Pkt) (t : Int) (w : World) (h : p.data.size ≤ 70000) (h2 : 1000 < p.opts.size) :
    Calls Try.prog 11 #[.agg p.vals.toArray, .int .u8 t] w fun e w' => e = .returned (.bool true) ∧ Below w.heap.size w w' := by
  obtain ⟨V, hV⟩ : ∃ V, V = (p).vals := ⟨_, rfl⟩
  have HIV : Hid ((Try.prog.info? 29).map (·.size) = some V.length) := Lib.hid (by rw [hV]; exact Try.infoIp (p))
  have HOV : Hid (V.toArray.all (·.oneCell') = true) := Lib.hid (by rw [hV]; exact vals_one (p))
  have HPV : Hid (∀ q : Pkt, puts q.vals.toArray 0 V = V.toArray) := Lib.hid (fun q => by rw [hV]; exact puts_all q (p))
  have HSV : Hid (V.toArray.size = 17) := Lib.hid (by rw [hV]; rfl)
  have HC : Hid (V[16]? = some (.string p.data) ∧ V[15]? = some (.string p.opts)) := Lib.hid (by rw [hV]; exact ⟨rfl, rfl⟩)
  rw [← hV]
  have HV := Lib.hid hV
  clear hV
  have HQ0 := Lib.hid (QB.new w V)
  go_enter Try.func11, Try.ntmps11
  go_wp2_with fail
  refine (awake_true _).mono ?_
  rintro e w1 ⟨rfl, b1⟩
  have HQw1 := Lib.hid (HQ0.out.below b1 (Nat.le_refl _))
  clear b1 HQ0
  have c16 := HQw1.out.at HC.out.1
  have c15 := HQw1.out.at HC.out.2
  go_wp2_with fail
  go_ret
  exact ⟨rfl, HQw1.out.2.1⟩
set_option maxRecDepth 100000 in
set_option maxHeartbeats 1000000 in
theorem ip4Fields_none (p : Pkt) (t : Int) (w : World) (hd : p.data.size ≤ 70000) (ho : p.opts.size ≤ 1000) (h0 : 0 ≤ t) (h1 : t ≤ 255) (hw : p.why ≠ 0) :
    Calls Try.prog 11 #[.agg p.vals.toArray, .int .u8 t] w fun e w' => e = .returned (.bool true) ∧ Below w.heap.size w w' := by
  obtain ⟨V, hV⟩ : ∃ V, V = (p).vals := ⟨_, rfl⟩
  have HIV : Hid ((Try.prog.info? 29).map (·.size) = some V.length) := Lib.hid (by rw [hV]; exact Try.infoIp (p))
  have HOV : Hid (V.toArray.all (·.oneCell') = true) := Lib.hid (by rw [hV]; exact vals_one (p))
  have HPV : Hid (∀ q : Pkt, puts q.vals.toArray 0 V = V.toArray) := Lib.hid (fun q => by rw [hV]; exact puts_all q (p))
  have HSV : Hid (V.toArray.size = 17) := Lib.hid (by rw [hV]; rfl)
  have HC : Hid (V[16]? = some (.string p.data) ∧ V[15]? = some (.string p.opts)) := Lib.hid (by rw [hV]; exact ⟨rfl, rfl⟩)
  have HVQ0 : Hid (V.toArray.setIfInBounds 2 (.int .i64 t) = (p.wTtl t).vals.toArray) := Lib.hid (by rw [hV]; rfl)
  obtain ⟨VQ, hVQ⟩ : ∃ V, V = (p.wTtl t).vals := ⟨_, rfl⟩
  have HIVQ : Hid ((Try.prog.info? 29).map (·.size) = some VQ.length) := Lib.hid (by rw [hVQ]; exact Try.infoIp (p.wTtl t))
  have HOVQ : Hid (VQ.toArray.all (·.oneCell') = true) := Lib.hid (by rw [hVQ]; exact vals_one (p.wTtl t))
  have HPVQ : Hid (∀ q : Pkt, puts q.vals.toArray 0 VQ = VQ.toArray) := Lib.hid (fun q => by rw [hVQ]; exact puts_all q (p.wTtl t))
  have HSVQ : Hid (VQ.toArray.size = 17) := Lib.hid (by rw [hVQ]; rfl)
  obtain ⟨VR, hVR⟩ : ∃ V, V = (p.flip).vals := ⟨_, rfl⟩
  have HIVR : Hid ((Try.prog.info? 29).map (·.size) = some VR.length) := Lib.hid (by rw [hVR]; exact Try.infoIp (p.flip))
  have HOVR : Hid (VR.toArray.all (·.oneCell') = true) := Lib.hid (by rw [hVR]; exact vals_one (p.flip))
  have HPVR : Hid (∀ q : Pkt, puts q.vals.toArray 0 VR = VR.toArray) := Lib.hid (fun q => by rw [hVR]; exact puts_all q (p.flip))
  have HSVR : Hid (VR.toArray.size = 17) := Lib.hid (by rw [hVR]; rfl)
  have HC2 : Hid (V[2]? = some (.int .i64 p.ttl)) := Lib.hid (by rw [hV]; rfl)
  obtain ⟨AF, hAF⟩ : ∃ A : List Value, A = [.int .u8 p.a0, .int .u8 p.a1, .int .u8 p.a2, .int .u8 p.a3] := ⟨_, rfl⟩
  obtain ⟨AT, hAT⟩ : ∃ A : List Value, A = [.int .u8 p.b0, .int .u8 p.b1, .int .u8 p.b2, .int .u8 p.b3] := ⟨_, rfl⟩
  have HSF : Hid (AF.toArray.size = 4) := Lib.hid (by rw [hAF]; rfl)
  have HST : Hid (AT.toArray.size = 4) := Lib.hid (by rw [hAT]; rfl)
  have HIF : Hid ((Try.prog.info? 27).map (·.size) = some AF.length) := Lib.hid (by rw [hAF]; kernel_rfl)
  have HIT : Hid ((Try.prog.info? 27).map (·.size) = some AT.length) := Lib.hid (by rw [hAT]; kernel_rfl)
  have HOF : Hid (AF.toArray.all (·.oneCell') = true) := Lib.hid (by rw [hAF]; exact one4 _ _ _ _)
  have HOT : Hid (AT.toArray.all (·.oneCell') = true) := Lib.hid (by rw [hAT]; exact one4 _ _ _ _)
  have HPR : Hid (puts (puts V.toArray 7 AT) 11 AF = VR.toArray) := Lib.hid (by rw [hV, hAF, hAT, hVR, puts_mid]; exact puts_flip p)
  have HPS : Hid ((puts V.toArray 7 AT).size = 17) := Lib.hid (by rw [hV, hAT, puts_mid]; rfl)
  have HRG : Hid (∀ (W : World) (b : Nat) (T : TypeId), Bk W b T V.toArray → W.rangeAt b 7 AF ∧ W.rangeAt b 11 AT) := Lib.hid (fun W b T h => by
    have hs : ∀ i v, V[i]? = some v → W.cell? ⟨b, i, none⟩ = some v := fun i v hv => h.c i v (by simpa using hv)
    rw [hV] at hs
    rw [hAF, hAT]
    constructor
    · intro j v hv
      match j, hv with
      | 0, hv => exact hs 7 v hv
      | 1, hv => exact hs 8 v hv
      | 2, hv => exact hs 9 v hv
      | 3, hv => exact hs 10 v hv
    · intro j v hv
      match j, hv with
      | 0, hv => exact hs 11 v hv
      | 1, hv => exact hs 12 v hv
      | 2, hv => exact hs 13 v hv
      | 3, hv => exact hs 14 v hv)
  have HBy : Hid (∀ W, Calls Try.prog 13 #[.agg V.toArray] W (Bad (.string ⟨#[]⟩) p.why W)) := Lib.hid (fun W => by rw [hV]; exact bytes_bad p W hd (bne_iff_ne.2 hw))
  have HBr : Hid (∀ W, Calls Try.prog 13 #[.agg VR.toArray] W (Bad (.string ⟨#[]⟩) p.why W)) := Lib.hid (fun W => by rw [hVR]; exact bytes_bad p.flip W hd (bne_iff_ne.2 hw))
  have HBq : Hid (∀ W, Calls Try.prog 13 #[.agg VQ.toArray] W (SomeTwo W)) := Lib.hid (fun W => by rw [hVQ]; exact bytes_out (p.wTtl t) W hd)
  have HVQ := Lib.hid hVQ
  clear hVQ hVR hAF hAT hw
  generalize p.why = cc at *
  rw [← hV]
  have HV := Lib.hid hV
  clear hV
  have HQ0 := Lib.hid (QB.new w V)
  go_enter Try.func11, Try.ntmps11
  go_wp2_with fail
  refine (awake_true _).mono ?_
  rintro e w1 ⟨rfl, b1⟩
  have HQw1 := Lib.hid (HQ0.out.below b1 (Nat.le_refl _))
  clear b1 HQ0
  have c16 := HQw1.out.at HC.out.1
  have c15 := HQw1.out.at HC.out.2
  have hr : w1.rangeAt w.heap.size 0 V := HQw1.out.1.range
  go_wp2_with (refine wpList_load_mid rfl 29 _ rfl w.heap.size 0 rfl V _ hr Try.underlying29 rfl HIV.out ?_)
  clear hr c15 c16
  refine (HBy.out _).mono ?_
  rintro e w2 ⟨fb, rfl, hfl, hfb, bb⟩
  have HQw2 := Lib.hid (HQw1.out.below bb (Nat.le_refl _))
  clear bb hfl hfb HQw1
  have hr : w2.rangeAt w.heap.size 0 V := HQw2.out.1.range
  have hr' : (w2.alloc (.cells #[.int .i64 0, .int .i64 0, .int .i64 0, .int .i64 0, .int .i64 0, .bool false, .bool false, .int .u8 0, .int .u8 0, .int .u8 0, .int .u8 0, .int .u8 0, .int .u8 0, .int .u8 0, .int .u8 0, .string ⟨#[]⟩, .string ⟨#[]⟩] 29)).rangeAt w.heap.size 0 V := (HQw2.out.alloc _).1.range
  have ht : (w2.alloc (.cells #[.int .i64 0, .int .i64 0, .int .i64 0, .int .i64 0, .int .i64 0, .bool false, .bool false, .int .u8 0, .int .u8 0, .int .u8 0, .int .u8 0, .int .u8 0, .int .u8 0, .int .u8 0, .int .u8 0, .string ⟨#[]⟩, .string ⟨#[]⟩] 29)).there w2.heap.size 0 V.toArray.size := by rw [HSV.out]; exact (bk_new w2 29 #[.int .i64 0, .int .i64 0, .int .i64 0, .int .i64 0, .int .i64 0, .bool false, .bool false, .int .u8 0, .int .u8 0, .int .u8 0, .int .u8 0, .int .u8 0, .int .u8 0, .int .u8 0, .int .u8 0, .string ⟨#[]⟩, .string ⟨#[]⟩]).there 17 (Nat.le_refl _)
  go_upto_region 7 with (first | (refine wpList_load_mid rfl 29 _ rfl w.heap.size 0 rfl V _ hr Try.underlying29 rfl HIV.out ?_) | (refine wpList_load_mid rfl 29 _ rfl w.heap.size 0 rfl V _ hr' Try.underlying29 rfl HIV.out ?_) | (refine wpList_store_mid rfl 29 _ _ rfl w2.heap.size 0 V.toArray rfl rfl ht HIV.out HOV.out ?_))
  have hK := Bk.sets V 0 _ _ (show Bk _ w2.heap.size 29 pkt0.vals.toArray from bk_new w2 29 #[.int .i64 0, .int .i64 0, .int .i64 0, .int .i64 0, .int .i64 0, .bool false, .bool false, .int .u8 0, .int .u8 0, .int .u8 0, .int .u8 0, .int .u8 0, .int .u8 0, .int .u8 0, .int .u8 0, .string ⟨#[]⟩, .string ⟨#[]⟩])
  rw [HPV.out] at hK
  have HQw3 := Lib.hid ((HQw2.out.alloc (.cells #[.int .i64 0, .int .i64 0, .int .i64 0, .int .i64 0, .int .i64 0, .bool false, .bool false, .int .u8 0, .int .u8 0, .int .u8 0, .int .u8 0, .int .u8 0, .int .u8 0, .int .u8 0, .int .u8 0, .string ⟨#[]⟩, .string ⟨#[]⟩] 29)).sets (c := w2.heap.size) (Nat.ne_of_lt HQw2.out.1.lt) HQw2.out.2.2 0 V)
  have HKw3 := Lib.hid hK
  have HNw3 := Lib.hid (Nat.ne_of_lt HQw2.out.1.lt)
  have HMw3 := Lib.hid HQw2.out.2.2
  clear ht hK hr hr' HQw2
  generalize (w2.alloc (.cells #[.int .i64 0, .int .i64 0, .int .i64 0, .int .i64 0, .int .i64 0, .bool false, .bool false, .int .u8 0, .int .u8 0, .int .u8 0, .int .u8 0, .int .u8 0, .int .u8 0, .int .u8 0, .int .u8 0, .string ⟨#[]⟩, .string ⟨#[]⟩] 29)).setCells w2.heap.size 0 V = w3 at *
  have c2 := HKw3.out.at HC2.out
  have z2 := HKw3.out.z 2
  go_upto_region 8 with (fail)
  clear c2 z2
  have hK := HKw3.out.set 2 (.int .i64 t)
  rw [HVQ0.out, ← HVQ.out] at hK
  have HQw4 := Lib.hid (HQw3.out.set (c := w2.heap.size) HNw3.out HMw3.out 2 (.int .i64 t))
  have HKw4 := Lib.hid hK
  clear hK HKw3 HQw3
  generalize w3.setCell ⟨w2.heap.size, 2, none⟩ (.int .i64 t) = w4 at *
  have hr : w4.rangeAt w2.heap.size 0 VQ := HKw4.out.range
  go_wp2_with (refine wpList_load_mid rfl 29 _ rfl w2.heap.size 0 rfl VQ _ hr Try.underlying29 rfl HIVQ.out ?_)
  clear hr
  refine (HBq.out _).mono ?_
  rintro e w5 ⟨sq, xq, rfl, bb⟩
  have HQw5 := Lib.hid (HQw4.out.below bb (Nat.le_refl _))
  clear bb HQw4
  have hr : w5.rangeAt w.heap.size 0 V := HQw5.out.1.range
  have hr' : (w5.alloc (.cells #[.int .i64 0, .int .i64 0, .int .i64 0, .int .i64 0, .int .i64 0, .bool false, .bool false, .int .u8 0, .int .u8 0, .int .u8 0, .int .u8 0, .int .u8 0, .int .u8 0, .int .u8 0, .int .u8 0, .string ⟨#[]⟩, .string ⟨#[]⟩] 29)).rangeAt w.heap.size 0 V := (HQw5.out.alloc _).1.range
  have ht : (w5.alloc (.cells #[.int .i64 0, .int .i64 0, .int .i64 0, .int .i64 0, .int .i64 0, .bool false, .bool false, .int .u8 0, .int .u8 0, .int .u8 0, .int .u8 0, .int .u8 0, .int .u8 0, .int .u8 0, .int .u8 0, .string ⟨#[]⟩, .string ⟨#[]⟩] 29)).there w5.heap.size 0 V.toArray.size := by rw [HSV.out]; exact (bk_new w5 29 #[.int .i64 0, .int .i64 0, .int .i64 0, .int .i64 0, .int .i64 0, .bool false, .bool false, .int .u8 0, .int .u8 0, .int .u8 0, .int .u8 0, .int .u8 0, .int .u8 0, .int .u8 0, .int .u8 0, .string ⟨#[]⟩, .string ⟨#[]⟩]).there 17 (Nat.le_refl _)
  go_upto_region 10 with (first | (refine wpList_load_mid rfl 29 _ rfl w.heap.size 0 rfl V _ hr Try.underlying29 rfl HIV.out ?_) | (refine wpList_load_mid rfl 29 _ rfl w.heap.size 0 rfl V _ hr' Try.underlying29 rfl HIV.out ?_) | (refine wpList_store_mid rfl 29 _ _ rfl w5.heap.size 0 V.toArray rfl rfl ht HIV.out HOV.out ?_))
  have hK := Bk.sets V 0 _ _ (show Bk _ w5.heap.size 29 pkt0.vals.toArray from bk_new w5 29 #[.int .i64 0, .int .i64 0, .int .i64 0, .int .i64 0, .int .i64 0, .bool false, .bool false, .int .u8 0, .int .u8 0, .int .u8 0, .int .u8 0, .int .u8 0, .int .u8 0, .int .u8 0, .int .u8 0, .string ⟨#[]⟩, .string ⟨#[]⟩])
  rw [HPV.out] at hK
  have HQw6 := Lib.hid ((HQw5.out.alloc (.cells #[.int .i64 0, .int .i64 0, .int .i64 0, .int .i64 0, .int .i64 0, .bool false, .bool false, .int .u8 0, .int .u8 0, .int .u8 0, .int .u8 0, .int .u8 0, .int .u8 0, .int .u8 0, .int .u8 0, .string ⟨#[]⟩, .string ⟨#[]⟩] 29)).sets (c := w5.heap.size) (Nat.ne_of_lt HQw5.out.1.lt) HQw5.out.2.2 0 V)
  have HKw6 := Lib.hid hK
  have HNw6 := Lib.hid (Nat.ne_of_lt HQw5.out.1.lt)
  have HMw6 := Lib.hid HQw5.out.2.2
  clear ht hK hr hr' HQw5
  generalize (w5.alloc (.cells #[.int .i64 0, .int .i64 0, .int .i64 0, .int .i64 0, .int .i64 0, .bool false, .bool false, .int .u8 0, .int .u8 0, .int .u8 0, .int .u8 0, .int .u8 0, .int .u8 0, .int .u8 0, .int .u8 0, .string ⟨#[]⟩, .string ⟨#[]⟩] 29)).setCells w5.heap.size 0 V = w6 at *
  obtain ⟨B, hBd⟩ : ∃ B, B = w.heap.size := ⟨_, rfl⟩
  have hQ6 : QB w B w.heap.size V w6 := by rw [hBd]; exact HQw6.out
  have hK6 : Bk w6.drew w5.heap.size 29 V.toArray := HKw6.out
  have hN6 := HNw6.out
  have hM6 : B ≤ w5.heap.size := by rw [hBd]; exact HMw6.out
  have HBd := Lib.hid hBd
  clear hBd HQw6 HKw6 HNw6 HMw6 HNw3 HMw3
  generalize w5.heap.size = b10 at *
  generalize hgb : w.heap.size = b2 at *
  have HGB := Lib.hid hgb
  clear hgb
  refine wp_region_noPanic ?_
  refine wp_region_held_drew (S := fun w' => QB w B b2 V w' ∧ w'.rangeAt b2 7 AF ∧ w'.rangeAt b2 11 AT) (by kernel_rfl) ((fun q => And.intro q (HRG.out _ _ _ (And.left q))) hQ6.drew) (fun hHeld => ?_)
  refine wpAnyH_take (i := 0) (oi := { dst := some 40, op := Op.fieldAddr 29 (Operand.tmp 2) 8, type := 0, pos := "more.go:21", after := #[], guard := none }) (v := ?_) rfl (by kernel_rfl) (by kernel_rfl) (by kernel_rfl) (fun _ _ _ h => h) (Or.inl ⟨by rfl, ?_⟩) (by assumption) ?_
  rotate_left
  · (intro ww hSw; (try dsimp only at hSw); go_simp; try with_reducible rfl)
  (try simp only [Act.put, List.setIfInBounds_toArray, List.set_cons_zero, List.set_cons_succ])
  refine wpAnyH_take (i := 1) (oi := { dst := some 41, op := Op.load 27 (Operand.tmp 40), type := 27, pos := "more.go:21", after := #[{ on := 0, ground := Ground.data }], guard := none }) (v := .agg (AT).toArray) rfl (by kernel_rfl) (by kernel_rfl) (by kernel_rfl) (fun _ _ _ h => h) (yieldsIf_load_mid (by rfl) _ _ rfl (b2) 11 rfl (AT) _ (fun ww hSw => hSw.2.2) Try.underlying27 rfl HIT.out) (by assumption) ?_
  (try simp only [Act.put, List.setIfInBounds_toArray, List.set_cons_zero, List.set_cons_succ])
  refine wpAnyH_take (i := 2) (oi := { dst := some 42, op := Op.fieldAddr 29 (Operand.tmp 2) 7, type := 0, pos := "more.go:21", after := #[{ on := 5, ground := Ground.gcOnly Departure.lateStores }], guard := none }) (v := ?_) rfl (by kernel_rfl) (by kernel_rfl) (by kernel_rfl) (fun _ _ _ h => h) (Or.inl ⟨by rfl, ?_⟩) (by assumption) ?_
  rotate_left
  · (intro ww hSw; (try dsimp only at hSw); go_simp; try with_reducible rfl)
  (try simp only [Act.put, List.setIfInBounds_toArray, List.set_cons_zero, List.set_cons_succ])
  refine wpAnyH_take (i := 3) (oi := { dst := some 43, op := Op.load 27 (Operand.tmp 42), type := 27, pos := "more.go:21", after := #[{ on := 2, ground := Ground.data }, { on := 5, ground := Ground.gcOnly Departure.lateStores }], guard := none }) (v := .agg (AF).toArray) rfl (by kernel_rfl) (by kernel_rfl) (by kernel_rfl) (fun _ _ _ h => h) (yieldsIf_load_mid (by rfl) _ _ rfl (b2) 7 rfl (AF) _ (fun ww hSw => hSw.2.1) Try.underlying27 rfl HIF.out) (by assumption) ?_
  (try simp only [Act.put, List.setIfInBounds_toArray, List.set_cons_zero, List.set_cons_succ])
  refine wpAnyH_take (i := 4) (oi := { dst := some 44, op := Op.fieldAddr 29 (Operand.tmp 10) 7, type := 0, pos := "more.go:21", after := #[{ on := 0, ground := Ground.phase }, { on := 1, ground := Ground.phase }, { on := 2, ground := Ground.textOnly Departure.lateStores }, { on := 3, ground := Ground.textOnly Departure.lateStores }], guard := none }) (v := ?_) rfl (by kernel_rfl) (by kernel_rfl) (by kernel_rfl) (fun _ _ _ h => h) (Or.inl ⟨by rfl, ?_⟩) (by assumption) ?_
  rotate_left
  · (intro ww hSw; (try dsimp only at hSw); go_simp; try with_reducible rfl)
  (try simp only [Act.put, List.setIfInBounds_toArray, List.set_cons_zero, List.set_cons_succ])
  refine wpAnyH_ready (rs := [5]) (by kernel_rfl) (by simp) ?_
  refine AllReadyH.cons (o := { dst := none, op := Op.store 27 (Operand.tmp 44) (Operand.tmp 41), type := 0, pos := "more.go:21", after := #[{ on := 4, ground := Ground.data }, { on := 1, ground := Ground.data }, { on := 0, ground := Ground.phase }, { on := 1, ground := Ground.phase }, { on := 2, ground := Ground.textOnly Departure.lateStores }, { on := 3, ground := Ground.textOnly Departure.lateStores }], guard := none }) rfl (fun K hK => ?_) AllReadyH.nil
  rw [if_pos (by rfl)]
  have ht5 : w6.drew.there b10 7 AT.toArray.size := by rw [HST.out]; exact hK6.there' 7 4 (by rw [HSV.out]; decide)
  refine wp_store_mid 27 _ _ rfl b10 7 AT.toArray rfl rfl ht5 HIT.out HOT.out ?_
  refine hK.out _ _ ((fun q => And.intro q (HRG.out _ _ _ (And.left q))) (QB.sets (And.left hHeld) hN6 hM6 7 AT)) (fun hHeld => ?_)
  clear hK K
  (try simp only [Act.put])
  have hK7 := Bk.sets AT 7 _ _ hK6
  refine wpAnyH_take (i := 6) (oi := { dst := some 45, op := Op.fieldAddr 29 (Operand.tmp 10) 8, type := 0, pos := "more.go:21", after := #[{ on := 0, ground := Ground.phase }, { on := 1, ground := Ground.phase }, { on := 2, ground := Ground.phase }, { on := 3, ground := Ground.phase }, { on := 4, ground := Ground.phase }, { on := 5, ground := Ground.phase }], guard := none }) (v := ?_) rfl (by kernel_rfl) (by kernel_rfl) (by kernel_rfl) (fun _ _ _ h => h) (Or.inl ⟨by rfl, ?_⟩) (by assumption) ?_
  rotate_left
  · (intro ww hSw; (try dsimp only at hSw); go_simp; try with_reducible rfl)
  (try simp only [Act.put, List.setIfInBounds_toArray, List.set_cons_zero, List.set_cons_succ])
  refine wpAnyH_ready (rs := [7]) (by kernel_rfl) (by simp) ?_
  refine AllReadyH.cons (o := { dst := none, op := Op.store 27 (Operand.tmp 45) (Operand.tmp 43), type := 0, pos := "more.go:21", after := #[{ on := 6, ground := Ground.data }, { on := 3, ground := Ground.data }, { on := 5, ground := Ground.chain }, { on := 0, ground := Ground.phase }, { on := 1, ground := Ground.phase }, { on := 2, ground := Ground.phase }, { on := 3, ground := Ground.phase }, { on := 4, ground := Ground.phase }, { on := 5, ground := Ground.phase }], guard := none }) rfl (fun K hK => ?_) AllReadyH.nil
  rw [if_pos (by rfl)]
  have ht7 : (w6.drew.setCells b10 7 AT).there b10 11 AF.toArray.size := by rw [HSF.out]; exact hK7.there' 11 4 (by rw [HPS.out]; decide)
  refine wp_store_mid 27 _ _ rfl b10 11 AF.toArray rfl rfl ht7 HIF.out HOF.out ?_
  refine hK.out _ _ ((fun q => And.intro q (HRG.out _ _ _ (And.left q))) (QB.sets (And.left hHeld) hN6 hM6 11 AF)) (fun hHeld => ?_)
  clear hK K
  (try simp only [Act.put])
  have hK8 := Bk.sets AF 11 _ _ hK7
  refine wpAnyH_done (by kernel_rfl) ?_ _
  refine NoPanic.normal ?_
  rw [HPR.out] at hK8
  have HK8 := Lib.hid hK8
  have HQ8 := Lib.hid (And.left hHeld)
  clear hK8 hK7 hK6 hHeld ht5 ht7 hQ6 hN6 hM6
  generalize (w6.drew.setCells b10 7 AT).setCells b10 11 AF = w7 at *
  have hr : w7.rangeAt b10 0 VR := HK8.out.range
  go_wp2_with (refine wpList_load_mid rfl 29 _ rfl b10 0 rfl VR _ hr Try.underlying29 rfl HIVR.out ?_)
  clear hr
  refine (HBr.out _).mono ?_
  rintro e w8 ⟨fc, rfl, hfl, hfb, bb⟩
  have hQ9 := HQ8.out.below bb (Nat.le_refl _)
  clear bb hfl hfb
  go_wp2_with fail
  refine wp_region_noPanic ?_
  refine wp_region_held_drew (S := fun w' => Below B w w') (by kernel_rfl) (hQ9.2.1.drew) (fun hHeld => ?_)
  refine wpAnyH_take (i := 0) (oi := { dst := some 61, op := Op.move (Operand.tmp 6), type := 23, pos := "more.go:24", after := #[], guard := none }) (v := ?_) rfl (by kernel_rfl) (by kernel_rfl) (by kernel_rfl) (fun _ _ _ h => h) (Or.inl ⟨by rfl, ?_⟩) (by assumption) ?_
  rotate_left
  · (intro ww hSw; (try dsimp only at hSw); go_simp; try with_reducible rfl)
  (try simp only [Act.put, List.setIfInBounds_toArray, List.set_cons_zero, List.set_cons_succ])
  refine wpAnyH_take (i := 1) (oi := { dst := some 62, op := Op.binOp BinOp.eql 23 (Operand.tmp 61) (Operand.const Value.nilIface) 23, type := 4, pos := "more.go:24", after := #[{ on := 0, ground := Ground.data }], guard := none }) (v := ?_) rfl (by kernel_rfl) (by kernel_rfl) (by kernel_rfl) (fun _ _ _ h => h) (Or.inl ⟨by rfl, ?_⟩) (by assumption) ?_
  rotate_left
  · (intro ww hSw; (try dsimp only at hSw); go_simp; try with_reducible rfl)
  (try simp only [Act.put, List.setIfInBounds_toArray, List.set_cons_zero, List.set_cons_succ])
  refine wpAnyH_take (i := 2) (oi := { dst := some 63, op := Op.move (Operand.tmp 12), type := 23, pos := "more.go:24", after := #[], guard := none }) (v := ?_) rfl (by kernel_rfl) (by kernel_rfl) (by kernel_rfl) (fun _ _ _ h => h) (Or.inl ⟨by rfl, ?_⟩) (by assumption) ?_
  rotate_left
  · (intro ww hSw; (try dsimp only at hSw); go_simp; try with_reducible rfl)
  (try simp only [Act.put, List.setIfInBounds_toArray, List.set_cons_zero, List.set_cons_succ])
  refine wpAnyH_take (i := 3) (oi := { dst := some 64, op := Op.binOp BinOp.eql 23 (Operand.tmp 63) (Operand.const Value.nilIface) 23, type := 4, pos := "more.go:24", after := #[{ on := 2, ground := Ground.data }], guard := none }) (v := ?_) rfl (by kernel_rfl) (by kernel_rfl) (by kernel_rfl) (fun _ _ _ h => h) (Or.inl ⟨by rfl, ?_⟩) (by assumption) ?_
  rotate_left
  · (intro ww hSw; (try dsimp only at hSw); go_simp; try with_reducible rfl)
  (try simp only [Act.put, List.setIfInBounds_toArray, List.set_cons_zero, List.set_cons_succ])
  refine wpAnyH_take (i := 4) (oi := { dst := some 65, op := Op.binOp BinOp.eql 4 (Operand.tmp 62) (Operand.tmp 64) 4, type := 4, pos := "more.go:24", after := #[{ on := 1, ground := Ground.data }, { on := 3, ground := Ground.data }], guard := none }) (v := ?_) rfl (by kernel_rfl) (by kernel_rfl) (by kernel_rfl) (fun _ _ _ h => h) (Or.inl ⟨by rfl, ?_⟩) (by assumption) ?_
  rotate_left
  · (intro ww hSw; (try dsimp only at hSw); go_simp; try with_reducible rfl)
  (try simp only [Act.put, List.setIfInBounds_toArray, List.set_cons_zero, List.set_cons_succ])
  refine wpAnyH_take (i := 5) (oi := { dst := some 66, op := Op.move (Operand.tmp 65), type := 4, pos := "more.go:24", after := #[{ on := 4, ground := Ground.data }], guard := none }) (v := ?_) rfl (by kernel_rfl) (by kernel_rfl) (by kernel_rfl) (fun _ _ _ h => h) (Or.inl ⟨by rfl, ?_⟩) (by assumption) ?_
  rotate_left
  · (intro ww hSw; (try dsimp only at hSw); go_simp; try with_reducible rfl)
  (try simp only [Act.put, List.setIfInBounds_toArray, List.set_cons_zero, List.set_cons_succ])
  refine wpAnyH_take (i := 6) (oi := { dst := some 67, op := Op.move (Operand.tmp 6), type := 23, pos := "more.go:24", after := #[{ on := 5, ground := Ground.guard }], guard := some (5, true) }) (v := ?_) rfl (by kernel_rfl) (by kernel_rfl) (by kernel_rfl) (fun _ _ _ h => h) (Or.inl ⟨by rfl, ?_⟩) (by assumption) ?_
  rotate_left
  · (intro ww hSw; (try dsimp only at hSw); go_simp; try with_reducible rfl)
  (try simp only [Act.put, List.setIfInBounds_toArray, List.set_cons_zero, List.set_cons_succ])
  refine wpAnyH_take (i := 7) (oi := { dst := some 68, op := Op.binOp BinOp.neq 23 (Operand.tmp 67) (Operand.const Value.nilIface) 23, type := 4, pos := "more.go:24", after := #[{ on := 6, ground := Ground.data }, { on := 5, ground := Ground.guard }], guard := some (5, true) }) (v := ?_) rfl (by kernel_rfl) (by kernel_rfl) (by kernel_rfl) (fun _ _ _ h => h) (Or.inl ⟨by rfl, ?_⟩) (by assumption) ?_
  rotate_left
  · (intro ww hSw; (try dsimp only at hSw); go_simp; try with_reducible rfl)
  (try simp only [Act.put, List.setIfInBounds_toArray, List.set_cons_zero, List.set_cons_succ])
  refine wpAnyH_take (i := 8) (oi := { dst := some 69, op := Op.move (Operand.tmp 68), type := 4, pos := "more.go:24", after := #[{ on := 7, ground := Ground.data }, { on := 5, ground := Ground.chain }, { on := 5, ground := Ground.guard }], guard := some (5, true) }) (v := ?_) rfl (by kernel_rfl) (by kernel_rfl) (by kernel_rfl) (fun _ _ _ h => h) (Or.inl ⟨by rfl, ?_⟩) (by assumption) ?_
  rotate_left
  · (intro ww hSw; (try dsimp only at hSw); go_simp; try with_reducible rfl)
  (try simp only [Act.put, List.setIfInBounds_toArray, List.set_cons_zero, List.set_cons_succ])
  refine wpAnyH_take (i := 9) (oi := { dst := some 70, op := Op.move (Operand.tmp 9), type := 23, pos := "more.go:24", after := #[{ on := 8, ground := Ground.guard }], guard := some (8, false) }) (v := undef) rfl (by kernel_rfl) (by kernel_rfl) (by kernel_rfl) (fun _ _ _ h => h) (Or.inr ⟨by rfl, rfl⟩) (by assumption) ?_
  (try simp only [Act.put, List.setIfInBounds_toArray, List.set_cons_zero, List.set_cons_succ])
  refine wpAnyH_take (i := 10) (oi := { dst := some 71, op := Op.binOp BinOp.eql 23 (Operand.tmp 70) (Operand.const Value.nilIface) 23, type := 4, pos := "more.go:24", after := #[{ on := 9, ground := Ground.data }, { on := 8, ground := Ground.guard }], guard := some (8, false) }) (v := undef) rfl (by kernel_rfl) (by kernel_rfl) (by kernel_rfl) (fun _ _ _ h => h) (Or.inr ⟨by rfl, rfl⟩) (by assumption) ?_
  (try simp only [Act.put, List.setIfInBounds_toArray, List.set_cons_zero, List.set_cons_succ])
  refine wpAnyH_take (i := 11) (oi := { dst := some 72, op := Op.pick (Operand.tmp 69) (Operand.const (Value.bool true)) (Operand.tmp 71), type := 4, pos := "more.go:24", after := #[{ on := 8, ground := Ground.data }, { on := 10, ground := Ground.data }, { on := 5, ground := Ground.guard }], guard := some (5, true) }) (v := ?_) rfl (by kernel_rfl) (by kernel_rfl) (by kernel_rfl) (fun _ _ _ h => h) (Or.inl ⟨by rfl, ?_⟩) (by assumption) ?_
  rotate_left
  · (intro ww hSw; (try dsimp only at hSw); go_simp; try with_reducible rfl)
  (try simp only [Act.put, List.setIfInBounds_toArray, List.set_cons_zero, List.set_cons_succ])
  refine wpAnyH_take (i := 12) (oi := { dst := some 73, op := Op.pick (Operand.tmp 66) (Operand.tmp 72) (Operand.const (Value.bool false)), type := 4, pos := "more.go:24", after := #[{ on := 5, ground := Ground.data }, { on := 11, ground := Ground.data }], guard := none }) (v := ?_) rfl (by kernel_rfl) (by kernel_rfl) (by kernel_rfl) (fun _ _ _ h => h) (Or.inl ⟨by rfl, ?_⟩) (by assumption) ?_
  rotate_left
  · (intro ww hSw; (try dsimp only at hSw); go_simp; try with_reducible rfl)
  (try simp only [Act.put, List.setIfInBounds_toArray, List.set_cons_zero, List.set_cons_succ])
  refine wpAnyH_take (i := 13) (oi := { dst := some 4, op := Op.assign (Operand.tmp 73), type := 4, pos := "more.go:24", after := #[{ on := 12, ground := Ground.data }, { on := 8, ground := Ground.chain }, { on := 0, ground := Ground.phase }, { on := 1, ground := Ground.phase }, { on := 2, ground := Ground.phase }, { on := 3, ground := Ground.phase }, { on := 4, ground := Ground.phase }, { on := 5, ground := Ground.phase }, { on := 6, ground := Ground.phase }, { on := 7, ground := Ground.phase }, { on := 8, ground := Ground.phase }, { on := 9, ground := Ground.phase }, { on := 10, ground := Ground.phase }, { on := 11, ground := Ground.phase }, { on := 12, ground := Ground.phase }], guard := none }) (v := ?_) rfl (by kernel_rfl) (by kernel_rfl) (by kernel_rfl) (fun _ _ _ h => h) (Or.inl ⟨by rfl, ?_⟩) (by assumption) ?_
  rotate_left
  · (intro ww hSw; (try dsimp only at hSw); go_simp; try with_reducible rfl)
  (try simp only [Act.put, List.setIfInBounds_toArray, List.set_cons_zero, List.set_cons_succ])
  refine wpAnyH_done (by kernel_rfl) ?_ _
  refine NoPanic.normal ?_
  have hf := hHeld
  rw [HBd.out, ← HGB.out] at hf
  have HF := Lib.hid hf
  clear hf hHeld hQ9
  go_wp2_with fail
  go_ret
  exact ⟨rfl, HF.out⟩
set_option maxRecDepth 100000 in
set_option maxHeartbeats 1000000 in
theorem ip4Fields_packet (p : Pkt) (t : Int) (w : World) (h0 : 0 ≤ t) (h1 : t ≤ 255) (hw : p.why = 0) (hd : p.data.size ≤ 70000) (ho : p.opts.size ≤ 1000) :
    Calls Try.prog 11 #[.agg p.vals.toArray, .int .u8 t] w fun e w' => e = .returned (.bool true) ∧ Below w.heap.size w w' := by
  obtain ⟨V, hV⟩ : ∃ V, V = (p).vals := ⟨_, rfl⟩
  have HIV : Hid ((Try.prog.info? 29).map (·.size) = some V.length) := Lib.hid (by rw [hV]; exact Try.infoIp (p))
  have HOV : Hid (V.toArray.all (·.oneCell') = true) := Lib.hid (by rw [hV]; exact vals_one (p))
  have HPV : Hid (∀ q : Pkt, puts q.vals.toArray 0 V = V.toArray) := Lib.hid (fun q => by rw [hV]; exact puts_all q (p))
  have HSV : Hid (V.toArray.size = 17) := Lib.hid (by rw [hV]; rfl)
  have HC : Hid (V[16]? = some (.string p.data) ∧ V[15]? = some (.string p.opts)) := Lib.hid (by rw [hV]; exact ⟨rfl, rfl⟩)
  have HVQ0 : Hid (V.toArray.setIfInBounds 2 (.int .i64 t) = (p.wTtl t).vals.toArray) := Lib.hid (by rw [hV]; rfl)
  obtain ⟨VQ, hVQ⟩ : ∃ V, V = (p.wTtl t).vals := ⟨_, rfl⟩
  have HIVQ : Hid ((Try.prog.info? 29).map (·.size) = some VQ.length) := Lib.hid (by rw [hVQ]; exact Try.infoIp (p.wTtl t))
  have HOVQ : Hid (VQ.toArray.all (·.oneCell') = true) := Lib.hid (by rw [hVQ]; exact vals_one (p.wTtl t))
  have HPVQ : Hid (∀ q : Pkt, puts q.vals.toArray 0 VQ = VQ.toArray) := Lib.hid (fun q => by rw [hVQ]; exact puts_all q (p.wTtl t))
  have HSVQ : Hid (VQ.toArray.size = 17) := Lib.hid (by rw [hVQ]; rfl)
  obtain ⟨VR, hVR⟩ : ∃ V, V = (p.flip).vals := ⟨_, rfl⟩
  have HIVR : Hid ((Try.prog.info? 29).map (·.size) = some VR.length) := Lib.hid (by rw [hVR]; exact Try.infoIp (p.flip))
  have HOVR : Hid (VR.toArray.all (·.oneCell') = true) := Lib.hid (by rw [hVR]; exact vals_one (p.flip))
  have HPVR : Hid (∀ q : Pkt, puts q.vals.toArray 0 VR = VR.toArray) := Lib.hid (fun q => by rw [hVR]; exact puts_all q (p.flip))
  have HSVR : Hid (VR.toArray.size = 17) := Lib.hid (by rw [hVR]; rfl)
  have HC2 : Hid (V[2]? = some (.int .i64 p.ttl)) := Lib.hid (by rw [hV]; rfl)
  obtain ⟨AF, hAF⟩ : ∃ A : List Value, A = [.int .u8 p.a0, .int .u8 p.a1, .int .u8 p.a2, .int .u8 p.a3] := ⟨_, rfl⟩
  obtain ⟨AT, hAT⟩ : ∃ A : List Value, A = [.int .u8 p.b0, .int .u8 p.b1, .int .u8 p.b2, .int .u8 p.b3] := ⟨_, rfl⟩
  have HSF : Hid (AF.toArray.size = 4) := Lib.hid (by rw [hAF]; rfl)
  have HST : Hid (AT.toArray.size = 4) := Lib.hid (by rw [hAT]; rfl)
  have HIF : Hid ((Try.prog.info? 27).map (·.size) = some AF.length) := Lib.hid (by rw [hAF]; kernel_rfl)
  have HIT : Hid ((Try.prog.info? 27).map (·.size) = some AT.length) := Lib.hid (by rw [hAT]; kernel_rfl)
  have HOF : Hid (AF.toArray.all (·.oneCell') = true) := Lib.hid (by rw [hAF]; exact one4 _ _ _ _)
  have HOT : Hid (AT.toArray.all (·.oneCell') = true) := Lib.hid (by rw [hAT]; exact one4 _ _ _ _)
  have HPR : Hid (puts (puts V.toArray 7 AT) 11 AF = VR.toArray) := Lib.hid (by rw [hV, hAF, hAT, hVR, puts_mid]; exact puts_flip p)
  have HPS : Hid ((puts V.toArray 7 AT).size = 17) := Lib.hid (by rw [hV, hAT, puts_mid]; rfl)
  have HRG : Hid (∀ (W : World) (b : Nat) (T : TypeId), Bk W b T V.toArray → W.rangeAt b 7 AF ∧ W.rangeAt b 11 AT) := Lib.hid (fun W b T h => by
    have hs : ∀ i v, V[i]? = some v → W.cell? ⟨b, i, none⟩ = some v := fun i v hv => h.c i v (by simpa using hv)
    rw [hV] at hs
    rw [hAF, hAT]
    constructor
    · intro j v hv
      match j, hv with
      | 0, hv => exact hs 7 v hv
      | 1, hv => exact hs 8 v hv
      | 2, hv => exact hs 9 v hv
      | 3, hv => exact hs 10 v hv
    · intro j v hv
      match j, hv with
      | 0, hv => exact hs 11 v hv
      | 1, hv => exact hs 12 v hv
      | 2, hv => exact hs 13 v hv
      | 3, hv => exact hs 14 v hv)
  have HBy : Hid (∀ W, Calls Try.prog 13 #[.agg V.toArray] W fun e w' => e = .returned (.tuple #[.string p.bytes, .nilIface]) ∧ Below W.heap.size W w') := Lib.hid (fun W => by rw [hV]; exact bytes_ok p W hw)
  have HBr : Hid (∀ W, Calls Try.prog 13 #[.agg VR.toArray] W fun e w' => e = .returned (.tuple #[.string p.flip.bytes, .nilIface]) ∧ Below W.heap.size W w') := Lib.hid (fun W => by rw [hVR]; exact bytes_ok p.flip W (by rw [flip_why]; exact hw))
  have HBq : Hid (∀ W, Calls Try.prog 13 #[.agg VQ.toArray] W fun e w' => e = .returned (.tuple #[.string (p.wTtl t).bytes, .nilIface]) ∧ Below W.heap.size W w') := Lib.hid (fun W => by rw [hVQ]; exact bytes_ok (p.wTtl t) W (wTtl_why hw t h0 h1))
  have HVQ := Lib.hid hVQ
  have hz := bytes_size p
  have HZ := Lib.hid (And.intro (wTtl_size p t) (flip_size p))
  have k9 : 9 < p.bytes.size := by omega
  have k9' : 9 < (p.wTtl t).bytes.size := by rw [wTtl_size]; exact k9
  have k8' : 8 < (p.wTtl t).bytes.size := by omega
  have HE := Lib.hid (And.intro (wTtl_pre p t) (And.intro (wTtl_post p t) (And.intro (wTtl_nine p t k9 k9') (And.intro (wTtl_eight p t h0 h1 k8') (And.intro (flip_pre p) (And.intro (flip_a p) (And.intro (flip_b p) (flip_post p))))))))
  clear hVQ hVR hAF hAT hw
  have h20 : 20 ≤ p.bytes.size := by omega
  have hmx : p.bytes.size ≤ 71020 := by omega
  clear hz
  generalize p.bytes = XA at *
  generalize p.flip.bytes = XC at *
  generalize (p.wTtl t).bytes = XB at *
  rw [← hV]
  have HV := Lib.hid hV
  clear hV
  have HQ0 := Lib.hid (QB.new w V)
  go_enter Try.func11, Try.ntmps11
  go_wp2_with fail
  refine (awake_true _).mono ?_
  rintro e w1 ⟨rfl, b1⟩
  have HQw1 := Lib.hid (HQ0.out.below b1 (Nat.le_refl _))
  clear b1 HQ0
  have c16 := HQw1.out.at HC.out.1
  have c15 := HQw1.out.at HC.out.2
  have hr : w1.rangeAt w.heap.size 0 V := HQw1.out.1.range
  go_wp2_with (refine wpList_load_mid rfl 29 _ rfl w.heap.size 0 rfl V _ hr Try.underlying29 rfl HIV.out ?_)
  clear hr c15 c16
  refine (HBy.out _).mono ?_
  rintro e w2 ⟨rfl, bb⟩
  have HQw2 := Lib.hid (HQw1.out.below bb (Nat.le_refl _))
  clear bb HQw1
  have hr : w2.rangeAt w.heap.size 0 V := HQw2.out.1.range
  have hr' : (w2.alloc (.cells #[.int .i64 0, .int .i64 0, .int .i64 0, .int .i64 0, .int .i64 0, .bool false, .bool false, .int .u8 0, .int .u8 0, .int .u8 0, .int .u8 0, .int .u8 0, .int .u8 0, .int .u8 0, .int .u8 0, .string ⟨#[]⟩, .string ⟨#[]⟩] 29)).rangeAt w.heap.size 0 V := (HQw2.out.alloc _).1.range
  have ht : (w2.alloc (.cells #[.int .i64 0, .int .i64 0, .int .i64 0, .int .i64 0, .int .i64 0, .bool false, .bool false, .int .u8 0, .int .u8 0, .int .u8 0, .int .u8 0, .int .u8 0, .int .u8 0, .int .u8 0, .int .u8 0, .string ⟨#[]⟩, .string ⟨#[]⟩] 29)).there w2.heap.size 0 V.toArray.size := by rw [HSV.out]; exact (bk_new w2 29 #[.int .i64 0, .int .i64 0, .int .i64 0, .int .i64 0, .int .i64 0, .bool false, .bool false, .int .u8 0, .int .u8 0, .int .u8 0, .int .u8 0, .int .u8 0, .int .u8 0, .int .u8 0, .int .u8 0, .string ⟨#[]⟩, .string ⟨#[]⟩]).there 17 (Nat.le_refl _)
  go_upto_region 7 with (first | (refine wpList_load_mid rfl 29 _ rfl w.heap.size 0 rfl V _ hr Try.underlying29 rfl HIV.out ?_) | (refine wpList_load_mid rfl 29 _ rfl w.heap.size 0 rfl V _ hr' Try.underlying29 rfl HIV.out ?_) | (refine wpList_store_mid rfl 29 _ _ rfl w2.heap.size 0 V.toArray rfl rfl ht HIV.out HOV.out ?_))
  have hK := Bk.sets V 0 _ _ (show Bk _ w2.heap.size 29 pkt0.vals.toArray from bk_new w2 29 #[.int .i64 0, .int .i64 0, .int .i64 0, .int .i64 0, .int .i64 0, .bool false, .bool false, .int .u8 0, .int .u8 0, .int .u8 0, .int .u8 0, .int .u8 0, .int .u8 0, .int .u8 0, .int .u8 0, .string ⟨#[]⟩, .string ⟨#[]⟩])
  rw [HPV.out] at hK
  have HQw3 := Lib.hid ((HQw2.out.alloc (.cells #[.int .i64 0, .int .i64 0, .int .i64 0, .int .i64 0, .int .i64 0, .bool false, .bool false, .int .u8 0, .int .u8 0, .int .u8 0, .int .u8 0, .int .u8 0, .int .u8 0, .int .u8 0, .int .u8 0, .string ⟨#[]⟩, .string ⟨#[]⟩] 29)).sets (c := w2.heap.size) (Nat.ne_of_lt HQw2.out.1.lt) HQw2.out.2.2 0 V)
  have HKw3 := Lib.hid hK
  have HNw3 := Lib.hid (Nat.ne_of_lt HQw2.out.1.lt)
  have HMw3 := Lib.hid HQw2.out.2.2
  clear ht hK hr hr' HQw2
  generalize (w2.alloc (.cells #[.int .i64 0, .int .i64 0, .int .i64 0, .int .i64 0, .int .i64 0, .bool false, .bool false, .int .u8 0, .int .u8 0, .int .u8 0, .int .u8 0, .int .u8 0, .int .u8 0, .int .u8 0, .int .u8 0, .string ⟨#[]⟩, .string ⟨#[]⟩] 29)).setCells w2.heap.size 0 V = w3 at *
  have c2 := HKw3.out.at HC2.out
  have z2 := HKw3.out.z 2
  go_upto_region 8 with (fail)
  clear c2 z2
  have hK := HKw3.out.set 2 (.int .i64 t)
  rw [HVQ0.out, ← HVQ.out] at hK
  have HQw4 := Lib.hid (HQw3.out.set (c := w2.heap.size) HNw3.out HMw3.out 2 (.int .i64 t))
  have HKw4 := Lib.hid hK
  clear hK HKw3 HQw3
  generalize w3.setCell ⟨w2.heap.size, 2, none⟩ (.int .i64 t) = w4 at *
  have hr : w4.rangeAt w2.heap.size 0 VQ := HKw4.out.range
  go_wp2_with (refine wpList_load_mid rfl 29 _ rfl w2.heap.size 0 rfl VQ _ hr Try.underlying29 rfl HIVQ.out ?_)
  clear hr
  refine (HBq.out _).mono ?_
  rintro e w5 ⟨rfl, bb⟩
  have HQw5 := Lib.hid (HQw4.out.below bb (Nat.le_refl _))
  clear bb HQw4
  have hr : w5.rangeAt w.heap.size 0 V := HQw5.out.1.range
  have hr' : (w5.alloc (.cells #[.int .i64 0, .int .i64 0, .int .i64 0, .int .i64 0, .int .i64 0, .bool false, .bool false, .int .u8 0, .int .u8 0, .int .u8 0, .int .u8 0, .int .u8 0, .int .u8 0, .int .u8 0, .int .u8 0, .string ⟨#[]⟩, .string ⟨#[]⟩] 29)).rangeAt w.heap.size 0 V := (HQw5.out.alloc _).1.range
  have ht : (w5.alloc (.cells #[.int .i64 0, .int .i64 0, .int .i64 0, .int .i64 0, .int .i64 0, .bool false, .bool false, .int .u8 0, .int .u8 0, .int .u8 0, .int .u8 0, .int .u8 0, .int .u8 0, .int .u8 0, .int .u8 0, .string ⟨#[]⟩, .string ⟨#[]⟩] 29)).there w5.heap.size 0 V.toArray.size := by rw [HSV.out]; exact (bk_new w5 29 #[.int .i64 0, .int .i64 0, .int .i64 0, .int .i64 0, .int .i64 0, .bool false, .bool false, .int .u8 0, .int .u8 0, .int .u8 0, .int .u8 0, .int .u8 0, .int .u8 0, .int .u8 0, .int .u8 0, .string ⟨#[]⟩, .string ⟨#[]⟩]).there 17 (Nat.le_refl _)
  go_upto_region 10 with (first | (refine wpList_load_mid rfl 29 _ rfl w.heap.size 0 rfl V _ hr Try.underlying29 rfl HIV.out ?_) | (refine wpList_load_mid rfl 29 _ rfl w.heap.size 0 rfl V _ hr' Try.underlying29 rfl HIV.out ?_) | (refine wpList_store_mid rfl 29 _ _ rfl w5.heap.size 0 V.toArray rfl rfl ht HIV.out HOV.out ?_))
  have hK := Bk.sets V 0 _ _ (show Bk _ w5.heap.size 29 pkt0.vals.toArray from bk_new w5 29 #[.int .i64 0, .int .i64 0, .int .i64 0, .int .i64 0, .int .i64 0, .bool false, .bool false, .int .u8 0, .int .u8 0, .int .u8 0, .int .u8 0, .int .u8 0, .int .u8 0, .int .u8 0, .int .u8 0, .string ⟨#[]⟩, .string ⟨#[]⟩])
  rw [HPV.out] at hK
  have HQw6 := Lib.hid ((HQw5.out.alloc (.cells #[.int .i64 0, .int .i64 0, .int .i64 0, .int .i64 0, .int .i64 0, .bool false, .bool false, .int .u8 0, .int .u8 0, .int .u8 0, .int .u8 0, .int .u8 0, .int .u8 0, .int .u8 0, .int .u8 0, .string ⟨#[]⟩, .string ⟨#[]⟩] 29)).sets (c := w5.heap.size) (Nat.ne_of_lt HQw5.out.1.lt) HQw5.out.2.2 0 V)
  have HKw6 := Lib.hid hK
  have HNw6 := Lib.hid (Nat.ne_of_lt HQw5.out.1.lt)
  have HMw6 := Lib.hid HQw5.out.2.2
  clear ht hK hr hr' HQw5
  generalize (w5.alloc (.cells #[.int .i64 0, .int .i64 0, .int .i64 0, .int .i64 0, .int .i64 0, .bool false, .bool false, .int .u8 0, .int .u8 0, .int .u8 0, .int .u8 0, .int .u8 0, .int .u8 0, .int .u8 0, .int .u8 0, .string ⟨#[]⟩, .string ⟨#[]⟩] 29)).setCells w5.heap.size 0 V = w6 at *
  obtain ⟨B, hBd⟩ : ∃ B, B = w.heap.size := ⟨_, rfl⟩
  have hQ6 : QB w B w.heap.size V w6 := by rw [hBd]; exact HQw6.out
  have hK6 : Bk w6.drew w5.heap.size 29 V.toArray := HKw6.out
  have hN6 := HNw6.out
  have hM6 : B ≤ w5.heap.size := by rw [hBd]; exact HMw6.out
  have HBd := Lib.hid hBd
  clear hBd HQw6 HKw6 HNw6 HMw6 HNw3 HMw3
  generalize w5.heap.size = b10 at *
  generalize hgb : w.heap.size = b2 at *
  have HGB := Lib.hid hgb
  clear hgb
  refine wp_region_noPanic ?_
  refine wp_region_held_drew (S := fun w' => QB w B b2 V w' ∧ w'.rangeAt b2 7 AF ∧ w'.rangeAt b2 11 AT) (by kernel_rfl) ((fun q => And.intro q (HRG.out _ _ _ (And.left q))) hQ6.drew) (fun hHeld => ?_)
  refine wpAnyH_take (i := 0) (oi := { dst := some 40, op := Op.fieldAddr 29 (Operand.tmp 2) 8, type := 0, pos := "more.go:21", after := #[], guard := none }) (v := ?_) rfl (by kernel_rfl) (by kernel_rfl) (by kernel_rfl) (fun _ _ _ h => h) (Or.inl ⟨by rfl, ?_⟩) (by assumption) ?_
  rotate_left
  · (intro ww hSw; (try dsimp only at hSw); go_simp; try with_reducible rfl)
  (try simp only [Act.put, List.setIfInBounds_toArray, List.set_cons_zero, List.set_cons_succ])
  refine wpAnyH_take (i := 1) (oi := { dst := some 41, op := Op.load 27 (Operand.tmp 40), type := 27, pos := "more.go:21", after := #[{ on := 0, ground := Ground.data }], guard := none }) (v := .agg (AT).toArray) rfl (by kernel_rfl) (by kernel_rfl) (by kernel_rfl) (fun _ _ _ h => h) (yieldsIf_load_mid (by rfl) _ _ rfl (b2) 11 rfl (AT) _ (fun ww hSw => hSw.2.2) Try.underlying27 rfl HIT.out) (by assumption) ?_
  (try simp only [Act.put, List.setIfInBounds_toArray, List.set_cons_zero, List.set_cons_succ])
  refine wpAnyH_take (i := 2) (oi := { dst := some 42, op := Op.fieldAddr 29 (Operand.tmp 2) 7, type := 0, pos := "more.go:21", after := #[{ on := 5, ground := Ground.gcOnly Departure.lateStores }], guard := none }) (v := ?_) rfl (by kernel_rfl) (by kernel_rfl) (by kernel_rfl) (fun _ _ _ h => h) (Or.inl ⟨by rfl, ?_⟩) (by assumption) ?_
  rotate_left
  · (intro ww hSw; (try dsimp only at hSw); go_simp; try with_reducible rfl)
  (try simp only [Act.put, List.setIfInBounds_toArray, List.set_cons_zero, List.set_cons_succ])
  refine wpAnyH_take (i := 3) (oi := { dst := some 43, op := Op.load 27 (Operand.tmp 42), type := 27, pos := "more.go:21", after := #[{ on := 2, ground := Ground.data }, { on := 5, ground := Ground.gcOnly Departure.lateStores }], guard := none }) (v := .agg (AF).toArray) rfl (by kernel_rfl) (by kernel_rfl) (by kernel_rfl) (fun _ _ _ h => h) (yieldsIf_load_mid (by rfl) _ _ rfl (b2) 7 rfl (AF) _ (fun ww hSw => hSw.2.1) Try.underlying27 rfl HIF.out) (by assumption) ?_
  (try simp only [Act.put, List.setIfInBounds_toArray, List.set_cons_zero, List.set_cons_succ])
  refine wpAnyH_take (i := 4) (oi := { dst := some 44, op := Op.fieldAddr 29 (Operand.tmp 10) 7, type := 0, pos := "more.go:21", after := #[{ on := 0, ground := Ground.phase }, { on := 1, ground := Ground.phase }, { on := 2, ground := Ground.textOnly Departure.lateStores }, { on := 3, ground := Ground.textOnly Departure.lateStores }], guard := none }) (v := ?_) rfl (by kernel_rfl) (by kernel_rfl) (by kernel_rfl) (fun _ _ _ h => h) (Or.inl ⟨by rfl, ?_⟩) (by assumption) ?_
  rotate_left
  · (intro ww hSw; (try dsimp only at hSw); go_simp; try with_reducible rfl)
  (try simp only [Act.put, List.setIfInBounds_toArray, List.set_cons_zero, List.set_cons_succ])
  refine wpAnyH_ready (rs := [5]) (by kernel_rfl) (by simp) ?_
  refine AllReadyH.cons (o := { dst := none, op := Op.store 27 (Operand.tmp 44) (Operand.tmp 41), type := 0, pos := "more.go:21", after := #[{ on := 4, ground := Ground.data }, { on := 1, ground := Ground.data }, { on := 0, ground := Ground.phase }, { on := 1, ground := Ground.phase }, { on := 2, ground := Ground.textOnly Departure.lateStores }, { on := 3, ground := Ground.textOnly Departure.lateStores }], guard := none }) rfl (fun K hK => ?_) AllReadyH.nil
  rw [if_pos (by rfl)]
  have ht5 : w6.drew.there b10 7 AT.toArray.size := by rw [HST.out]; exact hK6.there' 7 4 (by rw [HSV.out]; decide)
  refine wp_store_mid 27 _ _ rfl b10 7 AT.toArray rfl rfl ht5 HIT.out HOT.out ?_
  refine hK.out _ _ ((fun q => And.intro q (HRG.out _ _ _ (And.left q))) (QB.sets (And.left hHeld) hN6 hM6 7 AT)) (fun hHeld => ?_)
  clear hK K
  (try simp only [Act.put])
  have hK7 := Bk.sets AT 7 _ _ hK6
  refine wpAnyH_take (i := 6) (oi := { dst := some 45, op := Op.fieldAddr 29 (Operand.tmp 10) 8, type := 0, pos := "more.go:21", after := #[{ on := 0, ground := Ground.phase }, { on := 1, ground := Ground.phase }, { on := 2, ground := Ground.phase }, { on := 3, ground := Ground.phase }, { on := 4, ground := Ground.phase }, { on := 5, ground := Ground.phase }], guard := none }) (v := ?_) rfl (by kernel_rfl) (by kernel_rfl) (by kernel_rfl) (fun _ _ _ h => h) (Or.inl ⟨by rfl, ?_⟩) (by assumption) ?_
  rotate_left
  · (intro ww hSw; (try dsimp only at hSw); go_simp; try with_reducible rfl)
  (try simp only [Act.put, List.setIfInBounds_toArray, List.set_cons_zero, List.set_cons_succ])
  refine wpAnyH_ready (rs := [7]) (by kernel_rfl) (by simp) ?_
  refine AllReadyH.cons (o := { dst := none, op := Op.store 27 (Operand.tmp 45) (Operand.tmp 43), type := 0, pos := "more.go:21", after := #[{ on := 6, ground := Ground.data }, { on := 3, ground := Ground.data }, { on := 5, ground := Ground.chain }, { on := 0, ground := Ground.phase }, { on := 1, ground := Ground.phase }, { on := 2, ground := Ground.phase }, { on := 3, ground := Ground.phase }, { on := 4, ground := Ground.phase }, { on := 5, ground := Ground.phase }], guard := none }) rfl (fun K hK => ?_) AllReadyH.nil
  rw [if_pos (by rfl)]
  have ht7 : (w6.drew.setCells b10 7 AT).there b10 11 AF.toArray.size := by rw [HSF.out]; exact hK7.there' 11 4 (by rw [HPS.out]; decide)
  refine wp_store_mid 27 _ _ rfl b10 11 AF.toArray rfl rfl ht7 HIF.out HOF.out ?_
  refine hK.out _ _ ((fun q => And.intro q (HRG.out _ _ _ (And.left q))) (QB.sets (And.left hHeld) hN6 hM6 11 AF)) (fun hHeld => ?_)
  clear hK K
  (try simp only [Act.put])
  have hK8 := Bk.sets AF 11 _ _ hK7
  refine wpAnyH_done (by kernel_rfl) ?_ _
  refine NoPanic.normal ?_
  rw [HPR.out] at hK8
  have HK8 := Lib.hid hK8
  have HQ8 := Lib.hid (And.left hHeld)
  clear hK8 hK7 hK6 hHeld ht5 ht7 hQ6 hN6 hM6
  generalize (w6.drew.setCells b10 7 AT).setCells b10 11 AF = w7 at *
  have hr : w7.rangeAt b10 0 VR := HK8.out.range
  go_wp2_with (refine wpList_load_mid rfl 29 _ rfl b10 0 rfl VR _ hr Try.underlying29 rfl HIVR.out ?_)
  clear hr
  refine (HBr.out _).mono ?_
  rintro e w8 ⟨rfl, bb⟩
  have hQ9 := HQ8.out.below bb (Nat.le_refl _)
  clear bb
  have q1 := HZ.out.1
  have q2 := HZ.out.2
  go_wp2_with fail
  obtain ⟨e1, e2, e3, e4, e5, e6, e7, e8⟩ := HE.out
  have y8 : (8 : Int) ≤ (XA.size : Int) := by omega
  have y9 : (9 : Int) < (XA.size : Int) := by omega
  have y8' : (8 : Int) < (XA.size : Int) := by omega
  have y12 : (12 : Int) ≤ (XA.size : Int) := by omega
  have y16 : (16 : Int) ≤ (XA.size : Int) := by omega
  have y20 : (20 : Int) ≤ (XA.size : Int) := by omega
  refine wp_region_noPanic ?_
  refine wp_region_held_drew (S := fun w' => Below B w w') (by kernel_rfl) (hQ9.2.1.drew) (fun hHeld => ?_)
  refine wpAnyH_take (i := 0) (oi := { dst := some 91, op := Op.move (Operand.tmp 5), type := 9, pos := "more.go:29", after := #[], guard := none }) (v := ?_) rfl (by kernel_rfl) (by kernel_rfl) (by kernel_rfl) (fun _ _ _ h => h) (Or.inl ⟨by rfl, ?_⟩) (by assumption) ?_
  rotate_left
  · (intro ww hSw; (try dsimp only at hSw); go_simp; try with_reducible rfl)
  (try simp only [Act.put, List.setIfInBounds_toArray, List.set_cons_zero, List.set_cons_succ])
  refine wpAnyH_take (i := 1) (oi := { dst := some 92, op := Op.slice 9 (Operand.tmp 91) none (some (Operand.const (Value.int IntKind.i64 8))) none, type := 9, pos := "more.go:29", after := #[{ on := 0, ground := Ground.data }], guard := none }) (v := ?_) rfl (by kernel_rfl) (by kernel_rfl) (by kernel_rfl) (fun _ _ _ h => h) (Or.inl ⟨by rfl, ?_⟩) (by assumption) ?_
  rotate_left
  · (intro ww hSw; (try dsimp only at hSw); go_simp; try with_reducible rfl)
  (try simp only [Act.put, List.setIfInBounds_toArray, List.set_cons_zero, List.set_cons_succ])
  refine wpAnyH_take (i := 2) (oi := { dst := some 93, op := Op.move (Operand.tmp 8), type := 9, pos := "more.go:29", after := #[], guard := none }) (v := ?_) rfl (by kernel_rfl) (by kernel_rfl) (by kernel_rfl) (fun _ _ _ h => h) (Or.inl ⟨by rfl, ?_⟩) (by assumption) ?_
  rotate_left
  · (intro ww hSw; (try dsimp only at hSw); go_simp; try with_reducible rfl)
  (try simp only [Act.put, List.setIfInBounds_toArray, List.set_cons_zero, List.set_cons_succ])
  refine wpAnyH_take (i := 3) (oi := { dst := some 94, op := Op.slice 9 (Operand.tmp 93) none (some (Operand.const (Value.int IntKind.i64 8))) none, type := 9, pos := "more.go:29", after := #[{ on := 2, ground := Ground.data }], guard := none }) (v := ?_) rfl (by kernel_rfl) (by kernel_rfl) (by kernel_rfl) (fun _ _ _ h => h) (Or.inl ⟨by rfl, ?_⟩) (by assumption) ?_
  rotate_left
  · (intro ww hSw; (try dsimp only at hSw); go_simp; try with_reducible rfl)
  (try simp only [Act.put, List.setIfInBounds_toArray, List.set_cons_zero, List.set_cons_succ])
  refine wpAnyH_take (i := 4) (oi := { dst := some 95, op := Op.binOp BinOp.eql 9 (Operand.tmp 92) (Operand.tmp 94) 9, type := 4, pos := "more.go:29", after := #[{ on := 1, ground := Ground.data }, { on := 3, ground := Ground.data }], guard := none }) (v := ?_) rfl (by kernel_rfl) (by kernel_rfl) (by kernel_rfl) (fun _ _ _ h => h) (Or.inl ⟨by rfl, ?_⟩) (by assumption) ?_
  rotate_left
  · (intro ww hSw; (try dsimp only at hSw); go_simp; try with_reducible rfl)
  (try simp only [Act.put, List.setIfInBounds_toArray, List.set_cons_zero, List.set_cons_succ])
  refine wpAnyH_take (i := 5) (oi := { dst := some 96, op := Op.move (Operand.tmp 95), type := 4, pos := "more.go:29", after := #[{ on := 4, ground := Ground.data }], guard := none }) (v := ?_) rfl (by kernel_rfl) (by kernel_rfl) (by kernel_rfl) (fun _ _ _ h => h) (Or.inl ⟨by rfl, ?_⟩) (by assumption) ?_
  rotate_left
  · (intro ww hSw; (try dsimp only at hSw); go_simp; try with_reducible rfl)
  (try simp only [Act.put, List.setIfInBounds_toArray, List.set_cons_zero, List.set_cons_succ])
  refine wpAnyH_take (i := 6) (oi := { dst := some 97, op := Op.move (Operand.tmp 5), type := 9, pos := "more.go:29", after := #[{ on := 5, ground := Ground.guard }], guard := some (5, true) }) (v := ?_) rfl (by kernel_rfl) (by kernel_rfl) (by kernel_rfl) (fun _ _ _ h => h) (Or.inl ⟨by rfl, ?_⟩) (by assumption) ?_
  rotate_left
  · (intro ww hSw; (try dsimp only at hSw); go_simp; try with_reducible rfl)
  (try simp only [Act.put, List.setIfInBounds_toArray, List.set_cons_zero, List.set_cons_succ])
  refine wpAnyH_take (i := 7) (oi := { dst := some 98, op := Op.index 9 (Operand.tmp 97) (Operand.const (Value.int IntKind.i64 9)), type := 5, pos := "more.go:29", after := #[{ on := 6, ground := Ground.data }, { on := 5, ground := Ground.guard }], guard := some (5, true) }) (v := ?_) rfl (by kernel_rfl) (by kernel_rfl) (by kernel_rfl) (fun _ _ _ h => h) (Or.inl ⟨by rfl, ?_⟩) (by assumption) ?_
  rotate_left
  · (intro ww hSw; (try dsimp only at hSw); go_simp; try with_reducible rfl)
  (try simp only [Act.put, List.setIfInBounds_toArray, List.set_cons_zero, List.set_cons_succ])
  refine wpAnyH_take (i := 8) (oi := { dst := some 99, op := Op.move (Operand.tmp 8), type := 9, pos := "more.go:29", after := #[{ on := 5, ground := Ground.guard }], guard := some (5, true) }) (v := ?_) rfl (by kernel_rfl) (by kernel_rfl) (by kernel_rfl) (fun _ _ _ h => h) (Or.inl ⟨by rfl, ?_⟩) (by assumption) ?_
  rotate_left
  · (intro ww hSw; (try dsimp only at hSw); go_simp; try with_reducible rfl)
  (try simp only [Act.put, List.setIfInBounds_toArray, List.set_cons_zero, List.set_cons_succ])
  refine wpAnyH_take (i := 9) (oi := { dst := some 100, op := Op.index 9 (Operand.tmp 99) (Operand.const (Value.int IntKind.i64 9)), type := 5, pos := "more.go:29", after := #[{ on := 8, ground := Ground.data }, { on := 5, ground := Ground.guard }], guard := some (5, true) }) (v := ?_) rfl (by kernel_rfl) (by kernel_rfl) (by kernel_rfl) (fun _ _ _ h => h) (Or.inl ⟨by rfl, ?_⟩) (by assumption) ?_
  rotate_left
  · (intro ww hSw; (try dsimp only at hSw); go_simp; try with_reducible rfl)
  (try simp only [Act.put, List.setIfInBounds_toArray, List.set_cons_zero, List.set_cons_succ])
  refine wpAnyH_take (i := 10) (oi := { dst := some 101, op := Op.binOp BinOp.eql 5 (Operand.tmp 98) (Operand.tmp 100) 5, type := 4, pos := "more.go:29", after := #[{ on := 7, ground := Ground.data }, { on := 9, ground := Ground.data }, { on := 5, ground := Ground.guard }], guard := some (5, true) }) (v := ?_) rfl (by kernel_rfl) (by kernel_rfl) (by kernel_rfl) (fun _ _ _ h => h) (Or.inl ⟨by rfl, ?_⟩) (by assumption) ?_
  rotate_left
  · (intro ww hSw; (try dsimp only at hSw); go_simp; try with_reducible rfl)
  (try simp only [Act.put, List.setIfInBounds_toArray, List.set_cons_zero, List.set_cons_succ])
  refine wpAnyH_take (i := 11) (oi := { dst := some 102, op := Op.pick (Operand.tmp 96) (Operand.tmp 101) (Operand.const (Value.bool false)), type := 4, pos := "more.go:29", after := #[{ on := 5, ground := Ground.data }, { on := 10, ground := Ground.data }], guard := none }) (v := ?_) rfl (by kernel_rfl) (by kernel_rfl) (by kernel_rfl) (fun _ _ _ h => h) (Or.inl ⟨by rfl, ?_⟩) (by assumption) ?_
  rotate_left
  · (intro ww hSw; (try dsimp only at hSw); go_simp; try with_reducible rfl)
  (try simp only [Act.put, List.setIfInBounds_toArray, List.set_cons_zero, List.set_cons_succ])
  refine wpAnyH_take (i := 12) (oi := { dst := some 103, op := Op.move (Operand.tmp 102), type := 4, pos := "more.go:29", after := #[{ on := 11, ground := Ground.data }, { on := 5, ground := Ground.chain }], guard := none }) (v := ?_) rfl (by kernel_rfl) (by kernel_rfl) (by kernel_rfl) (fun _ _ _ h => h) (Or.inl ⟨by rfl, ?_⟩) (by assumption) ?_
  rotate_left
  · (intro ww hSw; (try dsimp only at hSw); go_simp; try with_reducible rfl)
  (try simp only [Act.put, List.setIfInBounds_toArray, List.set_cons_zero, List.set_cons_succ])
  refine wpAnyH_take (i := 13) (oi := { dst := some 104, op := Op.move (Operand.tmp 5), type := 9, pos := "more.go:29", after := #[{ on := 12, ground := Ground.guard }], guard := some (12, true) }) (v := ?_) rfl (by kernel_rfl) (by kernel_rfl) (by kernel_rfl) (fun _ _ _ h => h) (Or.inl ⟨by rfl, ?_⟩) (by assumption) ?_
  rotate_left
  · (intro ww hSw; (try dsimp only at hSw); go_simp; try with_reducible rfl)
  (try simp only [Act.put, List.setIfInBounds_toArray, List.set_cons_zero, List.set_cons_succ])
  refine wpAnyH_take (i := 14) (oi := { dst := some 105, op := Op.slice 9 (Operand.tmp 104) (some (Operand.const (Value.int IntKind.i64 12))) none none, type := 9, pos := "more.go:29", after := #[{ on := 13, ground := Ground.data }, { on := 12, ground := Ground.guard }], guard := some (12, true) }) (v := ?_) rfl (by kernel_rfl) (by kernel_rfl) (by kernel_rfl) (fun _ _ _ h => h) (Or.inl ⟨by rfl, ?_⟩) (by assumption) ?_
  rotate_left
  · (intro ww hSw; (try dsimp only at hSw); go_simp; try with_reducible rfl)
  (try simp only [Act.put, List.setIfInBounds_toArray, List.set_cons_zero, List.set_cons_succ])
  refine wpAnyH_take (i := 15) (oi := { dst := some 106, op := Op.move (Operand.tmp 8), type := 9, pos := "more.go:29", after := #[{ on := 12, ground := Ground.guard }], guard := some (12, true) }) (v := ?_) rfl (by kernel_rfl) (by kernel_rfl) (by kernel_rfl) (fun _ _ _ h => h) (Or.inl ⟨by rfl, ?_⟩) (by assumption) ?_
  rotate_left
  · (intro ww hSw; (try dsimp only at hSw); go_simp; try with_reducible rfl)
  (try simp only [Act.put, List.setIfInBounds_toArray, List.set_cons_zero, List.set_cons_succ])
  refine wpAnyH_take (i := 16) (oi := { dst := some 107, op := Op.slice 9 (Operand.tmp 106) (some (Operand.const (Value.int IntKind.i64 12))) none none, type := 9, pos := "more.go:29", after := #[{ on := 15, ground := Ground.data }, { on := 12, ground := Ground.guard }], guard := some (12, true) }) (v := ?_) rfl (by kernel_rfl) (by kernel_rfl) (by kernel_rfl) (fun _ _ _ h => h) (Or.inl ⟨by rfl, ?_⟩) (by assumption) ?_
  rotate_left
  · (intro ww hSw; (try dsimp only at hSw); go_simp; try with_reducible rfl)
  (try simp only [Act.put, List.setIfInBounds_toArray, List.set_cons_zero, List.set_cons_succ])
  refine wpAnyH_take (i := 17) (oi := { dst := some 108, op := Op.binOp BinOp.eql 9 (Operand.tmp 105) (Operand.tmp 107) 9, type := 4, pos := "more.go:29", after := #[{ on := 14, ground := Ground.data }, { on := 16, ground := Ground.data }, { on := 12, ground := Ground.guard }], guard := some (12, true) }) (v := ?_) rfl (by kernel_rfl) (by kernel_rfl) (by kernel_rfl) (fun _ _ _ h => h) (Or.inl ⟨by rfl, ?_⟩) (by assumption) ?_
  rotate_left
  · (intro ww hSw; (try dsimp only at hSw); go_simp; try with_reducible rfl)
  (try simp only [Act.put, List.setIfInBounds_toArray, List.set_cons_zero, List.set_cons_succ])
  refine wpAnyH_take (i := 18) (oi := { dst := some 109, op := Op.pick (Operand.tmp 103) (Operand.tmp 108) (Operand.const (Value.bool false)), type := 4, pos := "more.go:29", after := #[{ on := 12, ground := Ground.data }, { on := 17, ground := Ground.data }], guard := none }) (v := ?_) rfl (by kernel_rfl) (by kernel_rfl) (by kernel_rfl) (fun _ _ _ h => h) (Or.inl ⟨by rfl, ?_⟩) (by assumption) ?_
  rotate_left
  · (intro ww hSw; (try dsimp only at hSw); go_simp; try with_reducible rfl)
  (try simp only [Act.put, List.setIfInBounds_toArray, List.set_cons_zero, List.set_cons_succ])
  refine wpAnyH_take (i := 19) (oi := { dst := some 110, op := Op.move (Operand.tmp 109), type := 4, pos := "more.go:29", after := #[{ on := 18, ground := Ground.data }, { on := 12, ground := Ground.chain }], guard := none }) (v := ?_) rfl (by kernel_rfl) (by kernel_rfl) (by kernel_rfl) (fun _ _ _ h => h) (Or.inl ⟨by rfl, ?_⟩) (by assumption) ?_
  rotate_left
  · (intro ww hSw; (try dsimp only at hSw); go_simp; try with_reducible rfl)
  (try simp only [Act.put, List.setIfInBounds_toArray, List.set_cons_zero, List.set_cons_succ])
  refine wpAnyH_take (i := 20) (oi := { dst := some 111, op := Op.move (Operand.tmp 8), type := 9, pos := "more.go:29", after := #[{ on := 19, ground := Ground.guard }], guard := some (19, true) }) (v := ?_) rfl (by kernel_rfl) (by kernel_rfl) (by kernel_rfl) (fun _ _ _ h => h) (Or.inl ⟨by rfl, ?_⟩) (by assumption) ?_
  rotate_left
  · (intro ww hSw; (try dsimp only at hSw); go_simp; try with_reducible rfl)
  (try simp only [Act.put, List.setIfInBounds_toArray, List.set_cons_zero, List.set_cons_succ])
  refine wpAnyH_take (i := 21) (oi := { dst := some 112, op := Op.index 9 (Operand.tmp 111) (Operand.const (Value.int IntKind.i64 8)), type := 5, pos := "more.go:29", after := #[{ on := 20, ground := Ground.data }, { on := 19, ground := Ground.guard }], guard := some (19, true) }) (v := ?_) rfl (by kernel_rfl) (by kernel_rfl) (by kernel_rfl) (fun _ _ _ h => h) (Or.inl ⟨by rfl, ?_⟩) (by assumption) ?_
  rotate_left
  · (intro ww hSw; (try dsimp only at hSw); go_simp; try with_reducible rfl)
  (try simp only [Act.put, List.setIfInBounds_toArray, List.set_cons_zero, List.set_cons_succ])
  refine wpAnyH_take (i := 22) (oi := { dst := some 113, op := Op.move (Operand.tmp 1), type := 5, pos := "more.go:29", after := #[{ on := 19, ground := Ground.guard }], guard := some (19, true) }) (v := ?_) rfl (by kernel_rfl) (by kernel_rfl) (by kernel_rfl) (fun _ _ _ h => h) (Or.inl ⟨by rfl, ?_⟩) (by assumption) ?_
  rotate_left
  · (intro ww hSw; (try dsimp only at hSw); go_simp; try with_reducible rfl)
  (try simp only [Act.put, List.setIfInBounds_toArray, List.set_cons_zero, List.set_cons_succ])
  refine wpAnyH_take (i := 23) (oi := { dst := some 114, op := Op.binOp BinOp.eql 5 (Operand.tmp 112) (Operand.tmp 113) 5, type := 4, pos := "more.go:29", after := #[{ on := 21, ground := Ground.data }, { on := 22, ground := Ground.data }, { on := 19, ground := Ground.guard }], guard := some (19, true) }) (v := ?_) rfl (by kernel_rfl) (by kernel_rfl) (by kernel_rfl) (fun _ _ _ h => h) (Or.inl ⟨by rfl, ?_⟩) (by assumption) ?_
  rotate_left
  · (intro ww hSw; (try dsimp only at hSw); go_simp; try with_reducible rfl)
  (try simp only [Act.put, List.setIfInBounds_toArray, List.set_cons_zero, List.set_cons_succ])
  refine wpAnyH_take (i := 24) (oi := { dst := some 115, op := Op.pick (Operand.tmp 110) (Operand.tmp 114) (Operand.const (Value.bool false)), type := 4, pos := "more.go:29", after := #[{ on := 19, ground := Ground.data }, { on := 23, ground := Ground.data }], guard := none }) (v := ?_) rfl (by kernel_rfl) (by kernel_rfl) (by kernel_rfl) (fun _ _ _ h => h) (Or.inl ⟨by rfl, ?_⟩) (by assumption) ?_
  rotate_left
  · (intro ww hSw; (try dsimp only at hSw); go_simp; try with_reducible rfl)
  (try simp only [Act.put, List.setIfInBounds_toArray, List.set_cons_zero, List.set_cons_succ])
  refine wpAnyH_take (i := 25) (oi := { dst := some 116, op := Op.move (Operand.tmp 115), type := 4, pos := "more.go:29", after := #[{ on := 24, ground := Ground.data }, { on := 19, ground := Ground.chain }], guard := none }) (v := ?_) rfl (by kernel_rfl) (by kernel_rfl) (by kernel_rfl) (fun _ _ _ h => h) (Or.inl ⟨by rfl, ?_⟩) (by assumption) ?_
  rotate_left
  · (intro ww hSw; (try dsimp only at hSw); go_simp; try with_reducible rfl)
  (try simp only [Act.put, List.setIfInBounds_toArray, List.set_cons_zero, List.set_cons_succ])
  refine wpAnyH_take (i := 26) (oi := { dst := some 117, op := Op.move (Operand.tmp 5), type := 9, pos := "more.go:29", after := #[{ on := 25, ground := Ground.guard }], guard := some (25, true) }) (v := ?_) rfl (by kernel_rfl) (by kernel_rfl) (by kernel_rfl) (fun _ _ _ h => h) (Or.inl ⟨by rfl, ?_⟩) (by assumption) ?_
  rotate_left
  · (intro ww hSw; (try dsimp only at hSw); go_simp; try with_reducible rfl)
  (try simp only [Act.put, List.setIfInBounds_toArray, List.set_cons_zero, List.set_cons_succ])
  refine wpAnyH_take (i := 27) (oi := { dst := some 118, op := Op.slice 9 (Operand.tmp 117) none (some (Operand.const (Value.int IntKind.i64 12))) none, type := 9, pos := "more.go:29", after := #[{ on := 26, ground := Ground.data }, { on := 25, ground := Ground.guard }], guard := some (25, true) }) (v := ?_) rfl (by kernel_rfl) (by kernel_rfl) (by kernel_rfl) (fun _ _ _ h => h) (Or.inl ⟨by rfl, ?_⟩) (by assumption) ?_
  rotate_left
  · (intro ww hSw; (try dsimp only at hSw); go_simp; try with_reducible rfl)
  (try simp only [Act.put, List.setIfInBounds_toArray, List.set_cons_zero, List.set_cons_succ])
  refine wpAnyH_take (i := 28) (oi := { dst := some 119, op := Op.move (Operand.tmp 11), type := 9, pos := "more.go:29", after := #[{ on := 25, ground := Ground.guard }], guard := some (25, true) }) (v := ?_) rfl (by kernel_rfl) (by kernel_rfl) (by kernel_rfl) (fun _ _ _ h => h) (Or.inl ⟨by rfl, ?_⟩) (by assumption) ?_
  rotate_left
  · (intro ww hSw; (try dsimp only at hSw); go_simp; try with_reducible rfl)
  (try simp only [Act.put, List.setIfInBounds_toArray, List.set_cons_zero, List.set_cons_succ])
  refine wpAnyH_take (i := 29) (oi := { dst := some 120, op := Op.slice 9 (Operand.tmp 119) none (some (Operand.const (Value.int IntKind.i64 12))) none, type := 9, pos := "more.go:29", after := #[{ on := 28, ground := Ground.data }, { on := 25, ground := Ground.guard }], guard := some (25, true) }) (v := ?_) rfl (by kernel_rfl) (by kernel_rfl) (by kernel_rfl) (fun _ _ _ h => h) (Or.inl ⟨by rfl, ?_⟩) (by assumption) ?_
  rotate_left
  · (intro ww hSw; (try dsimp only at hSw); go_simp; try with_reducible rfl)
  (try simp only [Act.put, List.setIfInBounds_toArray, List.set_cons_zero, List.set_cons_succ])
  refine wpAnyH_take (i := 30) (oi := { dst := some 121, op := Op.binOp BinOp.eql 9 (Operand.tmp 118) (Operand.tmp 120) 9, type := 4, pos := "more.go:29", after := #[{ on := 27, ground := Ground.data }, { on := 29, ground := Ground.data }, { on := 25, ground := Ground.guard }], guard := some (25, true) }) (v := ?_) rfl (by kernel_rfl) (by kernel_rfl) (by kernel_rfl) (fun _ _ _ h => h) (Or.inl ⟨by rfl, ?_⟩) (by assumption) ?_
  rotate_left
  · (intro ww hSw; (try dsimp only at hSw); go_simp; try with_reducible rfl)
  (try simp only [Act.put, List.setIfInBounds_toArray, List.set_cons_zero, List.set_cons_succ])
  refine wpAnyH_take (i := 31) (oi := { dst := some 122, op := Op.pick (Operand.tmp 116) (Operand.tmp 121) (Operand.const (Value.bool false)), type := 4, pos := "more.go:29", after := #[{ on := 25, ground := Ground.data }, { on := 30, ground := Ground.data }], guard := none }) (v := ?_) rfl (by kernel_rfl) (by kernel_rfl) (by kernel_rfl) (fun _ _ _ h => h) (Or.inl ⟨by rfl, ?_⟩) (by assumption) ?_
  rotate_left
  · (intro ww hSw; (try dsimp only at hSw); go_simp; try with_reducible rfl)
  (try simp only [Act.put, List.setIfInBounds_toArray, List.set_cons_zero, List.set_cons_succ])
  refine wpAnyH_take (i := 32) (oi := { dst := some 123, op := Op.move (Operand.tmp 122), type := 4, pos := "more.go:29", after := #[{ on := 31, ground := Ground.data }, { on := 25, ground := Ground.chain }], guard := none }) (v := ?_) rfl (by kernel_rfl) (by kernel_rfl) (by kernel_rfl) (fun _ _ _ h => h) (Or.inl ⟨by rfl, ?_⟩) (by assumption) ?_
  rotate_left
  · (intro ww hSw; (try dsimp only at hSw); go_simp; try with_reducible rfl)
  (try simp only [Act.put, List.setIfInBounds_toArray, List.set_cons_zero, List.set_cons_succ])
  refine wpAnyH_take (i := 33) (oi := { dst := some 124, op := Op.move (Operand.tmp 5), type := 9, pos := "more.go:29", after := #[{ on := 32, ground := Ground.guard }], guard := some (32, true) }) (v := ?_) rfl (by kernel_rfl) (by kernel_rfl) (by kernel_rfl) (fun _ _ _ h => h) (Or.inl ⟨by rfl, ?_⟩) (by assumption) ?_
  rotate_left
  · (intro ww hSw; (try dsimp only at hSw); go_simp; try with_reducible rfl)
  (try simp only [Act.put, List.setIfInBounds_toArray, List.set_cons_zero, List.set_cons_succ])
  refine wpAnyH_take (i := 34) (oi := { dst := some 125, op := Op.slice 9 (Operand.tmp 124) (some (Operand.const (Value.int IntKind.i64 12))) (some (Operand.const (Value.int IntKind.i64 16))) none, type := 9, pos := "more.go:29", after := #[{ on := 33, ground := Ground.data }, { on := 32, ground := Ground.guard }], guard := some (32, true) }) (v := ?_) rfl (by kernel_rfl) (by kernel_rfl) (by kernel_rfl) (fun _ _ _ h => h) (Or.inl ⟨by rfl, ?_⟩) (by assumption) ?_
  rotate_left
  · (intro ww hSw; (try dsimp only at hSw); go_simp; try with_reducible rfl)
  (try simp only [Act.put, List.setIfInBounds_toArray, List.set_cons_zero, List.set_cons_succ])
  refine wpAnyH_take (i := 35) (oi := { dst := some 126, op := Op.move (Operand.tmp 11), type := 9, pos := "more.go:29", after := #[{ on := 32, ground := Ground.guard }], guard := some (32, true) }) (v := ?_) rfl (by kernel_rfl) (by kernel_rfl) (by kernel_rfl) (fun _ _ _ h => h) (Or.inl ⟨by rfl, ?_⟩) (by assumption) ?_
  rotate_left
  · (intro ww hSw; (try dsimp only at hSw); go_simp; try with_reducible rfl)
  (try simp only [Act.put, List.setIfInBounds_toArray, List.set_cons_zero, List.set_cons_succ])
  refine wpAnyH_take (i := 36) (oi := { dst := some 127, op := Op.slice 9 (Operand.tmp 126) (some (Operand.const (Value.int IntKind.i64 16))) (some (Operand.const (Value.int IntKind.i64 20))) none, type := 9, pos := "more.go:29", after := #[{ on := 35, ground := Ground.data }, { on := 32, ground := Ground.guard }], guard := some (32, true) }) (v := ?_) rfl (by kernel_rfl) (by kernel_rfl) (by kernel_rfl) (fun _ _ _ h => h) (Or.inl ⟨by rfl, ?_⟩) (by assumption) ?_
  rotate_left
  · (intro ww hSw; (try dsimp only at hSw); go_simp; try with_reducible rfl)
  (try simp only [Act.put, List.setIfInBounds_toArray, List.set_cons_zero, List.set_cons_succ])
  refine wpAnyH_take (i := 37) (oi := { dst := some 128, op := Op.binOp BinOp.eql 9 (Operand.tmp 125) (Operand.tmp 127) 9, type := 4, pos := "more.go:29", after := #[{ on := 34, ground := Ground.data }, { on := 36, ground := Ground.data }, { on := 32, ground := Ground.guard }], guard := some (32, true) }) (v := ?_) rfl (by kernel_rfl) (by kernel_rfl) (by kernel_rfl) (fun _ _ _ h => h) (Or.inl ⟨by rfl, ?_⟩) (by assumption) ?_
  rotate_left
  · (intro ww hSw; (try dsimp only at hSw); go_simp; try with_reducible rfl)
  (try simp only [Act.put, List.setIfInBounds_toArray, List.set_cons_zero, List.set_cons_succ])
  refine wpAnyH_take (i := 38) (oi := { dst := some 129, op := Op.pick (Operand.tmp 123) (Operand.tmp 128) (Operand.const (Value.bool false)), type := 4, pos := "more.go:29", after := #[{ on := 32, ground := Ground.data }, { on := 37, ground := Ground.data }], guard := none }) (v := ?_) rfl (by kernel_rfl) (by kernel_rfl) (by kernel_rfl) (fun _ _ _ h => h) (Or.inl ⟨by rfl, ?_⟩) (by assumption) ?_
  rotate_left
  · (intro ww hSw; (try dsimp only at hSw); go_simp; try with_reducible rfl)
  (try simp only [Act.put, List.setIfInBounds_toArray, List.set_cons_zero, List.set_cons_succ])
  refine wpAnyH_take (i := 39) (oi := { dst := some 130, op := Op.move (Operand.tmp 129), type := 4, pos := "more.go:29", after := #[{ on := 38, ground := Ground.data }, { on := 32, ground := Ground.chain }], guard := none }) (v := ?_) rfl (by kernel_rfl) (by kernel_rfl) (by kernel_rfl) (fun _ _ _ h => h) (Or.inl ⟨by rfl, ?_⟩) (by assumption) ?_
  rotate_left
  · (intro ww hSw; (try dsimp only at hSw); go_simp; try with_reducible rfl)
  (try simp only [Act.put, List.setIfInBounds_toArray, List.set_cons_zero, List.set_cons_succ])
  refine wpAnyH_take (i := 40) (oi := { dst := some 131, op := Op.move (Operand.tmp 5), type := 9, pos := "more.go:29", after := #[{ on := 39, ground := Ground.guard }], guard := some (39, true) }) (v := ?_) rfl (by kernel_rfl) (by kernel_rfl) (by kernel_rfl) (fun _ _ _ h => h) (Or.inl ⟨by rfl, ?_⟩) (by assumption) ?_
  rotate_left
  · (intro ww hSw; (try dsimp only at hSw); go_simp; try with_reducible rfl)
  (try simp only [Act.put, List.setIfInBounds_toArray, List.set_cons_zero, List.set_cons_succ])
  refine wpAnyH_take (i := 41) (oi := { dst := some 132, op := Op.slice 9 (Operand.tmp 131) (some (Operand.const (Value.int IntKind.i64 16))) (some (Operand.const (Value.int IntKind.i64 20))) none, type := 9, pos := "more.go:29", after := #[{ on := 40, ground := Ground.data }, { on := 39, ground := Ground.guard }], guard := some (39, true) }) (v := ?_) rfl (by kernel_rfl) (by kernel_rfl) (by kernel_rfl) (fun _ _ _ h => h) (Or.inl ⟨by rfl, ?_⟩) (by assumption) ?_
  rotate_left
  · (intro ww hSw; (try dsimp only at hSw); go_simp; try with_reducible rfl)
  (try simp only [Act.put, List.setIfInBounds_toArray, List.set_cons_zero, List.set_cons_succ])
  refine wpAnyH_take (i := 42) (oi := { dst := some 133, op := Op.move (Operand.tmp 11), type := 9, pos := "more.go:29", after := #[{ on := 39, ground := Ground.guard }], guard := some (39, true) }) (v := ?_) rfl (by kernel_rfl) (by kernel_rfl) (by kernel_rfl) (fun _ _ _ h => h) (Or.inl ⟨by rfl, ?_⟩) (by assumption) ?_
  rotate_left
  · (intro ww hSw; (try dsimp only at hSw); go_simp; try with_reducible rfl)
  (try simp only [Act.put, List.setIfInBounds_toArray, List.set_cons_zero, List.set_cons_succ])
  refine wpAnyH_take (i := 43) (oi := { dst := some 134, op := Op.slice 9 (Operand.tmp 133) (some (Operand.const (Value.int IntKind.i64 12))) (some (Operand.const (Value.int IntKind.i64 16))) none, type := 9, pos := "more.go:29", after := #[{ on := 42, ground := Ground.data }, { on := 39, ground := Ground.guard }], guard := some (39, true) }) (v := ?_) rfl (by kernel_rfl) (by kernel_rfl) (by kernel_rfl) (fun _ _ _ h => h) (Or.inl ⟨by rfl, ?_⟩) (by assumption) ?_
  rotate_left
  · (intro ww hSw; (try dsimp only at hSw); go_simp; try with_reducible rfl)
  (try simp only [Act.put, List.setIfInBounds_toArray, List.set_cons_zero, List.set_cons_succ])
  refine wpAnyH_take (i := 44) (oi := { dst := some 135, op := Op.binOp BinOp.eql 9 (Operand.tmp 132) (Operand.tmp 134) 9, type := 4, pos := "more.go:29", after := #[{ on := 41, ground := Ground.data }, { on := 43, ground := Ground.data }, { on := 39, ground := Ground.guard }], guard := some (39, true) }) (v := ?_) rfl (by kernel_rfl) (by kernel_rfl) (by kernel_rfl) (fun _ _ _ h => h) (Or.inl ⟨by rfl, ?_⟩) (by assumption) ?_
  rotate_left
  · (intro ww hSw; (try dsimp only at hSw); go_simp; try with_reducible rfl)
  (try simp only [Act.put, List.setIfInBounds_toArray, List.set_cons_zero, List.set_cons_succ])
  refine wpAnyH_take (i := 45) (oi := { dst := some 136, op := Op.pick (Operand.tmp 130) (Operand.tmp 135) (Operand.const (Value.bool false)), type := 4, pos := "more.go:29", after := #[{ on := 39, ground := Ground.data }, { on := 44, ground := Ground.data }], guard := none }) (v := ?_) rfl (by kernel_rfl) (by kernel_rfl) (by kernel_rfl) (fun _ _ _ h => h) (Or.inl ⟨by rfl, ?_⟩) (by assumption) ?_
  rotate_left
  · (intro ww hSw; (try dsimp only at hSw); go_simp; try with_reducible rfl)
  (try simp only [Act.put, List.setIfInBounds_toArray, List.set_cons_zero, List.set_cons_succ])
  refine wpAnyH_take (i := 46) (oi := { dst := some 137, op := Op.move (Operand.tmp 136), type := 4, pos := "more.go:29", after := #[{ on := 45, ground := Ground.data }, { on := 39, ground := Ground.chain }], guard := none }) (v := ?_) rfl (by kernel_rfl) (by kernel_rfl) (by kernel_rfl) (fun _ _ _ h => h) (Or.inl ⟨by rfl, ?_⟩) (by assumption) ?_
  rotate_left
  · (intro ww hSw; (try dsimp only at hSw); go_simp; try with_reducible rfl)
  (try simp only [Act.put, List.setIfInBounds_toArray, List.set_cons_zero, List.set_cons_succ])
  refine wpAnyH_take (i := 47) (oi := { dst := some 138, op := Op.move (Operand.tmp 5), type := 9, pos := "more.go:29", after := #[{ on := 46, ground := Ground.guard }], guard := some (46, true) }) (v := ?_) rfl (by kernel_rfl) (by kernel_rfl) (by kernel_rfl) (fun _ _ _ h => h) (Or.inl ⟨by rfl, ?_⟩) (by assumption) ?_
  rotate_left
  · (intro ww hSw; (try dsimp only at hSw); go_simp; try with_reducible rfl)
  (try simp only [Act.put, List.setIfInBounds_toArray, List.set_cons_zero, List.set_cons_succ])
  refine wpAnyH_take (i := 48) (oi := { dst := some 139, op := Op.slice 9 (Operand.tmp 138) (some (Operand.const (Value.int IntKind.i64 20))) none none, type := 9, pos := "more.go:29", after := #[{ on := 47, ground := Ground.data }, { on := 46, ground := Ground.guard }], guard := some (46, true) }) (v := ?_) rfl (by kernel_rfl) (by kernel_rfl) (by kernel_rfl) (fun _ _ _ h => h) (Or.inl ⟨by rfl, ?_⟩) (by assumption) ?_
  rotate_left
  · (intro ww hSw; (try dsimp only at hSw); go_simp; try with_reducible rfl)
  (try simp only [Act.put, List.setIfInBounds_toArray, List.set_cons_zero, List.set_cons_succ])
  refine wpAnyH_take (i := 49) (oi := { dst := some 140, op := Op.move (Operand.tmp 11), type := 9, pos := "more.go:29", after := #[{ on := 46, ground := Ground.guard }], guard := some (46, true) }) (v := ?_) rfl (by kernel_rfl) (by kernel_rfl) (by kernel_rfl) (fun _ _ _ h => h) (Or.inl ⟨by rfl, ?_⟩) (by assumption) ?_
  rotate_left
  · (intro ww hSw; (try dsimp only at hSw); go_simp; try with_reducible rfl)
  (try simp only [Act.put, List.setIfInBounds_toArray, List.set_cons_zero, List.set_cons_succ])
  refine wpAnyH_take (i := 50) (oi := { dst := some 141, op := Op.slice 9 (Operand.tmp 140) (some (Operand.const (Value.int IntKind.i64 20))) none none, type := 9, pos := "more.go:29", after := #[{ on := 49, ground := Ground.data }, { on := 46, ground := Ground.guard }], guard := some (46, true) }) (v := ?_) rfl (by kernel_rfl) (by kernel_rfl) (by kernel_rfl) (fun _ _ _ h => h) (Or.inl ⟨by rfl, ?_⟩) (by assumption) ?_
  rotate_left
  · (intro ww hSw; (try dsimp only at hSw); go_simp; try with_reducible rfl)
  (try simp only [Act.put, List.setIfInBounds_toArray, List.set_cons_zero, List.set_cons_succ])
  refine wpAnyH_take (i := 51) (oi := { dst := some 142, op := Op.binOp BinOp.eql 9 (Operand.tmp 139) (Operand.tmp 141) 9, type := 4, pos := "more.go:29", after := #[{ on := 48, ground := Ground.data }, { on := 50, ground := Ground.data }, { on := 46, ground := Ground.guard }], guard := some (46, true) }) (v := ?_) rfl (by kernel_rfl) (by kernel_rfl) (by kernel_rfl) (fun _ _ _ h => h) (Or.inl ⟨by rfl, ?_⟩) (by assumption) ?_
  rotate_left
  · (intro ww hSw; (try dsimp only at hSw); go_simp; try with_reducible rfl)
  (try simp only [Act.put, List.setIfInBounds_toArray, List.set_cons_zero, List.set_cons_succ])
  refine wpAnyH_take (i := 52) (oi := { dst := some 143, op := Op.pick (Operand.tmp 137) (Operand.tmp 142) (Operand.const (Value.bool false)), type := 4, pos := "more.go:29", after := #[{ on := 46, ground := Ground.data }, { on := 51, ground := Ground.data }], guard := none }) (v := ?_) rfl (by kernel_rfl) (by kernel_rfl) (by kernel_rfl) (fun _ _ _ h => h) (Or.inl ⟨by rfl, ?_⟩) (by assumption) ?_
  rotate_left
  · (intro ww hSw; (try dsimp only at hSw); go_simp; try with_reducible rfl)
  (try simp only [Act.put, List.setIfInBounds_toArray, List.set_cons_zero, List.set_cons_succ])
  refine wpAnyH_take (i := 53) (oi := { dst := some 4, op := Op.assign (Operand.tmp 143), type := 4, pos := "more.go:29", after := #[{ on := 52, ground := Ground.data }, { on := 46, ground := Ground.chain }, { on := 0, ground := Ground.phase }, { on := 1, ground := Ground.phase }, { on := 2, ground := Ground.phase }, { on := 3, ground := Ground.phase }, { on := 4, ground := Ground.phase }, { on := 5, ground := Ground.phase }, { on := 6, ground := Ground.phase }, { on := 7, ground := Ground.phase }, { on := 8, ground := Ground.phase }, { on := 9, ground := Ground.phase }, { on := 10, ground := Ground.phase }, { on := 11, ground := Ground.phase }, { on := 12, ground := Ground.phase }, { on := 13, ground := Ground.phase }, { on := 14, ground := Ground.phase }, { on := 15, ground := Ground.phase }, { on := 16, ground := Ground.phase }, { on := 17, ground := Ground.phase }, { on := 18, ground := Ground.phase }, { on := 19, ground := Ground.phase }, { on := 20, ground := Ground.phase }, { on := 21, ground := Ground.phase }, { on := 22, ground := Ground.phase }, { on := 23, ground := Ground.phase }, { on := 24, ground := Ground.phase }, { on := 25, ground := Ground.phase }, { on := 26, ground := Ground.phase }, { on := 27, ground := Ground.phase }, { on := 28, ground := Ground.phase }, { on := 29, ground := Ground.phase }, { on := 30, ground := Ground.phase }, { on := 31, ground := Ground.phase }, { on := 32, ground := Ground.phase }, { on := 33, ground := Ground.phase }, { on := 34, ground := Ground.phase }, { on := 35, ground := Ground.phase }, { on := 36, ground := Ground.phase }, { on := 37, ground := Ground.phase }, { on := 38, ground := Ground.phase }, { on := 39, ground := Ground.phase }, { on := 40, ground := Ground.phase }, { on := 41, ground := Ground.phase }, { on := 42, ground := Ground.phase }, { on := 43, ground := Ground.phase }, { on := 44, ground := Ground.phase }, { on := 45, ground := Ground.phase }, { on := 46, ground := Ground.phase }, { on := 47, ground := Ground.phase }, { on := 48, ground := Ground.phase }, { on := 49, ground := Ground.phase }, { on := 50, ground := Ground.phase }, { on := 51, ground := Ground.phase }, { on := 52, ground := Ground.phase }], guard := none }) (v := ?_) rfl (by kernel_rfl) (by kernel_rfl) (by kernel_rfl) (fun _ _ _ h => h) (Or.inl ⟨by rfl, ?_⟩) (by assumption) ?_
  rotate_left
  · (intro ww hSw; (try dsimp only at hSw); go_simp; try with_reducible rfl)
  (try simp only [Act.put, List.setIfInBounds_toArray, List.set_cons_zero, List.set_cons_succ])
  refine wpAnyH_done (by kernel_rfl) ?_ _
  refine NoPanic.normal ?_
  have hf := hHeld
  rw [HBd.out, ← HGB.out] at hf
  have HF := Lib.hid hf
  clear hf hHeld hQ9 e1 e2 e3 e4 e5 e6 e7 e8
  go_wp2_with fail
  go_ret
  exact ⟨rfl, HF.out⟩
theorem ip4Fields_all (p : Pkt) (t : Int) (w : World) (h0 : 0 ≤ t) (h1 : t ≤ 255) :
    Calls Try.prog 11 #[.agg p.vals.toArray, .int .u8 t] w fun e w' => e = .returned (.bool true) ∧ Below w.heap.size w w' := by
  by_cases hd : p.data.size ≤ 70000
  · by_cases ho : p.opts.size ≤ 1000
    · by_cases hw : p.why = 0
      · exact ip4Fields_packet p t w h0 h1 hw hd ho
      · exact ip4Fields_none p t w hd ho h0 h1 hw
    · exact ip4Fields_wide p t w hd (by omega)
  · exact ip4Fields_long p t w (by omega)
theorem ip4Fields_any (p : Pkt) (t : Int) (w : World) (_ : p.byt) (h : (Lit.int .u8 t).wf = true) :
    Calls Try.prog 11 #[.agg p.vals.toArray, .int .u8 t] w fun e w' => e = .returned (.bool true) ∧ Below w.heap.size w w' := by
  have h4 : 0 ≤ t ∧ t ≤ 255 := by simpa [Lit.wf, IntKind.min, IntKind.max, IntKind.signed, IntKind.bits] using h
  exact ip4Fields_all p t w h4.1 h4.2
end Go.Proofs.Ytjfkfeobmcnonaa
