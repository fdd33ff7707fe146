/-
  Proved here: what the document's Embed answers.
  Conditions: addresses of 16 and of 4 bytes.
-/
import Derived.Test.YtpjcanejenmldaaRefInside
namespace Go.Proofs.Ytpjcanejenmldaa
open Go.RowKit

theorem b8_set (l : List Int) (i : Nat) (v : Int) : b8 (l.set i v) = (b8 l).set i (.int .u8 v) := by unfold b8; rw [List.map_set]
theorem bk_set8 {w : World} {b : Nat} {T : TypeId} {l : List Int} (h : Bk w b T (b8 l).toArray) (i : Nat) (v : Int) : Bk (w.setCell ⟨b, i, none⟩ (.int .u8 v)) b T (b8 (l.set i v)).toArray := by
  have h2 := h.set i (.int .u8 v)
  rw [b8_set]
  simpa using h2
theorem bk_set9 {w : World} {b : Nat} {T : TypeId} {l : List Int} (h : Bk w.drew b T (b8 l).toArray) (i : Nat) (v : Int) : Bk (w.setCell ⟨b, i, none⟩ (.int .u8 v)).drew b T (b8 (l.set i v)).toArray := bk_set8 h i v
theorem range_take {w : World} {b : Nat} {V : List Value} (h : w.rangeAt b 0 V) (n : Nat) : w.rangeAt b 0 (V.take n) := by
  intro j v hv
  exact h j v (by
    rw [List.getElem?_take] at hv
    split at hv
    · exact hv
    · cases hv)
/-- What is kept while an address is put into another one. -/
def EX (w0 : World) (B b1 b2 : Nat) (VA Z : List Value) (w : World) : Prop := Below B w0 w ∧ B ≤ w.heap.size ∧ Bk w b1 31 VA.toArray ∧ Bk w b2 23 Z.toArray
section
variable {w0 w w' : World} {B b1 b2 g : Nat} {VA Z : List Value}
theorem EX.below (h : EX w0 B b1 b2 VA Z w) (hb : Below w.heap.size w w') : EX w0 B b1 b2 VA Z w' := ⟨h.1.trans (hb.mono h.2.1), Nat.le_trans h.2.1 hb.size, h.2.2.1.below hb h.2.2.1.lt, h.2.2.2.below hb h.2.2.2.lt⟩
theorem EX.drew (h : EX w0 B b1 b2 VA Z w) : EX w0 B b1 b2 VA Z w.drew := ⟨h.1.drew, h.2⟩
theorem EX.set (h : EX w0 B b1 b2 VA Z w) (h1 : b1 ≠ g) (h2 : b2 ≠ g) (hg : B ≤ g) (i : Nat) (v : Value) : EX w0 B b1 b2 VA Z (w.setCell ⟨g, i, none⟩ v) := ⟨h.1.setCell (by exact hg) v, by have := h.2.1; simpa [World.setCell] using this, Bk.set_other h.2.2.1 h1 i v, Bk.set_other h.2.2.2 h2 i v⟩
theorem EX.set9 (h : EX w0 B b1 b2 VA Z w.drew) (h1 : b1 ≠ g) (h2 : b2 ≠ g) (hg : B ≤ g) (i : Nat) (v : Value) : EX w0 B b1 b2 VA Z (w.setCell ⟨g, i, none⟩ v).drew := h.set h1 h2 hg i v
theorem EX.cells {a0 a1 a2 a3 : Int} (h : EX w0 B b1 b2 VA Z w) (hv : VA[0]? = some (.int .u8 a0) ∧ VA[1]? = some (.int .u8 a1) ∧ VA[2]? = some (.int .u8 a2) ∧ VA[3]? = some (.int .u8 a3)) : EX w0 B b1 b2 VA Z w ∧ w.cell? ⟨b1, 0, none⟩ = some (.int .u8 a0) ∧ w.cell? ⟨b1, 1, none⟩ = some (.int .u8 a1) ∧ w.cell? ⟨b1, 2, none⟩ = some (.int .u8 a2) ∧ w.cell? ⟨b1, 3, none⟩ = some (.int .u8 a3) := ⟨h, h.2.2.1.at hv.1, h.2.2.1.at hv.2.1, h.2.2.1.at hv.2.2.1, h.2.2.1.at hv.2.2.2⟩
end
set_option maxRecDepth 100000 in
set_option maxHeartbeats 4000000 in
theorem rembed_any (p : Nt) (a : List Int) (hl : p.ad.length = 16) (ha : a.length = 4) (w : World) :
    Calls Try.prog 16 #[.agg p.vals.toArray, .agg (b8 a).toArray] w fun e w' => e = .returned (.tuple #[.agg (b8 (p.emb a)).toArray, .bool p.right]) ∧ Below w.heap.size w w' := by
  have HR : Hid (∀ W, Calls Try.prog 18 #[.agg p.vals.toArray] W fun e w' => e = .returned (.bool p.right) ∧ Below W.heap.size W w') := Lib.hid (fun W => rright_any p hl W)
  have HI : Hid (p.emb a = if p.right = true then put4 p.ad (pos4 p.ln) a else zero6) := Lib.hid rfl
  have HO : Hid (p.right = true → okL p.ln = true) := Lib.hid (fun h => by unfold Nt.right at h; simp only [Bool.and_eq_true] at h; exact h.1)
  generalize p.emb a = R at *
  generalize hVR : b8 R = VR at *
  have HVR := Lib.hid hVR
  clear hVR
  have HAv : Hid ((b8 a)[0]? = some (.int .u8 (a.getD 0 0)) ∧ (b8 a)[1]? = some (.int .u8 (a.getD 1 0)) ∧ (b8 a)[2]? = some (.int .u8 (a.getD 2 0)) ∧ (b8 a)[3]? = some (.int .u8 (a.getD 3 0))) := Lib.hid ⟨b8_at a 0 (by omega), b8_at a 1 (by omega), b8_at a 2 (by omega), b8_at a 3 (by omega)⟩
  have HV16 := Lib.hid (nvals_ln p hl)
  have HIn := Lib.hid (Try.infoNet p hl)
  have HI6 := Lib.hid (Try.infoSix p.ad hl)
  have HO6 := Lib.hid (b8_one p.ad)
  have HZ6 : Hid ((Try.prog.info? 23).map (·.size) = some 16) := Lib.hid (Try.infoSix zero6 rfl)
  have HLen := Lib.hid hl
  have hs3 : (((w.alloc (.cells p.vals.toArray 26)).alloc (.cells (b8 a).toArray 31)).alloc (.cells ([.int .u8 0, .int .u8 0, .int .u8 0, .int .u8 0, .int .u8 0, .int .u8 0, .int .u8 0, .int .u8 0, .int .u8 0, .int .u8 0, .int .u8 0, .int .u8 0, .int .u8 0, .int .u8 0, .int .u8 0, .int .u8 0] : List Value).toArray 23)).heap.size = w.heap.size + 3 := by simp
  obtain ⟨VZ, hVZ⟩ : ∃ VZ, VZ = b8 zero6 := ⟨_, rfl⟩
  have HBD : Hid (∀ (ρ : Operand → Value) (d : Option Tmp) (ty : TypeId) (ps : String) (af : Array Edge) (W : World), (execOp ρ { dst := d, op := .build 23 #[], type := ty, pos := ps, after := af, guard := none }).run Try.prog W = .ok (.value (.agg VZ.toArray)) W) := Lib.hid (fun ρ d ty ps af W => by rw [hVZ]; exact Try.execZ6 ρ d ty ps af none W)
  have HZz : Hid ((Try.prog.info? 23).map (·.size) = some VZ.toArray.size) := Lib.hid (by rw [hVZ]; exact Try.infoSix zero6 rfl)
  have HOz : Hid (VZ.toArray.all (·.oneCell') = true) := Lib.hid (by rw [hVZ]; exact b8_one zero6)
  have HLz : Hid (VZ.length = 16) := Lib.hid (by rw [hVZ]; rfl)
  have hx3 : EX w w.heap.size (w.heap.size + 1) (w.heap.size + 1 + 1) (b8 a) VZ (((w.alloc (.cells p.vals.toArray 26)).alloc (.cells (b8 a).toArray 31)).alloc (.cells ([.int .u8 0, .int .u8 0, .int .u8 0, .int .u8 0, .int .u8 0, .int .u8 0, .int .u8 0, .int .u8 0, .int .u8 0, .int .u8 0, .int .u8 0, .int .u8 0, .int .u8 0, .int .u8 0, .int .u8 0, .int .u8 0] : List Value).toArray 23)) := by
    rw [hVZ]
    have h1 : (w.alloc (.cells p.vals.toArray 26)).heap.size = w.heap.size + 1 := by simp
    have h2 : ((w.alloc (.cells p.vals.toArray 26)).alloc (.cells (b8 a).toArray 31)).heap.size = w.heap.size + 1 + 1 := by simp
    refine ⟨(((Below.refl _ _).alloc (Nat.le_refl _) _).alloc (by rw [h1]; omega) _).alloc (by rw [h2]; omega) _, by rw [hs3]; omega, ?_, ?_⟩
    · have h := (bk_new (w.alloc (.cells p.vals.toArray 26)) 31 (b8 a).toArray).alloc (.cells ([.int .u8 0, .int .u8 0, .int .u8 0, .int .u8 0, .int .u8 0, .int .u8 0, .int .u8 0, .int .u8 0, .int .u8 0, .int .u8 0, .int .u8 0, .int .u8 0, .int .u8 0, .int .u8 0, .int .u8 0, .int .u8 0] : List Value).toArray 23)
      rwa [h1] at h
    · have h := bk_new ((w.alloc (.cells p.vals.toArray 26)).alloc (.cells (b8 a).toArray 31)) 23 ([.int .u8 0, .int .u8 0, .int .u8 0, .int .u8 0, .int .u8 0, .int .u8 0, .int .u8 0, .int .u8 0, .int .u8 0, .int .u8 0, .int .u8 0, .int .u8 0, .int .u8 0, .int .u8 0, .int .u8 0, .int .u8 0] : List Value).toArray
      rwa [h2] at h
  have hk3 : Bk (((w.alloc (.cells p.vals.toArray 26)).alloc (.cells (b8 a).toArray 31)).alloc (.cells ([.int .u8 0, .int .u8 0, .int .u8 0, .int .u8 0, .int .u8 0, .int .u8 0, .int .u8 0, .int .u8 0, .int .u8 0, .int .u8 0, .int .u8 0, .int .u8 0, .int .u8 0, .int .u8 0, .int .u8 0, .int .u8 0] : List Value).toArray 23)) w.heap.size 26 p.vals.toArray := ((bk_new _ _ _).alloc _).alloc _
  have HT6 := Lib.hid (nvals_ad p hl)
  have HVZ := Lib.hid hVZ
  clear hVZ
  have HP : Hid (∀ q : List Nat, put4 p.ad q a = (((p.ad.set (q.getD 0 0) (a.getD 0 0)).set (q.getD 1 0) (a.getD 1 0)).set (q.getD 2 0) (a.getD 2 0)).set (q.getD 3 0) (a.getD 3 0)) := Lib.hid (fun _ => rfl)
  generalize p.right = rt at *
  generalize p.ln = L at *
  generalize p.vals = V at *
  generalize a.getD 0 0 = a0 at *
  generalize a.getD 1 0 = a1 at *
  generalize a.getD 2 0 = a2 at *
  generalize a.getD 3 0 = a3 at *
  generalize b8 a = VA at *
  generalize p.ad = A at *
  have HXd : Hid (b8 A = b8 A) := Lib.hid rfl
  generalize hX8 : b8 A = X8 at *
  have HX8 := Lib.hid hX8
  clear hl ha hX8 HXd
  generalize hw3 : ((w.alloc (.cells V.toArray 26)).alloc (.cells VA.toArray 31)).alloc (.cells ([.int .u8 0, .int .u8 0, .int .u8 0, .int .u8 0, .int .u8 0, .int .u8 0, .int .u8 0, .int .u8 0, .int .u8 0, .int .u8 0, .int .u8 0, .int .u8 0, .int .u8 0, .int .u8 0, .int .u8 0, .int .u8 0] : List Value).toArray 23) = w3 at *
  have HX3 := Lib.hid hx3
  have HK3 := Lib.hid hk3
  have HS3 := Lib.hid hs3
  have hr6 : w3.rangeAt w.heap.size 0 X8 := by
    have h := range_take hk3.range 16
    have e := HT6.out
    simp only at h
    rwa [e] at h
  have hth := (bk_new w3 23 ([.int .u8 0, .int .u8 0, .int .u8 0, .int .u8 0, .int .u8 0, .int .u8 0, .int .u8 0, .int .u8 0, .int .u8 0, .int .u8 0, .int .u8 0, .int .u8 0, .int .u8 0, .int .u8 0, .int .u8 0, .int .u8 0] : List Value).toArray).there 16 (Nat.le_refl _)
  have HL8 : Hid (X8.length = 16) := Lib.hid (by rw [← HX8.out, b8_len, HLen.out])
  have hthX : (w3.alloc (.cells ([.int .u8 0, .int .u8 0, .int .u8 0, .int .u8 0, .int .u8 0, .int .u8 0, .int .u8 0, .int .u8 0, .int .u8 0, .int .u8 0, .int .u8 0, .int .u8 0, .int .u8 0, .int .u8 0, .int .u8 0, .int .u8 0] : List Value).toArray 23)).there w3.heap.size 0 X8.toArray.size := by
    have e : X8.toArray.size = 16 := by simpa using HL8.out
    rw [e]
    exact hth
  clear hx3 hk3 hs3 hth
  go_enter Try.func16, Try.ntmps16
  go_upto_region 1 with (fail)
  clear hw3
  go_upto_region 2 with (first | (refine wpList_load_mid rfl 23 _ rfl w.heap.size 0 rfl X8 _ hr6 Try.underlying23 rfl HI6.out ?_) | (refine wpList_store_mid rfl 23 _ _ rfl w3.heap.size 0 X8.toArray rfl rfl hthX (by simpa using HI6.out) HO6.out ?_))
  have hk4 : Bk ((w3.alloc (.cells ([.int .u8 0, .int .u8 0, .int .u8 0, .int .u8 0, .int .u8 0, .int .u8 0, .int .u8 0, .int .u8 0, .int .u8 0, .int .u8 0, .int .u8 0, .int .u8 0, .int .u8 0, .int .u8 0, .int .u8 0, .int .u8 0] : List Value).toArray 23)).setCells w3.heap.size 0 X8) w3.heap.size 23 X8.toArray := by
    have h := Bk.sets X8 0 _ _ (bk_new w3 23 ([.int .u8 0, .int .u8 0, .int .u8 0, .int .u8 0, .int .u8 0, .int .u8 0, .int .u8 0, .int .u8 0, .int .u8 0, .int .u8 0, .int .u8 0, .int .u8 0, .int .u8 0, .int .u8 0, .int .u8 0, .int .u8 0] : List Value).toArray)
    rwa [puts_whole ([.int .u8 0, .int .u8 0, .int .u8 0, .int .u8 0, .int .u8 0, .int .u8 0, .int .u8 0, .int .u8 0, .int .u8 0, .int .u8 0, .int .u8 0, .int .u8 0, .int .u8 0, .int .u8 0, .int .u8 0, .int .u8 0] : List Value).toArray X8 (by rw [HL8.out]; rfl)] at h
  have hx4 : EX w w.heap.size (w.heap.size + 1) (w.heap.size + 1 + 1) VA VZ ((w3.alloc (.cells ([.int .u8 0, .int .u8 0, .int .u8 0, .int .u8 0, .int .u8 0, .int .u8 0, .int .u8 0, .int .u8 0, .int .u8 0, .int .u8 0, .int .u8 0, .int .u8 0, .int .u8 0, .int .u8 0, .int .u8 0, .int .u8 0] : List Value).toArray 23)).setCells w3.heap.size 0 X8) := by
    obtain ⟨h1, h2, h3, h4⟩ := HX3.out
    have hs := HS3.out
    exact ⟨below_sets _ h2 0 _ (h1.alloc h2 _), by rw [size_sets]; simp; omega, (h3.alloc _).sets_other (by omega) 0 _, (h4.alloc _).sets_other (by omega) 0 _⟩
  have hn4 : Bk ((w3.alloc (.cells ([.int .u8 0, .int .u8 0, .int .u8 0, .int .u8 0, .int .u8 0, .int .u8 0, .int .u8 0, .int .u8 0, .int .u8 0, .int .u8 0, .int .u8 0, .int .u8 0, .int .u8 0, .int .u8 0, .int .u8 0, .int .u8 0] : List Value).toArray 23)).setCells w3.heap.size 0 X8) w.heap.size 26 V.toArray := (HK3.out.alloc _).sets_other (by have := HS3.out; omega) 0 _
  have hg : w3.heap.size = w.heap.size + 3 := HS3.out
  clear hr6 hthX HX3 HK3 HS3
  generalize (w3.alloc (.cells ([.int .u8 0, .int .u8 0, .int .u8 0, .int .u8 0, .int .u8 0, .int .u8 0, .int .u8 0, .int .u8 0, .int .u8 0, .int .u8 0, .int .u8 0, .int .u8 0, .int .u8 0, .int .u8 0, .int .u8 0, .int .u8 0] : List Value).toArray 23)).setCells w3.heap.size 0 X8 = w4 at *
  generalize w3.heap.size = g at *
  have HG := Lib.hid hg
  have HX4 := Lib.hid hx4
  have HY4 := Lib.hid hk4
  have HN4 := Lib.hid hn4
  have hr := hn4.range
  clear hg hx4 hk4 hn4
  go_wp2_with (refine wpList_load_mid rfl 26 _ rfl w.heap.size 0 rfl V _ hr Try.underlying26 rfl HIn.out ?_)
  clear hr
  refine (HR.out _).mono ?_
  rintro e w5 ⟨rfl, b5⟩
  have HX5 := Lib.hid (HX4.out.below b5)
  have HY5 := Lib.hid (HY4.out.below b5 HY4.out.lt)
  have HN5 := Lib.hid (HN4.out.below b5 HN4.out.lt)
  clear b5 HX4 HY4 HN4 HR
  cases rt
  · have HXr : Hid (VR = VZ) := Lib.hid (by rw [← HVR.out, HI.out, HVZ.out]; rfl)
    clear HI HO HAv HP
    have ht : w5.there (w.heap.size + 1 + 1) 0 VZ.toArray.size := HX5.out.2.2.2.there _ (Nat.le_refl _)
    go_wp2_with (first | (refine Great.wpList_readTo rfl _ rfl (.agg VZ.toArray) (HBD.out _ _ _ _ _ _) ?_) | (refine wpList_store_mid rfl 23 _ _ rfl (w.heap.size + 1 + 1) 0 VZ.toArray rfl rfl ht HZz.out HOz.out ?_))
    have hk7 := Bk.sets VZ 0 _ _ HX5.out.2.2.2
    rw [puts_whole VZ.toArray VZ (by simp)] at hk7
    refine bodyPost_ret (v := .tuple #[.agg VZ.toArray, .bool false]) ?_ rfl ⟨by rw [HXr.out], below_sets _ (by omega) 0 _ HX5.out.1⟩
    exact results_cell2 rfl rfl rfl (run_loadVar_mid _ (w.heap.size + 1 + 1) 0 23 VZ _ hk7.range Try.underlying23 rfl (by simpa using HZz.out))
  · have hok := HO.out rfl
    have c16 := HN5.out.at HV16.out
    clear HO
    have i0 : (0 : Int) < 16 := by decide
    rcases okL_cases hok with rfl | rfl | rfl | rfl | rfl | rfl
    · have HXr : Hid (b8 (((((A).set 4 a0).set 5 a1).set 6 a2).set 7 a3) = VR) := Lib.hid (by rw [← HVR.out, HI.out, HP.out]; rfl)
      clear hok HI HP HVR
      go_upto_region 6 with (fail)
      clear c16
      have hy0 : Bk w5.drew g 23 (b8 A).toArray := by rw [HX8.out]; exact HY5.out
      refine wp_region_noPanic ?_
      refine wp_region_held_drew (S := fun w' => EX w w.heap.size (w.heap.size + 1) (w.heap.size + 1 + 1) VA VZ w' ∧ w'.cell? ⟨w.heap.size + 1, 0, none⟩ = some (.int .u8 a0) ∧ w'.cell? ⟨w.heap.size + 1, 1, none⟩ = some (.int .u8 a1) ∧ w'.cell? ⟨w.heap.size + 1, 2, none⟩ = some (.int .u8 a2) ∧ w'.cell? ⟨w.heap.size + 1, 3, none⟩ = some (.int .u8 a3)) (by kernel_rfl) (HX5.out.drew.cells HAv.out) (fun hHeld => ?_)
      refine wpAnyH_take (i := 0) (oi := { dst := some 17, op := Op.indexAddr 31 (Operand.tmp 3) (Operand.const (Value.int IntKind.i64 0)), type := 0, pos := "ref.go:40", after := #[], guard := none }) (v := ?_) rfl (by kernel_rfl) (by kernel_rfl) (by kernel_rfl) (fun _ _ _ h => h) (Or.inl ⟨by rfl, ?_⟩) (by assumption) ?_
      rotate_left
      · (intro ww hSw; (try dsimp only at hSw); go_simp; try with_reducible rfl)
      (try simp only [Act.put, List.setIfInBounds_toArray, List.set_cons_zero, List.set_cons_succ])
      refine wpAnyH_take (i := 1) (oi := { dst := some 18, op := Op.load 5 (Operand.tmp 17), type := 5, pos := "ref.go:40", after := #[{ on := 0, ground := Ground.data }], guard := none }) (v := ?_) rfl (by kernel_rfl) (by kernel_rfl) (by kernel_rfl) (fun _ _ _ h => h) (Or.inl ⟨by rfl, ?_⟩) (by assumption) ?_
      rotate_left
      · (intro ww hSw; (try dsimp only at hSw); go_simp; try with_reducible rfl)
      (try simp only [Act.put, List.setIfInBounds_toArray, List.set_cons_zero, List.set_cons_succ])
      refine wpAnyH_take (i := 2) (oi := { dst := some 19, op := Op.indexAddr 31 (Operand.tmp 3) (Operand.const (Value.int IntKind.i64 1)), type := 0, pos := "ref.go:40", after := #[{ on := 9, ground := Ground.gcOnly Departure.lateStores }], guard := none }) (v := ?_) rfl (by kernel_rfl) (by kernel_rfl) (by kernel_rfl) (fun _ _ _ h => h) (Or.inl ⟨by rfl, ?_⟩) (by assumption) ?_
      rotate_left
      · (intro ww hSw; (try dsimp only at hSw); go_simp; try with_reducible rfl)
      (try simp only [Act.put, List.setIfInBounds_toArray, List.set_cons_zero, List.set_cons_succ])
      refine wpAnyH_take (i := 3) (oi := { dst := some 20, op := Op.load 5 (Operand.tmp 19), type := 5, pos := "ref.go:40", after := #[{ on := 2, ground := Ground.data }, { on := 9, ground := Ground.gcOnly Departure.lateStores }], guard := none }) (v := ?_) rfl (by kernel_rfl) (by kernel_rfl) (by kernel_rfl) (fun _ _ _ h => h) (Or.inl ⟨by rfl, ?_⟩) (by assumption) ?_
      rotate_left
      · (intro ww hSw; (try dsimp only at hSw); go_simp; try with_reducible rfl)
      (try simp only [Act.put, List.setIfInBounds_toArray, List.set_cons_zero, List.set_cons_succ])
      refine wpAnyH_take (i := 4) (oi := { dst := some 21, op := Op.indexAddr 31 (Operand.tmp 3) (Operand.const (Value.int IntKind.i64 2)), type := 0, pos := "ref.go:40", after := #[{ on := 11, ground := Ground.gcOnly Departure.lateStores }], guard := none }) (v := ?_) rfl (by kernel_rfl) (by kernel_rfl) (by kernel_rfl) (fun _ _ _ h => h) (Or.inl ⟨by rfl, ?_⟩) (by assumption) ?_
      rotate_left
      · (intro ww hSw; (try dsimp only at hSw); go_simp; try with_reducible rfl)
      (try simp only [Act.put, List.setIfInBounds_toArray, List.set_cons_zero, List.set_cons_succ])
      refine wpAnyH_take (i := 5) (oi := { dst := some 22, op := Op.load 5 (Operand.tmp 21), type := 5, pos := "ref.go:40", after := #[{ on := 4, ground := Ground.data }, { on := 11, ground := Ground.gcOnly Departure.lateStores }], guard := none }) (v := ?_) rfl (by kernel_rfl) (by kernel_rfl) (by kernel_rfl) (fun _ _ _ h => h) (Or.inl ⟨by rfl, ?_⟩) (by assumption) ?_
      rotate_left
      · (intro ww hSw; (try dsimp only at hSw); go_simp; try with_reducible rfl)
      (try simp only [Act.put, List.setIfInBounds_toArray, List.set_cons_zero, List.set_cons_succ])
      refine wpAnyH_take (i := 6) (oi := { dst := some 23, op := Op.indexAddr 31 (Operand.tmp 3) (Operand.const (Value.int IntKind.i64 3)), type := 0, pos := "ref.go:40", after := #[{ on := 13, ground := Ground.gcOnly Departure.lateStores }], guard := none }) (v := ?_) rfl (by kernel_rfl) (by kernel_rfl) (by kernel_rfl) (fun _ _ _ h => h) (Or.inl ⟨by rfl, ?_⟩) (by assumption) ?_
      rotate_left
      · (intro ww hSw; (try dsimp only at hSw); go_simp; try with_reducible rfl)
      (try simp only [Act.put, List.setIfInBounds_toArray, List.set_cons_zero, List.set_cons_succ])
      refine wpAnyH_take (i := 7) (oi := { dst := some 24, op := Op.load 5 (Operand.tmp 23), type := 5, pos := "ref.go:40", after := #[{ on := 6, ground := Ground.data }, { on := 13, ground := Ground.gcOnly Departure.lateStores }], guard := none }) (v := ?_) rfl (by kernel_rfl) (by kernel_rfl) (by kernel_rfl) (fun _ _ _ h => h) (Or.inl ⟨by rfl, ?_⟩) (by assumption) ?_
      rotate_left
      · (intro ww hSw; (try dsimp only at hSw); go_simp; try with_reducible rfl)
      (try simp only [Act.put, List.setIfInBounds_toArray, List.set_cons_zero, List.set_cons_succ])
      refine wpAnyH_take (i := 8) (oi := { dst := some 25, op := Op.indexAddr 23 (Operand.tmp 6) (Operand.const (Value.int IntKind.i64 4)), type := 0, pos := "ref.go:40", after := #[{ on := 0, ground := Ground.phase }, { on := 1, ground := Ground.phase }, { on := 2, ground := Ground.textOnly Departure.lateStores }, { on := 3, ground := Ground.textOnly Departure.lateStores }, { on := 4, ground := Ground.textOnly Departure.lateStores }, { on := 5, ground := Ground.textOnly Departure.lateStores }, { on := 6, ground := Ground.textOnly Departure.lateStores }, { on := 7, ground := Ground.textOnly Departure.lateStores }], guard := none }) (v := ?_) rfl (by kernel_rfl) (by kernel_rfl) (by kernel_rfl) (fun _ _ _ h => h) (Or.inl ⟨by rfl, ?_⟩) (by assumption) ?_
      rotate_left
      · (intro ww hSw; (try dsimp only at hSw); go_simp; try with_reducible rfl)
      (try simp only [Act.put, List.setIfInBounds_toArray, List.set_cons_zero, List.set_cons_succ])
      have cc := hy0.at (i := 4) (by rw [b8_at _ 4 (by (try simp only [List.length_set]); have := HLen.out; omega)])
      have cz := hy0.z 4
      refine wpAnyH_ready (rs := [9]) (by kernel_rfl) (by simp) ?_
      refine AllReadyH.cons (o := { dst := none, op := Op.store 5 (Operand.tmp 25) (Operand.tmp 18), type := 0, pos := "ref.go:40", after := #[{ on := 8, ground := Ground.data }, { on := 1, ground := Ground.data }, { on := 0, ground := Ground.phase }, { on := 1, ground := Ground.phase }, { on := 2, ground := Ground.textOnly Departure.lateStores }, { on := 3, ground := Ground.textOnly Departure.lateStores }, { on := 4, ground := Ground.textOnly Departure.lateStores }, { on := 5, ground := Ground.textOnly Departure.lateStores }, { on := 6, ground := Ground.textOnly Departure.lateStores }, { on := 7, ground := Ground.textOnly Departure.lateStores }], guard := none }) rfl (fun K hK => ?_) AllReadyH.nil
      go_simp
      refine hK.out _ _ ((hHeld.1.set9 (g := g) (by have := HG.out; omega) (by have := HG.out; omega) (by have := HG.out; omega) 4 (.int .u8 a0)).cells HAv.out) (fun hHeld => ?_)
      clear hK K
      (try simp only [Act.put])
      have hy1 := bk_set9 hy0 4 a0
      refine wpAnyH_take (i := 10) (oi := { dst := some 26, op := Op.indexAddr 23 (Operand.tmp 6) (Operand.const (Value.int IntKind.i64 5)), type := 0, pos := "ref.go:40", after := #[{ on := 0, ground := Ground.phase }, { on := 1, ground := Ground.phase }, { on := 2, ground := Ground.phase }, { on := 3, ground := Ground.phase }, { on := 4, ground := Ground.textOnly Departure.lateStores }, { on := 5, ground := Ground.textOnly Departure.lateStores }, { on := 6, ground := Ground.textOnly Departure.lateStores }, { on := 7, ground := Ground.textOnly Departure.lateStores }, { on := 8, ground := Ground.phase }, { on := 9, ground := Ground.phase }], guard := none }) (v := ?_) rfl (by kernel_rfl) (by kernel_rfl) (by kernel_rfl) (fun _ _ _ h => h) (Or.inl ⟨by rfl, ?_⟩) (by assumption) ?_
      rotate_left
      · (intro ww hSw; (try dsimp only at hSw); go_simp; try with_reducible rfl)
      (try simp only [Act.put, List.setIfInBounds_toArray, List.set_cons_zero, List.set_cons_succ])
      have cc := hy1.at (i := 5) (by rw [b8_at _ 5 (by (try simp only [List.length_set]); have := HLen.out; omega)])
      have cz := hy1.z 5
      refine wpAnyH_ready (rs := [11]) (by kernel_rfl) (by simp) ?_
      refine AllReadyH.cons (o := { dst := none, op := Op.store 5 (Operand.tmp 26) (Operand.tmp 20), type := 0, pos := "ref.go:40", after := #[{ on := 10, ground := Ground.data }, { on := 3, ground := Ground.data }, { on := 9, ground := Ground.chain }, { on := 0, ground := Ground.phase }, { on := 1, ground := Ground.phase }, { on := 2, ground := Ground.phase }, { on := 3, ground := Ground.phase }, { on := 4, ground := Ground.textOnly Departure.lateStores }, { on := 5, ground := Ground.textOnly Departure.lateStores }, { on := 6, ground := Ground.textOnly Departure.lateStores }, { on := 7, ground := Ground.textOnly Departure.lateStores }, { on := 8, ground := Ground.phase }, { on := 9, ground := Ground.phase }], guard := none }) rfl (fun K hK => ?_) AllReadyH.nil
      go_simp
      refine hK.out _ _ ((hHeld.1.set9 (g := g) (by have := HG.out; omega) (by have := HG.out; omega) (by have := HG.out; omega) 5 (.int .u8 a1)).cells HAv.out) (fun hHeld => ?_)
      clear hK K
      (try simp only [Act.put])
      have hy2 := bk_set9 hy1 5 a1
      refine wpAnyH_take (i := 12) (oi := { dst := some 27, op := Op.indexAddr 23 (Operand.tmp 6) (Operand.const (Value.int IntKind.i64 6)), type := 0, pos := "ref.go:40", after := #[{ on := 0, ground := Ground.phase }, { on := 1, ground := Ground.phase }, { on := 2, ground := Ground.phase }, { on := 3, ground := Ground.phase }, { on := 4, ground := Ground.phase }, { on := 5, ground := Ground.phase }, { on := 6, ground := Ground.textOnly Departure.lateStores }, { on := 7, ground := Ground.textOnly Departure.lateStores }, { on := 8, ground := Ground.phase }, { on := 9, ground := Ground.phase }, { on := 10, ground := Ground.phase }, { on := 11, ground := Ground.phase }], guard := none }) (v := ?_) rfl (by kernel_rfl) (by kernel_rfl) (by kernel_rfl) (fun _ _ _ h => h) (Or.inl ⟨by rfl, ?_⟩) (by assumption) ?_
      rotate_left
      · (intro ww hSw; (try dsimp only at hSw); go_simp; try with_reducible rfl)
      (try simp only [Act.put, List.setIfInBounds_toArray, List.set_cons_zero, List.set_cons_succ])
      have cc := hy2.at (i := 6) (by rw [b8_at _ 6 (by (try simp only [List.length_set]); have := HLen.out; omega)])
      have cz := hy2.z 6
      refine wpAnyH_ready (rs := [13]) (by kernel_rfl) (by simp) ?_
      refine AllReadyH.cons (o := { dst := none, op := Op.store 5 (Operand.tmp 27) (Operand.tmp 22), type := 0, pos := "ref.go:40", after := #[{ on := 12, ground := Ground.data }, { on := 5, ground := Ground.data }, { on := 11, ground := Ground.chain }, { on := 0, ground := Ground.phase }, { on := 1, ground := Ground.phase }, { on := 2, ground := Ground.phase }, { on := 3, ground := Ground.phase }, { on := 4, ground := Ground.phase }, { on := 5, ground := Ground.phase }, { on := 6, ground := Ground.textOnly Departure.lateStores }, { on := 7, ground := Ground.textOnly Departure.lateStores }, { on := 8, ground := Ground.phase }, { on := 9, ground := Ground.phase }, { on := 10, ground := Ground.phase }, { on := 11, ground := Ground.phase }], guard := none }) rfl (fun K hK => ?_) AllReadyH.nil
      go_simp
      refine hK.out _ _ ((hHeld.1.set9 (g := g) (by have := HG.out; omega) (by have := HG.out; omega) (by have := HG.out; omega) 6 (.int .u8 a2)).cells HAv.out) (fun hHeld => ?_)
      clear hK K
      (try simp only [Act.put])
      have hy3 := bk_set9 hy2 6 a2
      refine wpAnyH_take (i := 14) (oi := { dst := some 28, op := Op.indexAddr 23 (Operand.tmp 6) (Operand.const (Value.int IntKind.i64 7)), type := 0, pos := "ref.go:40", after := #[{ on := 0, ground := Ground.phase }, { on := 1, ground := Ground.phase }, { on := 2, ground := Ground.phase }, { on := 3, ground := Ground.phase }, { on := 4, ground := Ground.phase }, { on := 5, ground := Ground.phase }, { on := 6, ground := Ground.phase }, { on := 7, ground := Ground.phase }, { on := 8, ground := Ground.phase }, { on := 9, ground := Ground.phase }, { on := 10, ground := Ground.phase }, { on := 11, ground := Ground.phase }, { on := 12, ground := Ground.phase }, { on := 13, ground := Ground.phase }], guard := none }) (v := ?_) rfl (by kernel_rfl) (by kernel_rfl) (by kernel_rfl) (fun _ _ _ h => h) (Or.inl ⟨by rfl, ?_⟩) (by assumption) ?_
      rotate_left
      · (intro ww hSw; (try dsimp only at hSw); go_simp; try with_reducible rfl)
      (try simp only [Act.put, List.setIfInBounds_toArray, List.set_cons_zero, List.set_cons_succ])
      have cc := hy3.at (i := 7) (by rw [b8_at _ 7 (by (try simp only [List.length_set]); have := HLen.out; omega)])
      have cz := hy3.z 7
      refine wpAnyH_ready (rs := [15]) (by kernel_rfl) (by simp) ?_
      refine AllReadyH.cons (o := { dst := none, op := Op.store 5 (Operand.tmp 28) (Operand.tmp 24), type := 0, pos := "ref.go:40", after := #[{ on := 14, ground := Ground.data }, { on := 7, ground := Ground.data }, { on := 13, ground := Ground.chain }, { on := 0, ground := Ground.phase }, { on := 1, ground := Ground.phase }, { on := 2, ground := Ground.phase }, { on := 3, ground := Ground.phase }, { on := 4, ground := Ground.phase }, { on := 5, ground := Ground.phase }, { on := 6, ground := Ground.phase }, { on := 7, ground := Ground.phase }, { on := 8, ground := Ground.phase }, { on := 9, ground := Ground.phase }, { on := 10, ground := Ground.phase }, { on := 11, ground := Ground.phase }, { on := 12, ground := Ground.phase }, { on := 13, ground := Ground.phase }], guard := none }) rfl (fun K hK => ?_) AllReadyH.nil
      go_simp
      refine hK.out _ _ ((hHeld.1.set9 (g := g) (by have := HG.out; omega) (by have := HG.out; omega) (by have := HG.out; omega) 7 (.int .u8 a3)).cells HAv.out) (fun hHeld => ?_)
      clear hK K
      (try simp only [Act.put])
      have hy4 := bk_set9 hy3 7 a3
      refine wpAnyH_done (by kernel_rfl) ?_ _
      refine NoPanic.normal ?_
      have HXE := Lib.hid (And.left hHeld)
      have HYE := Lib.hid hy4
      rw [HXr.out] at HYE
      have hs9 : VR.length = 16 := by rw [← HXr.out, b8_len]; simp [HLen.out]
      have HOv : Hid (VR.toArray.all (·.oneCell') = true) := Lib.hid (by rw [← HXr.out]; exact b8_one _)
      clear hHeld hy0 hy1 hy2 hy3 hy4 HXr HX5 HAv
      generalize ((((w5.setCell ⟨g, 4, none⟩ (.int .u8 a0)).setCell ⟨g, 5, none⟩ (.int .u8 a1)).setCell ⟨g, 6, none⟩ (.int .u8 a2)).setCell ⟨g, 7, none⟩ (.int .u8 a3)).drew = w9 at *
      have hr9 := HYE.out.range
      have ht9 : w9.there (w.heap.size + 1 + 1) 0 VR.toArray.size := HXE.out.2.2.2.there _ (by have := HLz.out; simp; omega)
      have HI9 : Hid ((Try.prog.info? 23).map (·.size) = some VR.length) := Lib.hid (by rw [hs9]; exact HZ6.out)
      have HS9 := Lib.hid hs9
      clear hs9
      go_wp2_with (first | (refine wpList_load_mid rfl 23 _ rfl g 0 rfl VR _ hr9 Try.underlying23 rfl HI9.out ?_) | (refine wpList_store_mid rfl 23 _ _ rfl (w.heap.size + 1 + 1) 0 VR.toArray rfl rfl ht9 (by simpa using HI9.out) HOv.out ?_))
      have hk9 := Bk.sets VR 0 _ _ HXE.out.2.2.2
      rw [puts_whole VZ.toArray VR (by rw [HS9.out]; have := HLz.out; simp; omega)] at hk9
      refine bodyPost_ret (v := .tuple #[.agg VR.toArray, .bool true]) ?_ rfl ⟨rfl, below_sets _ (by omega) 0 _ HXE.out.1⟩
      exact results_cell2 rfl rfl rfl (run_loadVar_mid _ (w.heap.size + 1 + 1) 0 23 VR _ hk9.range Try.underlying23 rfl (by simpa using HI9.out))
    · have HXr : Hid (b8 (((((A).set 5 a0).set 6 a1).set 7 a2).set 9 a3) = VR) := Lib.hid (by rw [← HVR.out, HI.out, HP.out]; rfl)
      clear hok HI HP HVR
      go_upto_region 8 with (fail)
      clear c16
      have hy0 : Bk w5.drew g 23 (b8 A).toArray := by rw [HX8.out]; exact HY5.out
      refine wp_region_noPanic ?_
      refine wp_region_held_drew (S := fun w' => EX w w.heap.size (w.heap.size + 1) (w.heap.size + 1 + 1) VA VZ w' ∧ w'.cell? ⟨w.heap.size + 1, 0, none⟩ = some (.int .u8 a0) ∧ w'.cell? ⟨w.heap.size + 1, 1, none⟩ = some (.int .u8 a1) ∧ w'.cell? ⟨w.heap.size + 1, 2, none⟩ = some (.int .u8 a2) ∧ w'.cell? ⟨w.heap.size + 1, 3, none⟩ = some (.int .u8 a3)) (by kernel_rfl) (HX5.out.drew.cells HAv.out) (fun hHeld => ?_)
      refine wpAnyH_take (i := 0) (oi := { dst := some 31, op := Op.indexAddr 31 (Operand.tmp 3) (Operand.const (Value.int IntKind.i64 0)), type := 0, pos := "ref.go:42", after := #[], guard := none }) (v := ?_) rfl (by kernel_rfl) (by kernel_rfl) (by kernel_rfl) (fun _ _ _ h => h) (Or.inl ⟨by rfl, ?_⟩) (by assumption) ?_
      rotate_left
      · (intro ww hSw; (try dsimp only at hSw); go_simp; try with_reducible rfl)
      (try simp only [Act.put, List.setIfInBounds_toArray, List.set_cons_zero, List.set_cons_succ])
      refine wpAnyH_take (i := 1) (oi := { dst := some 32, op := Op.load 5 (Operand.tmp 31), type := 5, pos := "ref.go:42", after := #[{ on := 0, ground := Ground.data }], guard := none }) (v := ?_) rfl (by kernel_rfl) (by kernel_rfl) (by kernel_rfl) (fun _ _ _ h => h) (Or.inl ⟨by rfl, ?_⟩) (by assumption) ?_
      rotate_left
      · (intro ww hSw; (try dsimp only at hSw); go_simp; try with_reducible rfl)
      (try simp only [Act.put, List.setIfInBounds_toArray, List.set_cons_zero, List.set_cons_succ])
      refine wpAnyH_take (i := 2) (oi := { dst := some 33, op := Op.indexAddr 31 (Operand.tmp 3) (Operand.const (Value.int IntKind.i64 1)), type := 0, pos := "ref.go:42", after := #[{ on := 9, ground := Ground.gcOnly Departure.lateStores }], guard := none }) (v := ?_) rfl (by kernel_rfl) (by kernel_rfl) (by kernel_rfl) (fun _ _ _ h => h) (Or.inl ⟨by rfl, ?_⟩) (by assumption) ?_
      rotate_left
      · (intro ww hSw; (try dsimp only at hSw); go_simp; try with_reducible rfl)
      (try simp only [Act.put, List.setIfInBounds_toArray, List.set_cons_zero, List.set_cons_succ])
      refine wpAnyH_take (i := 3) (oi := { dst := some 34, op := Op.load 5 (Operand.tmp 33), type := 5, pos := "ref.go:42", after := #[{ on := 2, ground := Ground.data }, { on := 9, ground := Ground.gcOnly Departure.lateStores }], guard := none }) (v := ?_) rfl (by kernel_rfl) (by kernel_rfl) (by kernel_rfl) (fun _ _ _ h => h) (Or.inl ⟨by rfl, ?_⟩) (by assumption) ?_
      rotate_left
      · (intro ww hSw; (try dsimp only at hSw); go_simp; try with_reducible rfl)
      (try simp only [Act.put, List.setIfInBounds_toArray, List.set_cons_zero, List.set_cons_succ])
      refine wpAnyH_take (i := 4) (oi := { dst := some 35, op := Op.indexAddr 31 (Operand.tmp 3) (Operand.const (Value.int IntKind.i64 2)), type := 0, pos := "ref.go:42", after := #[{ on := 11, ground := Ground.gcOnly Departure.lateStores }], guard := none }) (v := ?_) rfl (by kernel_rfl) (by kernel_rfl) (by kernel_rfl) (fun _ _ _ h => h) (Or.inl ⟨by rfl, ?_⟩) (by assumption) ?_
      rotate_left
      · (intro ww hSw; (try dsimp only at hSw); go_simp; try with_reducible rfl)
      (try simp only [Act.put, List.setIfInBounds_toArray, List.set_cons_zero, List.set_cons_succ])
      refine wpAnyH_take (i := 5) (oi := { dst := some 36, op := Op.load 5 (Operand.tmp 35), type := 5, pos := "ref.go:42", after := #[{ on := 4, ground := Ground.data }, { on := 11, ground := Ground.gcOnly Departure.lateStores }], guard := none }) (v := ?_) rfl (by kernel_rfl) (by kernel_rfl) (by kernel_rfl) (fun _ _ _ h => h) (Or.inl ⟨by rfl, ?_⟩) (by assumption) ?_
      rotate_left
      · (intro ww hSw; (try dsimp only at hSw); go_simp; try with_reducible rfl)
      (try simp only [Act.put, List.setIfInBounds_toArray, List.set_cons_zero, List.set_cons_succ])
      refine wpAnyH_take (i := 6) (oi := { dst := some 37, op := Op.indexAddr 31 (Operand.tmp 3) (Operand.const (Value.int IntKind.i64 3)), type := 0, pos := "ref.go:42", after := #[{ on := 13, ground := Ground.gcOnly Departure.lateStores }], guard := none }) (v := ?_) rfl (by kernel_rfl) (by kernel_rfl) (by kernel_rfl) (fun _ _ _ h => h) (Or.inl ⟨by rfl, ?_⟩) (by assumption) ?_
      rotate_left
      · (intro ww hSw; (try dsimp only at hSw); go_simp; try with_reducible rfl)
      (try simp only [Act.put, List.setIfInBounds_toArray, List.set_cons_zero, List.set_cons_succ])
      refine wpAnyH_take (i := 7) (oi := { dst := some 38, op := Op.load 5 (Operand.tmp 37), type := 5, pos := "ref.go:42", after := #[{ on := 6, ground := Ground.data }, { on := 13, ground := Ground.gcOnly Departure.lateStores }], guard := none }) (v := ?_) rfl (by kernel_rfl) (by kernel_rfl) (by kernel_rfl) (fun _ _ _ h => h) (Or.inl ⟨by rfl, ?_⟩) (by assumption) ?_
      rotate_left
      · (intro ww hSw; (try dsimp only at hSw); go_simp; try with_reducible rfl)
      (try simp only [Act.put, List.setIfInBounds_toArray, List.set_cons_zero, List.set_cons_succ])
      refine wpAnyH_take (i := 8) (oi := { dst := some 39, op := Op.indexAddr 23 (Operand.tmp 6) (Operand.const (Value.int IntKind.i64 5)), type := 0, pos := "ref.go:42", after := #[{ on := 0, ground := Ground.phase }, { on := 1, ground := Ground.phase }, { on := 2, ground := Ground.textOnly Departure.lateStores }, { on := 3, ground := Ground.textOnly Departure.lateStores }, { on := 4, ground := Ground.textOnly Departure.lateStores }, { on := 5, ground := Ground.textOnly Departure.lateStores }, { on := 6, ground := Ground.textOnly Departure.lateStores }, { on := 7, ground := Ground.textOnly Departure.lateStores }], guard := none }) (v := ?_) rfl (by kernel_rfl) (by kernel_rfl) (by kernel_rfl) (fun _ _ _ h => h) (Or.inl ⟨by rfl, ?_⟩) (by assumption) ?_
      rotate_left
      · (intro ww hSw; (try dsimp only at hSw); go_simp; try with_reducible rfl)
      (try simp only [Act.put, List.setIfInBounds_toArray, List.set_cons_zero, List.set_cons_succ])
      have cc := hy0.at (i := 5) (by rw [b8_at _ 5 (by (try simp only [List.length_set]); have := HLen.out; omega)])
      have cz := hy0.z 5
      refine wpAnyH_ready (rs := [9]) (by kernel_rfl) (by simp) ?_
      refine AllReadyH.cons (o := { dst := none, op := Op.store 5 (Operand.tmp 39) (Operand.tmp 32), type := 0, pos := "ref.go:42", after := #[{ on := 8, ground := Ground.data }, { on := 1, ground := Ground.data }, { on := 0, ground := Ground.phase }, { on := 1, ground := Ground.phase }, { on := 2, ground := Ground.textOnly Departure.lateStores }, { on := 3, ground := Ground.textOnly Departure.lateStores }, { on := 4, ground := Ground.textOnly Departure.lateStores }, { on := 5, ground := Ground.textOnly Departure.lateStores }, { on := 6, ground := Ground.textOnly Departure.lateStores }, { on := 7, ground := Ground.textOnly Departure.lateStores }], guard := none }) rfl (fun K hK => ?_) AllReadyH.nil
      go_simp
      refine hK.out _ _ ((hHeld.1.set9 (g := g) (by have := HG.out; omega) (by have := HG.out; omega) (by have := HG.out; omega) 5 (.int .u8 a0)).cells HAv.out) (fun hHeld => ?_)
      clear hK K
      (try simp only [Act.put])
      have hy1 := bk_set9 hy0 5 a0
      refine wpAnyH_take (i := 10) (oi := { dst := some 40, op := Op.indexAddr 23 (Operand.tmp 6) (Operand.const (Value.int IntKind.i64 6)), type := 0, pos := "ref.go:42", after := #[{ on := 0, ground := Ground.phase }, { on := 1, ground := Ground.phase }, { on := 2, ground := Ground.phase }, { on := 3, ground := Ground.phase }, { on := 4, ground := Ground.textOnly Departure.lateStores }, { on := 5, ground := Ground.textOnly Departure.lateStores }, { on := 6, ground := Ground.textOnly Departure.lateStores }, { on := 7, ground := Ground.textOnly Departure.lateStores }, { on := 8, ground := Ground.phase }, { on := 9, ground := Ground.phase }], guard := none }) (v := ?_) rfl (by kernel_rfl) (by kernel_rfl) (by kernel_rfl) (fun _ _ _ h => h) (Or.inl ⟨by rfl, ?_⟩) (by assumption) ?_
      rotate_left
      · (intro ww hSw; (try dsimp only at hSw); go_simp; try with_reducible rfl)
      (try simp only [Act.put, List.setIfInBounds_toArray, List.set_cons_zero, List.set_cons_succ])
      have cc := hy1.at (i := 6) (by rw [b8_at _ 6 (by (try simp only [List.length_set]); have := HLen.out; omega)])
      have cz := hy1.z 6
      refine wpAnyH_ready (rs := [11]) (by kernel_rfl) (by simp) ?_
      refine AllReadyH.cons (o := { dst := none, op := Op.store 5 (Operand.tmp 40) (Operand.tmp 34), type := 0, pos := "ref.go:42", after := #[{ on := 10, ground := Ground.data }, { on := 3, ground := Ground.data }, { on := 9, ground := Ground.chain }, { on := 0, ground := Ground.phase }, { on := 1, ground := Ground.phase }, { on := 2, ground := Ground.phase }, { on := 3, ground := Ground.phase }, { on := 4, ground := Ground.textOnly Departure.lateStores }, { on := 5, ground := Ground.textOnly Departure.lateStores }, { on := 6, ground := Ground.textOnly Departure.lateStores }, { on := 7, ground := Ground.textOnly Departure.lateStores }, { on := 8, ground := Ground.phase }, { on := 9, ground := Ground.phase }], guard := none }) rfl (fun K hK => ?_) AllReadyH.nil
      go_simp
      refine hK.out _ _ ((hHeld.1.set9 (g := g) (by have := HG.out; omega) (by have := HG.out; omega) (by have := HG.out; omega) 6 (.int .u8 a1)).cells HAv.out) (fun hHeld => ?_)
      clear hK K
      (try simp only [Act.put])
      have hy2 := bk_set9 hy1 6 a1
      refine wpAnyH_take (i := 12) (oi := { dst := some 41, op := Op.indexAddr 23 (Operand.tmp 6) (Operand.const (Value.int IntKind.i64 7)), type := 0, pos := "ref.go:42", after := #[{ on := 0, ground := Ground.phase }, { on := 1, ground := Ground.phase }, { on := 2, ground := Ground.phase }, { on := 3, ground := Ground.phase }, { on := 4, ground := Ground.phase }, { on := 5, ground := Ground.phase }, { on := 6, ground := Ground.textOnly Departure.lateStores }, { on := 7, ground := Ground.textOnly Departure.lateStores }, { on := 8, ground := Ground.phase }, { on := 9, ground := Ground.phase }, { on := 10, ground := Ground.phase }, { on := 11, ground := Ground.phase }], guard := none }) (v := ?_) rfl (by kernel_rfl) (by kernel_rfl) (by kernel_rfl) (fun _ _ _ h => h) (Or.inl ⟨by rfl, ?_⟩) (by assumption) ?_
      rotate_left
      · (intro ww hSw; (try dsimp only at hSw); go_simp; try with_reducible rfl)
      (try simp only [Act.put, List.setIfInBounds_toArray, List.set_cons_zero, List.set_cons_succ])
      have cc := hy2.at (i := 7) (by rw [b8_at _ 7 (by (try simp only [List.length_set]); have := HLen.out; omega)])
      have cz := hy2.z 7
      refine wpAnyH_ready (rs := [13]) (by kernel_rfl) (by simp) ?_
      refine AllReadyH.cons (o := { dst := none, op := Op.store 5 (Operand.tmp 41) (Operand.tmp 36), type := 0, pos := "ref.go:42", after := #[{ on := 12, ground := Ground.data }, { on := 5, ground := Ground.data }, { on := 11, ground := Ground.chain }, { on := 0, ground := Ground.phase }, { on := 1, ground := Ground.phase }, { on := 2, ground := Ground.phase }, { on := 3, ground := Ground.phase }, { on := 4, ground := Ground.phase }, { on := 5, ground := Ground.phase }, { on := 6, ground := Ground.textOnly Departure.lateStores }, { on := 7, ground := Ground.textOnly Departure.lateStores }, { on := 8, ground := Ground.phase }, { on := 9, ground := Ground.phase }, { on := 10, ground := Ground.phase }, { on := 11, ground := Ground.phase }], guard := none }) rfl (fun K hK => ?_) AllReadyH.nil
      go_simp
      refine hK.out _ _ ((hHeld.1.set9 (g := g) (by have := HG.out; omega) (by have := HG.out; omega) (by have := HG.out; omega) 7 (.int .u8 a2)).cells HAv.out) (fun hHeld => ?_)
      clear hK K
      (try simp only [Act.put])
      have hy3 := bk_set9 hy2 7 a2
      refine wpAnyH_take (i := 14) (oi := { dst := some 42, op := Op.indexAddr 23 (Operand.tmp 6) (Operand.const (Value.int IntKind.i64 9)), type := 0, pos := "ref.go:42", after := #[{ on := 0, ground := Ground.phase }, { on := 1, ground := Ground.phase }, { on := 2, ground := Ground.phase }, { on := 3, ground := Ground.phase }, { on := 4, ground := Ground.phase }, { on := 5, ground := Ground.phase }, { on := 6, ground := Ground.phase }, { on := 7, ground := Ground.phase }, { on := 8, ground := Ground.phase }, { on := 9, ground := Ground.phase }, { on := 10, ground := Ground.phase }, { on := 11, ground := Ground.phase }, { on := 12, ground := Ground.phase }, { on := 13, ground := Ground.phase }], guard := none }) (v := ?_) rfl (by kernel_rfl) (by kernel_rfl) (by kernel_rfl) (fun _ _ _ h => h) (Or.inl ⟨by rfl, ?_⟩) (by assumption) ?_
      rotate_left
      · (intro ww hSw; (try dsimp only at hSw); go_simp; try with_reducible rfl)
      (try simp only [Act.put, List.setIfInBounds_toArray, List.set_cons_zero, List.set_cons_succ])
      have cc := hy3.at (i := 9) (by rw [b8_at _ 9 (by (try simp only [List.length_set]); have := HLen.out; omega)])
      have cz := hy3.z 9
      refine wpAnyH_ready (rs := [15]) (by kernel_rfl) (by simp) ?_
      refine AllReadyH.cons (o := { dst := none, op := Op.store 5 (Operand.tmp 42) (Operand.tmp 38), type := 0, pos := "ref.go:42", after := #[{ on := 14, ground := Ground.data }, { on := 7, ground := Ground.data }, { on := 13, ground := Ground.chain }, { on := 0, ground := Ground.phase }, { on := 1, ground := Ground.phase }, { on := 2, ground := Ground.phase }, { on := 3, ground := Ground.phase }, { on := 4, ground := Ground.phase }, { on := 5, ground := Ground.phase }, { on := 6, ground := Ground.phase }, { on := 7, ground := Ground.phase }, { on := 8, ground := Ground.phase }, { on := 9, ground := Ground.phase }, { on := 10, ground := Ground.phase }, { on := 11, ground := Ground.phase }, { on := 12, ground := Ground.phase }, { on := 13, ground := Ground.phase }], guard := none }) rfl (fun K hK => ?_) AllReadyH.nil
      go_simp
      refine hK.out _ _ ((hHeld.1.set9 (g := g) (by have := HG.out; omega) (by have := HG.out; omega) (by have := HG.out; omega) 9 (.int .u8 a3)).cells HAv.out) (fun hHeld => ?_)
      clear hK K
      (try simp only [Act.put])
      have hy4 := bk_set9 hy3 9 a3
      refine wpAnyH_done (by kernel_rfl) ?_ _
      refine NoPanic.normal ?_
      have HXE := Lib.hid (And.left hHeld)
      have HYE := Lib.hid hy4
      rw [HXr.out] at HYE
      have hs9 : VR.length = 16 := by rw [← HXr.out, b8_len]; simp [HLen.out]
      have HOv : Hid (VR.toArray.all (·.oneCell') = true) := Lib.hid (by rw [← HXr.out]; exact b8_one _)
      clear hHeld hy0 hy1 hy2 hy3 hy4 HXr HX5 HAv
      generalize ((((w5.setCell ⟨g, 5, none⟩ (.int .u8 a0)).setCell ⟨g, 6, none⟩ (.int .u8 a1)).setCell ⟨g, 7, none⟩ (.int .u8 a2)).setCell ⟨g, 9, none⟩ (.int .u8 a3)).drew = w9 at *
      have hr9 := HYE.out.range
      have ht9 : w9.there (w.heap.size + 1 + 1) 0 VR.toArray.size := HXE.out.2.2.2.there _ (by have := HLz.out; simp; omega)
      have HI9 : Hid ((Try.prog.info? 23).map (·.size) = some VR.length) := Lib.hid (by rw [hs9]; exact HZ6.out)
      have HS9 := Lib.hid hs9
      clear hs9
      go_wp2_with (first | (refine wpList_load_mid rfl 23 _ rfl g 0 rfl VR _ hr9 Try.underlying23 rfl HI9.out ?_) | (refine wpList_store_mid rfl 23 _ _ rfl (w.heap.size + 1 + 1) 0 VR.toArray rfl rfl ht9 (by simpa using HI9.out) HOv.out ?_))
      have hk9 := Bk.sets VR 0 _ _ HXE.out.2.2.2
      rw [puts_whole VZ.toArray VR (by rw [HS9.out]; have := HLz.out; simp; omega)] at hk9
      refine bodyPost_ret (v := .tuple #[.agg VR.toArray, .bool true]) ?_ rfl ⟨rfl, below_sets _ (by omega) 0 _ HXE.out.1⟩
      exact results_cell2 rfl rfl rfl (run_loadVar_mid _ (w.heap.size + 1 + 1) 0 23 VR _ hk9.range Try.underlying23 rfl (by simpa using HI9.out))
    · have HXr : Hid (b8 (((((A).set 6 a0).set 7 a1).set 9 a2).set 10 a3) = VR) := Lib.hid (by rw [← HVR.out, HI.out, HP.out]; rfl)
      clear hok HI HP HVR
      go_upto_region 10 with (fail)
      clear c16
      have hy0 : Bk w5.drew g 23 (b8 A).toArray := by rw [HX8.out]; exact HY5.out
      refine wp_region_noPanic ?_
      refine wp_region_held_drew (S := fun w' => EX w w.heap.size (w.heap.size + 1) (w.heap.size + 1 + 1) VA VZ w' ∧ w'.cell? ⟨w.heap.size + 1, 0, none⟩ = some (.int .u8 a0) ∧ w'.cell? ⟨w.heap.size + 1, 1, none⟩ = some (.int .u8 a1) ∧ w'.cell? ⟨w.heap.size + 1, 2, none⟩ = some (.int .u8 a2) ∧ w'.cell? ⟨w.heap.size + 1, 3, none⟩ = some (.int .u8 a3)) (by kernel_rfl) (HX5.out.drew.cells HAv.out) (fun hHeld => ?_)
      refine wpAnyH_take (i := 0) (oi := { dst := some 45, op := Op.indexAddr 31 (Operand.tmp 3) (Operand.const (Value.int IntKind.i64 0)), type := 0, pos := "ref.go:44", after := #[], guard := none }) (v := ?_) rfl (by kernel_rfl) (by kernel_rfl) (by kernel_rfl) (fun _ _ _ h => h) (Or.inl ⟨by rfl, ?_⟩) (by assumption) ?_
      rotate_left
      · (intro ww hSw; (try dsimp only at hSw); go_simp; try with_reducible rfl)
      (try simp only [Act.put, List.setIfInBounds_toArray, List.set_cons_zero, List.set_cons_succ])
      refine wpAnyH_take (i := 1) (oi := { dst := some 46, op := Op.load 5 (Operand.tmp 45), type := 5, pos := "ref.go:44", after := #[{ on := 0, ground := Ground.data }], guard := none }) (v := ?_) rfl (by kernel_rfl) (by kernel_rfl) (by kernel_rfl) (fun _ _ _ h => h) (Or.inl ⟨by rfl, ?_⟩) (by assumption) ?_
      rotate_left
      · (intro ww hSw; (try dsimp only at hSw); go_simp; try with_reducible rfl)
      (try simp only [Act.put, List.setIfInBounds_toArray, List.set_cons_zero, List.set_cons_succ])
      refine wpAnyH_take (i := 2) (oi := { dst := some 47, op := Op.indexAddr 31 (Operand.tmp 3) (Operand.const (Value.int IntKind.i64 1)), type := 0, pos := "ref.go:44", after := #[{ on := 9, ground := Ground.gcOnly Departure.lateStores }], guard := none }) (v := ?_) rfl (by kernel_rfl) (by kernel_rfl) (by kernel_rfl) (fun _ _ _ h => h) (Or.inl ⟨by rfl, ?_⟩) (by assumption) ?_
      rotate_left
      · (intro ww hSw; (try dsimp only at hSw); go_simp; try with_reducible rfl)
      (try simp only [Act.put, List.setIfInBounds_toArray, List.set_cons_zero, List.set_cons_succ])
      refine wpAnyH_take (i := 3) (oi := { dst := some 48, op := Op.load 5 (Operand.tmp 47), type := 5, pos := "ref.go:44", after := #[{ on := 2, ground := Ground.data }, { on := 9, ground := Ground.gcOnly Departure.lateStores }], guard := none }) (v := ?_) rfl (by kernel_rfl) (by kernel_rfl) (by kernel_rfl) (fun _ _ _ h => h) (Or.inl ⟨by rfl, ?_⟩) (by assumption) ?_
      rotate_left
      · (intro ww hSw; (try dsimp only at hSw); go_simp; try with_reducible rfl)
      (try simp only [Act.put, List.setIfInBounds_toArray, List.set_cons_zero, List.set_cons_succ])
      refine wpAnyH_take (i := 4) (oi := { dst := some 49, op := Op.indexAddr 31 (Operand.tmp 3) (Operand.const (Value.int IntKind.i64 2)), type := 0, pos := "ref.go:44", after := #[{ on := 11, ground := Ground.gcOnly Departure.lateStores }], guard := none }) (v := ?_) rfl (by kernel_rfl) (by kernel_rfl) (by kernel_rfl) (fun _ _ _ h => h) (Or.inl ⟨by rfl, ?_⟩) (by assumption) ?_
      rotate_left
      · (intro ww hSw; (try dsimp only at hSw); go_simp; try with_reducible rfl)
      (try simp only [Act.put, List.setIfInBounds_toArray, List.set_cons_zero, List.set_cons_succ])
      refine wpAnyH_take (i := 5) (oi := { dst := some 50, op := Op.load 5 (Operand.tmp 49), type := 5, pos := "ref.go:44", after := #[{ on := 4, ground := Ground.data }, { on := 11, ground := Ground.gcOnly Departure.lateStores }], guard := none }) (v := ?_) rfl (by kernel_rfl) (by kernel_rfl) (by kernel_rfl) (fun _ _ _ h => h) (Or.inl ⟨by rfl, ?_⟩) (by assumption) ?_
      rotate_left
      · (intro ww hSw; (try dsimp only at hSw); go_simp; try with_reducible rfl)
      (try simp only [Act.put, List.setIfInBounds_toArray, List.set_cons_zero, List.set_cons_succ])
      refine wpAnyH_take (i := 6) (oi := { dst := some 51, op := Op.indexAddr 31 (Operand.tmp 3) (Operand.const (Value.int IntKind.i64 3)), type := 0, pos := "ref.go:44", after := #[{ on := 13, ground := Ground.gcOnly Departure.lateStores }], guard := none }) (v := ?_) rfl (by kernel_rfl) (by kernel_rfl) (by kernel_rfl) (fun _ _ _ h => h) (Or.inl ⟨by rfl, ?_⟩) (by assumption) ?_
      rotate_left
      · (intro ww hSw; (try dsimp only at hSw); go_simp; try with_reducible rfl)
      (try simp only [Act.put, List.setIfInBounds_toArray, List.set_cons_zero, List.set_cons_succ])
      refine wpAnyH_take (i := 7) (oi := { dst := some 52, op := Op.load 5 (Operand.tmp 51), type := 5, pos := "ref.go:44", after := #[{ on := 6, ground := Ground.data }, { on := 13, ground := Ground.gcOnly Departure.lateStores }], guard := none }) (v := ?_) rfl (by kernel_rfl) (by kernel_rfl) (by kernel_rfl) (fun _ _ _ h => h) (Or.inl ⟨by rfl, ?_⟩) (by assumption) ?_
      rotate_left
      · (intro ww hSw; (try dsimp only at hSw); go_simp; try with_reducible rfl)
      (try simp only [Act.put, List.setIfInBounds_toArray, List.set_cons_zero, List.set_cons_succ])
      refine wpAnyH_take (i := 8) (oi := { dst := some 53, op := Op.indexAddr 23 (Operand.tmp 6) (Operand.const (Value.int IntKind.i64 6)), type := 0, pos := "ref.go:44", after := #[{ on := 0, ground := Ground.phase }, { on := 1, ground := Ground.phase }, { on := 2, ground := Ground.textOnly Departure.lateStores }, { on := 3, ground := Ground.textOnly Departure.lateStores }, { on := 4, ground := Ground.textOnly Departure.lateStores }, { on := 5, ground := Ground.textOnly Departure.lateStores }, { on := 6, ground := Ground.textOnly Departure.lateStores }, { on := 7, ground := Ground.textOnly Departure.lateStores }], guard := none }) (v := ?_) rfl (by kernel_rfl) (by kernel_rfl) (by kernel_rfl) (fun _ _ _ h => h) (Or.inl ⟨by rfl, ?_⟩) (by assumption) ?_
      rotate_left
      · (intro ww hSw; (try dsimp only at hSw); go_simp; try with_reducible rfl)
      (try simp only [Act.put, List.setIfInBounds_toArray, List.set_cons_zero, List.set_cons_succ])
      have cc := hy0.at (i := 6) (by rw [b8_at _ 6 (by (try simp only [List.length_set]); have := HLen.out; omega)])
      have cz := hy0.z 6
      refine wpAnyH_ready (rs := [9]) (by kernel_rfl) (by simp) ?_
      refine AllReadyH.cons (o := { dst := none, op := Op.store 5 (Operand.tmp 53) (Operand.tmp 46), type := 0, pos := "ref.go:44", after := #[{ on := 8, ground := Ground.data }, { on := 1, ground := Ground.data }, { on := 0, ground := Ground.phase }, { on := 1, ground := Ground.phase }, { on := 2, ground := Ground.textOnly Departure.lateStores }, { on := 3, ground := Ground.textOnly Departure.lateStores }, { on := 4, ground := Ground.textOnly Departure.lateStores }, { on := 5, ground := Ground.textOnly Departure.lateStores }, { on := 6, ground := Ground.textOnly Departure.lateStores }, { on := 7, ground := Ground.textOnly Departure.lateStores }], guard := none }) rfl (fun K hK => ?_) AllReadyH.nil
      go_simp
      refine hK.out _ _ ((hHeld.1.set9 (g := g) (by have := HG.out; omega) (by have := HG.out; omega) (by have := HG.out; omega) 6 (.int .u8 a0)).cells HAv.out) (fun hHeld => ?_)
      clear hK K
      (try simp only [Act.put])
      have hy1 := bk_set9 hy0 6 a0
      refine wpAnyH_take (i := 10) (oi := { dst := some 54, op := Op.indexAddr 23 (Operand.tmp 6) (Operand.const (Value.int IntKind.i64 7)), type := 0, pos := "ref.go:44", after := #[{ on := 0, ground := Ground.phase }, { on := 1, ground := Ground.phase }, { on := 2, ground := Ground.phase }, { on := 3, ground := Ground.phase }, { on := 4, ground := Ground.textOnly Departure.lateStores }, { on := 5, ground := Ground.textOnly Departure.lateStores }, { on := 6, ground := Ground.textOnly Departure.lateStores }, { on := 7, ground := Ground.textOnly Departure.lateStores }, { on := 8, ground := Ground.phase }, { on := 9, ground := Ground.phase }], guard := none }) (v := ?_) rfl (by kernel_rfl) (by kernel_rfl) (by kernel_rfl) (fun _ _ _ h => h) (Or.inl ⟨by rfl, ?_⟩) (by assumption) ?_
      rotate_left
      · (intro ww hSw; (try dsimp only at hSw); go_simp; try with_reducible rfl)
      (try simp only [Act.put, List.setIfInBounds_toArray, List.set_cons_zero, List.set_cons_succ])
      have cc := hy1.at (i := 7) (by rw [b8_at _ 7 (by (try simp only [List.length_set]); have := HLen.out; omega)])
      have cz := hy1.z 7
      refine wpAnyH_ready (rs := [11]) (by kernel_rfl) (by simp) ?_
      refine AllReadyH.cons (o := { dst := none, op := Op.store 5 (Operand.tmp 54) (Operand.tmp 48), type := 0, pos := "ref.go:44", after := #[{ on := 10, ground := Ground.data }, { on := 3, ground := Ground.data }, { on := 9, ground := Ground.chain }, { on := 0, ground := Ground.phase }, { on := 1, ground := Ground.phase }, { on := 2, ground := Ground.phase }, { on := 3, ground := Ground.phase }, { on := 4, ground := Ground.textOnly Departure.lateStores }, { on := 5, ground := Ground.textOnly Departure.lateStores }, { on := 6, ground := Ground.textOnly Departure.lateStores }, { on := 7, ground := Ground.textOnly Departure.lateStores }, { on := 8, ground := Ground.phase }, { on := 9, ground := Ground.phase }], guard := none }) rfl (fun K hK => ?_) AllReadyH.nil
      go_simp
      refine hK.out _ _ ((hHeld.1.set9 (g := g) (by have := HG.out; omega) (by have := HG.out; omega) (by have := HG.out; omega) 7 (.int .u8 a1)).cells HAv.out) (fun hHeld => ?_)
      clear hK K
      (try simp only [Act.put])
      have hy2 := bk_set9 hy1 7 a1
      refine wpAnyH_take (i := 12) (oi := { dst := some 55, op := Op.indexAddr 23 (Operand.tmp 6) (Operand.const (Value.int IntKind.i64 9)), type := 0, pos := "ref.go:44", after := #[{ on := 0, ground := Ground.phase }, { on := 1, ground := Ground.phase }, { on := 2, ground := Ground.phase }, { on := 3, ground := Ground.phase }, { on := 4, ground := Ground.phase }, { on := 5, ground := Ground.phase }, { on := 6, ground := Ground.textOnly Departure.lateStores }, { on := 7, ground := Ground.textOnly Departure.lateStores }, { on := 8, ground := Ground.phase }, { on := 9, ground := Ground.phase }, { on := 10, ground := Ground.phase }, { on := 11, ground := Ground.phase }], guard := none }) (v := ?_) rfl (by kernel_rfl) (by kernel_rfl) (by kernel_rfl) (fun _ _ _ h => h) (Or.inl ⟨by rfl, ?_⟩) (by assumption) ?_
      rotate_left
      · (intro ww hSw; (try dsimp only at hSw); go_simp; try with_reducible rfl)
      (try simp only [Act.put, List.setIfInBounds_toArray, List.set_cons_zero, List.set_cons_succ])
      have cc := hy2.at (i := 9) (by rw [b8_at _ 9 (by (try simp only [List.length_set]); have := HLen.out; omega)])
      have cz := hy2.z 9
      refine wpAnyH_ready (rs := [13]) (by kernel_rfl) (by simp) ?_
      refine AllReadyH.cons (o := { dst := none, op := Op.store 5 (Operand.tmp 55) (Operand.tmp 50), type := 0, pos := "ref.go:44", after := #[{ on := 12, ground := Ground.data }, { on := 5, ground := Ground.data }, { on := 11, ground := Ground.chain }, { on := 0, ground := Ground.phase }, { on := 1, ground := Ground.phase }, { on := 2, ground := Ground.phase }, { on := 3, ground := Ground.phase }, { on := 4, ground := Ground.phase }, { on := 5, ground := Ground.phase }, { on := 6, ground := Ground.textOnly Departure.lateStores }, { on := 7, ground := Ground.textOnly Departure.lateStores }, { on := 8, ground := Ground.phase }, { on := 9, ground := Ground.phase }, { on := 10, ground := Ground.phase }, { on := 11, ground := Ground.phase }], guard := none }) rfl (fun K hK => ?_) AllReadyH.nil
      go_simp
      refine hK.out _ _ ((hHeld.1.set9 (g := g) (by have := HG.out; omega) (by have := HG.out; omega) (by have := HG.out; omega) 9 (.int .u8 a2)).cells HAv.out) (fun hHeld => ?_)
      clear hK K
      (try simp only [Act.put])
      have hy3 := bk_set9 hy2 9 a2
      refine wpAnyH_take (i := 14) (oi := { dst := some 56, op := Op.indexAddr 23 (Operand.tmp 6) (Operand.const (Value.int IntKind.i64 10)), type := 0, pos := "ref.go:44", after := #[{ on := 0, ground := Ground.phase }, { on := 1, ground := Ground.phase }, { on := 2, ground := Ground.phase }, { on := 3, ground := Ground.phase }, { on := 4, ground := Ground.phase }, { on := 5, ground := Ground.phase }, { on := 6, ground := Ground.phase }, { on := 7, ground := Ground.phase }, { on := 8, ground := Ground.phase }, { on := 9, ground := Ground.phase }, { on := 10, ground := Ground.phase }, { on := 11, ground := Ground.phase }, { on := 12, ground := Ground.phase }, { on := 13, ground := Ground.phase }], guard := none }) (v := ?_) rfl (by kernel_rfl) (by kernel_rfl) (by kernel_rfl) (fun _ _ _ h => h) (Or.inl ⟨by rfl, ?_⟩) (by assumption) ?_
      rotate_left
      · (intro ww hSw; (try dsimp only at hSw); go_simp; try with_reducible rfl)
      (try simp only [Act.put, List.setIfInBounds_toArray, List.set_cons_zero, List.set_cons_succ])
      have cc := hy3.at (i := 10) (by rw [b8_at _ 10 (by (try simp only [List.length_set]); have := HLen.out; omega)])
      have cz := hy3.z 10
      refine wpAnyH_ready (rs := [15]) (by kernel_rfl) (by simp) ?_
      refine AllReadyH.cons (o := { dst := none, op := Op.store 5 (Operand.tmp 56) (Operand.tmp 52), type := 0, pos := "ref.go:44", after := #[{ on := 14, ground := Ground.data }, { on := 7, ground := Ground.data }, { on := 13, ground := Ground.chain }, { on := 0, ground := Ground.phase }, { on := 1, ground := Ground.phase }, { on := 2, ground := Ground.phase }, { on := 3, ground := Ground.phase }, { on := 4, ground := Ground.phase }, { on := 5, ground := Ground.phase }, { on := 6, ground := Ground.phase }, { on := 7, ground := Ground.phase }, { on := 8, ground := Ground.phase }, { on := 9, ground := Ground.phase }, { on := 10, ground := Ground.phase }, { on := 11, ground := Ground.phase }, { on := 12, ground := Ground.phase }, { on := 13, ground := Ground.phase }], guard := none }) rfl (fun K hK => ?_) AllReadyH.nil
      go_simp
      refine hK.out _ _ ((hHeld.1.set9 (g := g) (by have := HG.out; omega) (by have := HG.out; omega) (by have := HG.out; omega) 10 (.int .u8 a3)).cells HAv.out) (fun hHeld => ?_)
      clear hK K
      (try simp only [Act.put])
      have hy4 := bk_set9 hy3 10 a3
      refine wpAnyH_done (by kernel_rfl) ?_ _
      refine NoPanic.normal ?_
      have HXE := Lib.hid (And.left hHeld)
      have HYE := Lib.hid hy4
      rw [HXr.out] at HYE
      have hs9 : VR.length = 16 := by rw [← HXr.out, b8_len]; simp [HLen.out]
      have HOv : Hid (VR.toArray.all (·.oneCell') = true) := Lib.hid (by rw [← HXr.out]; exact b8_one _)
      clear hHeld hy0 hy1 hy2 hy3 hy4 HXr HX5 HAv
      generalize ((((w5.setCell ⟨g, 6, none⟩ (.int .u8 a0)).setCell ⟨g, 7, none⟩ (.int .u8 a1)).setCell ⟨g, 9, none⟩ (.int .u8 a2)).setCell ⟨g, 10, none⟩ (.int .u8 a3)).drew = w9 at *
      have hr9 := HYE.out.range
      have ht9 : w9.there (w.heap.size + 1 + 1) 0 VR.toArray.size := HXE.out.2.2.2.there _ (by have := HLz.out; simp; omega)
      have HI9 : Hid ((Try.prog.info? 23).map (·.size) = some VR.length) := Lib.hid (by rw [hs9]; exact HZ6.out)
      have HS9 := Lib.hid hs9
      clear hs9
      go_wp2_with (first | (refine wpList_load_mid rfl 23 _ rfl g 0 rfl VR _ hr9 Try.underlying23 rfl HI9.out ?_) | (refine wpList_store_mid rfl 23 _ _ rfl (w.heap.size + 1 + 1) 0 VR.toArray rfl rfl ht9 (by simpa using HI9.out) HOv.out ?_))
      have hk9 := Bk.sets VR 0 _ _ HXE.out.2.2.2
      rw [puts_whole VZ.toArray VR (by rw [HS9.out]; have := HLz.out; simp; omega)] at hk9
      refine bodyPost_ret (v := .tuple #[.agg VR.toArray, .bool true]) ?_ rfl ⟨rfl, below_sets _ (by omega) 0 _ HXE.out.1⟩
      exact results_cell2 rfl rfl rfl (run_loadVar_mid _ (w.heap.size + 1 + 1) 0 23 VR _ hk9.range Try.underlying23 rfl (by simpa using HI9.out))
    · have HXr : Hid (b8 (((((A).set 7 a0).set 9 a1).set 10 a2).set 11 a3) = VR) := Lib.hid (by rw [← HVR.out, HI.out, HP.out]; rfl)
      clear hok HI HP HVR
      go_upto_region 12 with (fail)
      clear c16
      have hy0 : Bk w5.drew g 23 (b8 A).toArray := by rw [HX8.out]; exact HY5.out
      refine wp_region_noPanic ?_
      refine wp_region_held_drew (S := fun w' => EX w w.heap.size (w.heap.size + 1) (w.heap.size + 1 + 1) VA VZ w' ∧ w'.cell? ⟨w.heap.size + 1, 0, none⟩ = some (.int .u8 a0) ∧ w'.cell? ⟨w.heap.size + 1, 1, none⟩ = some (.int .u8 a1) ∧ w'.cell? ⟨w.heap.size + 1, 2, none⟩ = some (.int .u8 a2) ∧ w'.cell? ⟨w.heap.size + 1, 3, none⟩ = some (.int .u8 a3)) (by kernel_rfl) (HX5.out.drew.cells HAv.out) (fun hHeld => ?_)
      refine wpAnyH_take (i := 0) (oi := { dst := some 59, op := Op.indexAddr 31 (Operand.tmp 3) (Operand.const (Value.int IntKind.i64 0)), type := 0, pos := "ref.go:46", after := #[], guard := none }) (v := ?_) rfl (by kernel_rfl) (by kernel_rfl) (by kernel_rfl) (fun _ _ _ h => h) (Or.inl ⟨by rfl, ?_⟩) (by assumption) ?_
      rotate_left
      · (intro ww hSw; (try dsimp only at hSw); go_simp; try with_reducible rfl)
      (try simp only [Act.put, List.setIfInBounds_toArray, List.set_cons_zero, List.set_cons_succ])
      refine wpAnyH_take (i := 1) (oi := { dst := some 60, op := Op.load 5 (Operand.tmp 59), type := 5, pos := "ref.go:46", after := #[{ on := 0, ground := Ground.data }], guard := none }) (v := ?_) rfl (by kernel_rfl) (by kernel_rfl) (by kernel_rfl) (fun _ _ _ h => h) (Or.inl ⟨by rfl, ?_⟩) (by assumption) ?_
      rotate_left
      · (intro ww hSw; (try dsimp only at hSw); go_simp; try with_reducible rfl)
      (try simp only [Act.put, List.setIfInBounds_toArray, List.set_cons_zero, List.set_cons_succ])
      refine wpAnyH_take (i := 2) (oi := { dst := some 61, op := Op.indexAddr 31 (Operand.tmp 3) (Operand.const (Value.int IntKind.i64 1)), type := 0, pos := "ref.go:46", after := #[{ on := 9, ground := Ground.gcOnly Departure.lateStores }], guard := none }) (v := ?_) rfl (by kernel_rfl) (by kernel_rfl) (by kernel_rfl) (fun _ _ _ h => h) (Or.inl ⟨by rfl, ?_⟩) (by assumption) ?_
      rotate_left
      · (intro ww hSw; (try dsimp only at hSw); go_simp; try with_reducible rfl)
      (try simp only [Act.put, List.setIfInBounds_toArray, List.set_cons_zero, List.set_cons_succ])
      refine wpAnyH_take (i := 3) (oi := { dst := some 62, op := Op.load 5 (Operand.tmp 61), type := 5, pos := "ref.go:46", after := #[{ on := 2, ground := Ground.data }, { on := 9, ground := Ground.gcOnly Departure.lateStores }], guard := none }) (v := ?_) rfl (by kernel_rfl) (by kernel_rfl) (by kernel_rfl) (fun _ _ _ h => h) (Or.inl ⟨by rfl, ?_⟩) (by assumption) ?_
      rotate_left
      · (intro ww hSw; (try dsimp only at hSw); go_simp; try with_reducible rfl)
      (try simp only [Act.put, List.setIfInBounds_toArray, List.set_cons_zero, List.set_cons_succ])
      refine wpAnyH_take (i := 4) (oi := { dst := some 63, op := Op.indexAddr 31 (Operand.tmp 3) (Operand.const (Value.int IntKind.i64 2)), type := 0, pos := "ref.go:46", after := #[{ on := 11, ground := Ground.gcOnly Departure.lateStores }], guard := none }) (v := ?_) rfl (by kernel_rfl) (by kernel_rfl) (by kernel_rfl) (fun _ _ _ h => h) (Or.inl ⟨by rfl, ?_⟩) (by assumption) ?_
      rotate_left
      · (intro ww hSw; (try dsimp only at hSw); go_simp; try with_reducible rfl)
      (try simp only [Act.put, List.setIfInBounds_toArray, List.set_cons_zero, List.set_cons_succ])
      refine wpAnyH_take (i := 5) (oi := { dst := some 64, op := Op.load 5 (Operand.tmp 63), type := 5, pos := "ref.go:46", after := #[{ on := 4, ground := Ground.data }, { on := 11, ground := Ground.gcOnly Departure.lateStores }], guard := none }) (v := ?_) rfl (by kernel_rfl) (by kernel_rfl) (by kernel_rfl) (fun _ _ _ h => h) (Or.inl ⟨by rfl, ?_⟩) (by assumption) ?_
      rotate_left
      · (intro ww hSw; (try dsimp only at hSw); go_simp; try with_reducible rfl)
      (try simp only [Act.put, List.setIfInBounds_toArray, List.set_cons_zero, List.set_cons_succ])
      refine wpAnyH_take (i := 6) (oi := { dst := some 65, op := Op.indexAddr 31 (Operand.tmp 3) (Operand.const (Value.int IntKind.i64 3)), type := 0, pos := "ref.go:46", after := #[{ on := 13, ground := Ground.gcOnly Departure.lateStores }], guard := none }) (v := ?_) rfl (by kernel_rfl) (by kernel_rfl) (by kernel_rfl) (fun _ _ _ h => h) (Or.inl ⟨by rfl, ?_⟩) (by assumption) ?_
      rotate_left
      · (intro ww hSw; (try dsimp only at hSw); go_simp; try with_reducible rfl)
      (try simp only [Act.put, List.setIfInBounds_toArray, List.set_cons_zero, List.set_cons_succ])
      refine wpAnyH_take (i := 7) (oi := { dst := some 66, op := Op.load 5 (Operand.tmp 65), type := 5, pos := "ref.go:46", after := #[{ on := 6, ground := Ground.data }, { on := 13, ground := Ground.gcOnly Departure.lateStores }], guard := none }) (v := ?_) rfl (by kernel_rfl) (by kernel_rfl) (by kernel_rfl) (fun _ _ _ h => h) (Or.inl ⟨by rfl, ?_⟩) (by assumption) ?_
      rotate_left
      · (intro ww hSw; (try dsimp only at hSw); go_simp; try with_reducible rfl)
      (try simp only [Act.put, List.setIfInBounds_toArray, List.set_cons_zero, List.set_cons_succ])
      refine wpAnyH_take (i := 8) (oi := { dst := some 67, op := Op.indexAddr 23 (Operand.tmp 6) (Operand.const (Value.int IntKind.i64 7)), type := 0, pos := "ref.go:46", after := #[{ on := 0, ground := Ground.phase }, { on := 1, ground := Ground.phase }, { on := 2, ground := Ground.textOnly Departure.lateStores }, { on := 3, ground := Ground.textOnly Departure.lateStores }, { on := 4, ground := Ground.textOnly Departure.lateStores }, { on := 5, ground := Ground.textOnly Departure.lateStores }, { on := 6, ground := Ground.textOnly Departure.lateStores }, { on := 7, ground := Ground.textOnly Departure.lateStores }], guard := none }) (v := ?_) rfl (by kernel_rfl) (by kernel_rfl) (by kernel_rfl) (fun _ _ _ h => h) (Or.inl ⟨by rfl, ?_⟩) (by assumption) ?_
      rotate_left
      · (intro ww hSw; (try dsimp only at hSw); go_simp; try with_reducible rfl)
      (try simp only [Act.put, List.setIfInBounds_toArray, List.set_cons_zero, List.set_cons_succ])
      have cc := hy0.at (i := 7) (by rw [b8_at _ 7 (by (try simp only [List.length_set]); have := HLen.out; omega)])
      have cz := hy0.z 7
      refine wpAnyH_ready (rs := [9]) (by kernel_rfl) (by simp) ?_
      refine AllReadyH.cons (o := { dst := none, op := Op.store 5 (Operand.tmp 67) (Operand.tmp 60), type := 0, pos := "ref.go:46", after := #[{ on := 8, ground := Ground.data }, { on := 1, ground := Ground.data }, { on := 0, ground := Ground.phase }, { on := 1, ground := Ground.phase }, { on := 2, ground := Ground.textOnly Departure.lateStores }, { on := 3, ground := Ground.textOnly Departure.lateStores }, { on := 4, ground := Ground.textOnly Departure.lateStores }, { on := 5, ground := Ground.textOnly Departure.lateStores }, { on := 6, ground := Ground.textOnly Departure.lateStores }, { on := 7, ground := Ground.textOnly Departure.lateStores }], guard := none }) rfl (fun K hK => ?_) AllReadyH.nil
      go_simp
      refine hK.out _ _ ((hHeld.1.set9 (g := g) (by have := HG.out; omega) (by have := HG.out; omega) (by have := HG.out; omega) 7 (.int .u8 a0)).cells HAv.out) (fun hHeld => ?_)
      clear hK K
      (try simp only [Act.put])
      have hy1 := bk_set9 hy0 7 a0
      refine wpAnyH_take (i := 10) (oi := { dst := some 68, op := Op.indexAddr 23 (Operand.tmp 6) (Operand.const (Value.int IntKind.i64 9)), type := 0, pos := "ref.go:46", after := #[{ on := 0, ground := Ground.phase }, { on := 1, ground := Ground.phase }, { on := 2, ground := Ground.phase }, { on := 3, ground := Ground.phase }, { on := 4, ground := Ground.textOnly Departure.lateStores }, { on := 5, ground := Ground.textOnly Departure.lateStores }, { on := 6, ground := Ground.textOnly Departure.lateStores }, { on := 7, ground := Ground.textOnly Departure.lateStores }, { on := 8, ground := Ground.phase }, { on := 9, ground := Ground.phase }], guard := none }) (v := ?_) rfl (by kernel_rfl) (by kernel_rfl) (by kernel_rfl) (fun _ _ _ h => h) (Or.inl ⟨by rfl, ?_⟩) (by assumption) ?_
      rotate_left
      · (intro ww hSw; (try dsimp only at hSw); go_simp; try with_reducible rfl)
      (try simp only [Act.put, List.setIfInBounds_toArray, List.set_cons_zero, List.set_cons_succ])
      have cc := hy1.at (i := 9) (by rw [b8_at _ 9 (by (try simp only [List.length_set]); have := HLen.out; omega)])
      have cz := hy1.z 9
      refine wpAnyH_ready (rs := [11]) (by kernel_rfl) (by simp) ?_
      refine AllReadyH.cons (o := { dst := none, op := Op.store 5 (Operand.tmp 68) (Operand.tmp 62), type := 0, pos := "ref.go:46", after := #[{ on := 10, ground := Ground.data }, { on := 3, ground := Ground.data }, { on := 9, ground := Ground.chain }, { on := 0, ground := Ground.phase }, { on := 1, ground := Ground.phase }, { on := 2, ground := Ground.phase }, { on := 3, ground := Ground.phase }, { on := 4, ground := Ground.textOnly Departure.lateStores }, { on := 5, ground := Ground.textOnly Departure.lateStores }, { on := 6, ground := Ground.textOnly Departure.lateStores }, { on := 7, ground := Ground.textOnly Departure.lateStores }, { on := 8, ground := Ground.phase }, { on := 9, ground := Ground.phase }], guard := none }) rfl (fun K hK => ?_) AllReadyH.nil
      go_simp
      refine hK.out _ _ ((hHeld.1.set9 (g := g) (by have := HG.out; omega) (by have := HG.out; omega) (by have := HG.out; omega) 9 (.int .u8 a1)).cells HAv.out) (fun hHeld => ?_)
      clear hK K
      (try simp only [Act.put])
      have hy2 := bk_set9 hy1 9 a1
      refine wpAnyH_take (i := 12) (oi := { dst := some 69, op := Op.indexAddr 23 (Operand.tmp 6) (Operand.const (Value.int IntKind.i64 10)), type := 0, pos := "ref.go:46", after := #[{ on := 0, ground := Ground.phase }, { on := 1, ground := Ground.phase }, { on := 2, ground := Ground.phase }, { on := 3, ground := Ground.phase }, { on := 4, ground := Ground.phase }, { on := 5, ground := Ground.phase }, { on := 6, ground := Ground.textOnly Departure.lateStores }, { on := 7, ground := Ground.textOnly Departure.lateStores }, { on := 8, ground := Ground.phase }, { on := 9, ground := Ground.phase }, { on := 10, ground := Ground.phase }, { on := 11, ground := Ground.phase }], guard := none }) (v := ?_) rfl (by kernel_rfl) (by kernel_rfl) (by kernel_rfl) (fun _ _ _ h => h) (Or.inl ⟨by rfl, ?_⟩) (by assumption) ?_
      rotate_left
      · (intro ww hSw; (try dsimp only at hSw); go_simp; try with_reducible rfl)
      (try simp only [Act.put, List.setIfInBounds_toArray, List.set_cons_zero, List.set_cons_succ])
      have cc := hy2.at (i := 10) (by rw [b8_at _ 10 (by (try simp only [List.length_set]); have := HLen.out; omega)])
      have cz := hy2.z 10
      refine wpAnyH_ready (rs := [13]) (by kernel_rfl) (by simp) ?_
      refine AllReadyH.cons (o := { dst := none, op := Op.store 5 (Operand.tmp 69) (Operand.tmp 64), type := 0, pos := "ref.go:46", after := #[{ on := 12, ground := Ground.data }, { on := 5, ground := Ground.data }, { on := 11, ground := Ground.chain }, { on := 0, ground := Ground.phase }, { on := 1, ground := Ground.phase }, { on := 2, ground := Ground.phase }, { on := 3, ground := Ground.phase }, { on := 4, ground := Ground.phase }, { on := 5, ground := Ground.phase }, { on := 6, ground := Ground.textOnly Departure.lateStores }, { on := 7, ground := Ground.textOnly Departure.lateStores }, { on := 8, ground := Ground.phase }, { on := 9, ground := Ground.phase }, { on := 10, ground := Ground.phase }, { on := 11, ground := Ground.phase }], guard := none }) rfl (fun K hK => ?_) AllReadyH.nil
      go_simp
      refine hK.out _ _ ((hHeld.1.set9 (g := g) (by have := HG.out; omega) (by have := HG.out; omega) (by have := HG.out; omega) 10 (.int .u8 a2)).cells HAv.out) (fun hHeld => ?_)
      clear hK K
      (try simp only [Act.put])
      have hy3 := bk_set9 hy2 10 a2
      refine wpAnyH_take (i := 14) (oi := { dst := some 70, op := Op.indexAddr 23 (Operand.tmp 6) (Operand.const (Value.int IntKind.i64 11)), type := 0, pos := "ref.go:46", after := #[{ on := 0, ground := Ground.phase }, { on := 1, ground := Ground.phase }, { on := 2, ground := Ground.phase }, { on := 3, ground := Ground.phase }, { on := 4, ground := Ground.phase }, { on := 5, ground := Ground.phase }, { on := 6, ground := Ground.phase }, { on := 7, ground := Ground.phase }, { on := 8, ground := Ground.phase }, { on := 9, ground := Ground.phase }, { on := 10, ground := Ground.phase }, { on := 11, ground := Ground.phase }, { on := 12, ground := Ground.phase }, { on := 13, ground := Ground.phase }], guard := none }) (v := ?_) rfl (by kernel_rfl) (by kernel_rfl) (by kernel_rfl) (fun _ _ _ h => h) (Or.inl ⟨by rfl, ?_⟩) (by assumption) ?_
      rotate_left
      · (intro ww hSw; (try dsimp only at hSw); go_simp; try with_reducible rfl)
      (try simp only [Act.put, List.setIfInBounds_toArray, List.set_cons_zero, List.set_cons_succ])
      have cc := hy3.at (i := 11) (by rw [b8_at _ 11 (by (try simp only [List.length_set]); have := HLen.out; omega)])
      have cz := hy3.z 11
      refine wpAnyH_ready (rs := [15]) (by kernel_rfl) (by simp) ?_
      refine AllReadyH.cons (o := { dst := none, op := Op.store 5 (Operand.tmp 70) (Operand.tmp 66), type := 0, pos := "ref.go:46", after := #[{ on := 14, ground := Ground.data }, { on := 7, ground := Ground.data }, { on := 13, ground := Ground.chain }, { on := 0, ground := Ground.phase }, { on := 1, ground := Ground.phase }, { on := 2, ground := Ground.phase }, { on := 3, ground := Ground.phase }, { on := 4, ground := Ground.phase }, { on := 5, ground := Ground.phase }, { on := 6, ground := Ground.phase }, { on := 7, ground := Ground.phase }, { on := 8, ground := Ground.phase }, { on := 9, ground := Ground.phase }, { on := 10, ground := Ground.phase }, { on := 11, ground := Ground.phase }, { on := 12, ground := Ground.phase }, { on := 13, ground := Ground.phase }], guard := none }) rfl (fun K hK => ?_) AllReadyH.nil
      go_simp
      refine hK.out _ _ ((hHeld.1.set9 (g := g) (by have := HG.out; omega) (by have := HG.out; omega) (by have := HG.out; omega) 11 (.int .u8 a3)).cells HAv.out) (fun hHeld => ?_)
      clear hK K
      (try simp only [Act.put])
      have hy4 := bk_set9 hy3 11 a3
      refine wpAnyH_done (by kernel_rfl) ?_ _
      refine NoPanic.normal ?_
      have HXE := Lib.hid (And.left hHeld)
      have HYE := Lib.hid hy4
      rw [HXr.out] at HYE
      have hs9 : VR.length = 16 := by rw [← HXr.out, b8_len]; simp [HLen.out]
      have HOv : Hid (VR.toArray.all (·.oneCell') = true) := Lib.hid (by rw [← HXr.out]; exact b8_one _)
      clear hHeld hy0 hy1 hy2 hy3 hy4 HXr HX5 HAv
      generalize ((((w5.setCell ⟨g, 7, none⟩ (.int .u8 a0)).setCell ⟨g, 9, none⟩ (.int .u8 a1)).setCell ⟨g, 10, none⟩ (.int .u8 a2)).setCell ⟨g, 11, none⟩ (.int .u8 a3)).drew = w9 at *
      have hr9 := HYE.out.range
      have ht9 : w9.there (w.heap.size + 1 + 1) 0 VR.toArray.size := HXE.out.2.2.2.there _ (by have := HLz.out; simp; omega)
      have HI9 : Hid ((Try.prog.info? 23).map (·.size) = some VR.length) := Lib.hid (by rw [hs9]; exact HZ6.out)
      have HS9 := Lib.hid hs9
      clear hs9
      go_wp2_with (first | (refine wpList_load_mid rfl 23 _ rfl g 0 rfl VR _ hr9 Try.underlying23 rfl HI9.out ?_) | (refine wpList_store_mid rfl 23 _ _ rfl (w.heap.size + 1 + 1) 0 VR.toArray rfl rfl ht9 (by simpa using HI9.out) HOv.out ?_))
      have hk9 := Bk.sets VR 0 _ _ HXE.out.2.2.2
      rw [puts_whole VZ.toArray VR (by rw [HS9.out]; have := HLz.out; simp; omega)] at hk9
      refine bodyPost_ret (v := .tuple #[.agg VR.toArray, .bool true]) ?_ rfl ⟨rfl, below_sets _ (by omega) 0 _ HXE.out.1⟩
      exact results_cell2 rfl rfl rfl (run_loadVar_mid _ (w.heap.size + 1 + 1) 0 23 VR _ hk9.range Try.underlying23 rfl (by simpa using HI9.out))
    · have HXr : Hid (b8 (((((A).set 9 a0).set 10 a1).set 11 a2).set 12 a3) = VR) := Lib.hid (by rw [← HVR.out, HI.out, HP.out]; rfl)
      clear hok HI HP HVR
      go_upto_region 14 with (fail)
      clear c16
      have hy0 : Bk w5.drew g 23 (b8 A).toArray := by rw [HX8.out]; exact HY5.out
      refine wp_region_noPanic ?_
      refine wp_region_held_drew (S := fun w' => EX w w.heap.size (w.heap.size + 1) (w.heap.size + 1 + 1) VA VZ w' ∧ w'.cell? ⟨w.heap.size + 1, 0, none⟩ = some (.int .u8 a0) ∧ w'.cell? ⟨w.heap.size + 1, 1, none⟩ = some (.int .u8 a1) ∧ w'.cell? ⟨w.heap.size + 1, 2, none⟩ = some (.int .u8 a2) ∧ w'.cell? ⟨w.heap.size + 1, 3, none⟩ = some (.int .u8 a3)) (by kernel_rfl) (HX5.out.drew.cells HAv.out) (fun hHeld => ?_)
      refine wpAnyH_take (i := 0) (oi := { dst := some 73, op := Op.indexAddr 31 (Operand.tmp 3) (Operand.const (Value.int IntKind.i64 0)), type := 0, pos := "ref.go:48", after := #[], guard := none }) (v := ?_) rfl (by kernel_rfl) (by kernel_rfl) (by kernel_rfl) (fun _ _ _ h => h) (Or.inl ⟨by rfl, ?_⟩) (by assumption) ?_
      rotate_left
      · (intro ww hSw; (try dsimp only at hSw); go_simp; try with_reducible rfl)
      (try simp only [Act.put, List.setIfInBounds_toArray, List.set_cons_zero, List.set_cons_succ])
      refine wpAnyH_take (i := 1) (oi := { dst := some 74, op := Op.load 5 (Operand.tmp 73), type := 5, pos := "ref.go:48", after := #[{ on := 0, ground := Ground.data }], guard := none }) (v := ?_) rfl (by kernel_rfl) (by kernel_rfl) (by kernel_rfl) (fun _ _ _ h => h) (Or.inl ⟨by rfl, ?_⟩) (by assumption) ?_
      rotate_left
      · (intro ww hSw; (try dsimp only at hSw); go_simp; try with_reducible rfl)
      (try simp only [Act.put, List.setIfInBounds_toArray, List.set_cons_zero, List.set_cons_succ])
      refine wpAnyH_take (i := 2) (oi := { dst := some 75, op := Op.indexAddr 31 (Operand.tmp 3) (Operand.const (Value.int IntKind.i64 1)), type := 0, pos := "ref.go:48", after := #[{ on := 9, ground := Ground.gcOnly Departure.lateStores }], guard := none }) (v := ?_) rfl (by kernel_rfl) (by kernel_rfl) (by kernel_rfl) (fun _ _ _ h => h) (Or.inl ⟨by rfl, ?_⟩) (by assumption) ?_
      rotate_left
      · (intro ww hSw; (try dsimp only at hSw); go_simp; try with_reducible rfl)
      (try simp only [Act.put, List.setIfInBounds_toArray, List.set_cons_zero, List.set_cons_succ])
      refine wpAnyH_take (i := 3) (oi := { dst := some 76, op := Op.load 5 (Operand.tmp 75), type := 5, pos := "ref.go:48", after := #[{ on := 2, ground := Ground.data }, { on := 9, ground := Ground.gcOnly Departure.lateStores }], guard := none }) (v := ?_) rfl (by kernel_rfl) (by kernel_rfl) (by kernel_rfl) (fun _ _ _ h => h) (Or.inl ⟨by rfl, ?_⟩) (by assumption) ?_
      rotate_left
      · (intro ww hSw; (try dsimp only at hSw); go_simp; try with_reducible rfl)
      (try simp only [Act.put, List.setIfInBounds_toArray, List.set_cons_zero, List.set_cons_succ])
      refine wpAnyH_take (i := 4) (oi := { dst := some 77, op := Op.indexAddr 31 (Operand.tmp 3) (Operand.const (Value.int IntKind.i64 2)), type := 0, pos := "ref.go:48", after := #[{ on := 11, ground := Ground.gcOnly Departure.lateStores }], guard := none }) (v := ?_) rfl (by kernel_rfl) (by kernel_rfl) (by kernel_rfl) (fun _ _ _ h => h) (Or.inl ⟨by rfl, ?_⟩) (by assumption) ?_
      rotate_left
      · (intro ww hSw; (try dsimp only at hSw); go_simp; try with_reducible rfl)
      (try simp only [Act.put, List.setIfInBounds_toArray, List.set_cons_zero, List.set_cons_succ])
      refine wpAnyH_take (i := 5) (oi := { dst := some 78, op := Op.load 5 (Operand.tmp 77), type := 5, pos := "ref.go:48", after := #[{ on := 4, ground := Ground.data }, { on := 11, ground := Ground.gcOnly Departure.lateStores }], guard := none }) (v := ?_) rfl (by kernel_rfl) (by kernel_rfl) (by kernel_rfl) (fun _ _ _ h => h) (Or.inl ⟨by rfl, ?_⟩) (by assumption) ?_
      rotate_left
      · (intro ww hSw; (try dsimp only at hSw); go_simp; try with_reducible rfl)
      (try simp only [Act.put, List.setIfInBounds_toArray, List.set_cons_zero, List.set_cons_succ])
      refine wpAnyH_take (i := 6) (oi := { dst := some 79, op := Op.indexAddr 31 (Operand.tmp 3) (Operand.const (Value.int IntKind.i64 3)), type := 0, pos := "ref.go:48", after := #[{ on := 13, ground := Ground.gcOnly Departure.lateStores }], guard := none }) (v := ?_) rfl (by kernel_rfl) (by kernel_rfl) (by kernel_rfl) (fun _ _ _ h => h) (Or.inl ⟨by rfl, ?_⟩) (by assumption) ?_
      rotate_left
      · (intro ww hSw; (try dsimp only at hSw); go_simp; try with_reducible rfl)
      (try simp only [Act.put, List.setIfInBounds_toArray, List.set_cons_zero, List.set_cons_succ])
      refine wpAnyH_take (i := 7) (oi := { dst := some 80, op := Op.load 5 (Operand.tmp 79), type := 5, pos := "ref.go:48", after := #[{ on := 6, ground := Ground.data }, { on := 13, ground := Ground.gcOnly Departure.lateStores }], guard := none }) (v := ?_) rfl (by kernel_rfl) (by kernel_rfl) (by kernel_rfl) (fun _ _ _ h => h) (Or.inl ⟨by rfl, ?_⟩) (by assumption) ?_
      rotate_left
      · (intro ww hSw; (try dsimp only at hSw); go_simp; try with_reducible rfl)
      (try simp only [Act.put, List.setIfInBounds_toArray, List.set_cons_zero, List.set_cons_succ])
      refine wpAnyH_take (i := 8) (oi := { dst := some 81, op := Op.indexAddr 23 (Operand.tmp 6) (Operand.const (Value.int IntKind.i64 9)), type := 0, pos := "ref.go:48", after := #[{ on := 0, ground := Ground.phase }, { on := 1, ground := Ground.phase }, { on := 2, ground := Ground.textOnly Departure.lateStores }, { on := 3, ground := Ground.textOnly Departure.lateStores }, { on := 4, ground := Ground.textOnly Departure.lateStores }, { on := 5, ground := Ground.textOnly Departure.lateStores }, { on := 6, ground := Ground.textOnly Departure.lateStores }, { on := 7, ground := Ground.textOnly Departure.lateStores }], guard := none }) (v := ?_) rfl (by kernel_rfl) (by kernel_rfl) (by kernel_rfl) (fun _ _ _ h => h) (Or.inl ⟨by rfl, ?_⟩) (by assumption) ?_
      rotate_left
      · (intro ww hSw; (try dsimp only at hSw); go_simp; try with_reducible rfl)
      (try simp only [Act.put, List.setIfInBounds_toArray, List.set_cons_zero, List.set_cons_succ])
      have cc := hy0.at (i := 9) (by rw [b8_at _ 9 (by (try simp only [List.length_set]); have := HLen.out; omega)])
      have cz := hy0.z 9
      refine wpAnyH_ready (rs := [9]) (by kernel_rfl) (by simp) ?_
      refine AllReadyH.cons (o := { dst := none, op := Op.store 5 (Operand.tmp 81) (Operand.tmp 74), type := 0, pos := "ref.go:48", after := #[{ on := 8, ground := Ground.data }, { on := 1, ground := Ground.data }, { on := 0, ground := Ground.phase }, { on := 1, ground := Ground.phase }, { on := 2, ground := Ground.textOnly Departure.lateStores }, { on := 3, ground := Ground.textOnly Departure.lateStores }, { on := 4, ground := Ground.textOnly Departure.lateStores }, { on := 5, ground := Ground.textOnly Departure.lateStores }, { on := 6, ground := Ground.textOnly Departure.lateStores }, { on := 7, ground := Ground.textOnly Departure.lateStores }], guard := none }) rfl (fun K hK => ?_) AllReadyH.nil
      go_simp
      refine hK.out _ _ ((hHeld.1.set9 (g := g) (by have := HG.out; omega) (by have := HG.out; omega) (by have := HG.out; omega) 9 (.int .u8 a0)).cells HAv.out) (fun hHeld => ?_)
      clear hK K
      (try simp only [Act.put])
      have hy1 := bk_set9 hy0 9 a0
      refine wpAnyH_take (i := 10) (oi := { dst := some 82, op := Op.indexAddr 23 (Operand.tmp 6) (Operand.const (Value.int IntKind.i64 10)), type := 0, pos := "ref.go:48", after := #[{ on := 0, ground := Ground.phase }, { on := 1, ground := Ground.phase }, { on := 2, ground := Ground.phase }, { on := 3, ground := Ground.phase }, { on := 4, ground := Ground.textOnly Departure.lateStores }, { on := 5, ground := Ground.textOnly Departure.lateStores }, { on := 6, ground := Ground.textOnly Departure.lateStores }, { on := 7, ground := Ground.textOnly Departure.lateStores }, { on := 8, ground := Ground.phase }, { on := 9, ground := Ground.phase }], guard := none }) (v := ?_) rfl (by kernel_rfl) (by kernel_rfl) (by kernel_rfl) (fun _ _ _ h => h) (Or.inl ⟨by rfl, ?_⟩) (by assumption) ?_
      rotate_left
      · (intro ww hSw; (try dsimp only at hSw); go_simp; try with_reducible rfl)
      (try simp only [Act.put, List.setIfInBounds_toArray, List.set_cons_zero, List.set_cons_succ])
      have cc := hy1.at (i := 10) (by rw [b8_at _ 10 (by (try simp only [List.length_set]); have := HLen.out; omega)])
      have cz := hy1.z 10
      refine wpAnyH_ready (rs := [11]) (by kernel_rfl) (by simp) ?_
      refine AllReadyH.cons (o := { dst := none, op := Op.store 5 (Operand.tmp 82) (Operand.tmp 76), type := 0, pos := "ref.go:48", after := #[{ on := 10, ground := Ground.data }, { on := 3, ground := Ground.data }, { on := 9, ground := Ground.chain }, { on := 0, ground := Ground.phase }, { on := 1, ground := Ground.phase }, { on := 2, ground := Ground.phase }, { on := 3, ground := Ground.phase }, { on := 4, ground := Ground.textOnly Departure.lateStores }, { on := 5, ground := Ground.textOnly Departure.lateStores }, { on := 6, ground := Ground.textOnly Departure.lateStores }, { on := 7, ground := Ground.textOnly Departure.lateStores }, { on := 8, ground := Ground.phase }, { on := 9, ground := Ground.phase }], guard := none }) rfl (fun K hK => ?_) AllReadyH.nil
      go_simp
      refine hK.out _ _ ((hHeld.1.set9 (g := g) (by have := HG.out; omega) (by have := HG.out; omega) (by have := HG.out; omega) 10 (.int .u8 a1)).cells HAv.out) (fun hHeld => ?_)
      clear hK K
      (try simp only [Act.put])
      have hy2 := bk_set9 hy1 10 a1
      refine wpAnyH_take (i := 12) (oi := { dst := some 83, op := Op.indexAddr 23 (Operand.tmp 6) (Operand.const (Value.int IntKind.i64 11)), type := 0, pos := "ref.go:48", after := #[{ on := 0, ground := Ground.phase }, { on := 1, ground := Ground.phase }, { on := 2, ground := Ground.phase }, { on := 3, ground := Ground.phase }, { on := 4, ground := Ground.phase }, { on := 5, ground := Ground.phase }, { on := 6, ground := Ground.textOnly Departure.lateStores }, { on := 7, ground := Ground.textOnly Departure.lateStores }, { on := 8, ground := Ground.phase }, { on := 9, ground := Ground.phase }, { on := 10, ground := Ground.phase }, { on := 11, ground := Ground.phase }], guard := none }) (v := ?_) rfl (by kernel_rfl) (by kernel_rfl) (by kernel_rfl) (fun _ _ _ h => h) (Or.inl ⟨by rfl, ?_⟩) (by assumption) ?_
      rotate_left
      · (intro ww hSw; (try dsimp only at hSw); go_simp; try with_reducible rfl)
      (try simp only [Act.put, List.setIfInBounds_toArray, List.set_cons_zero, List.set_cons_succ])
      have cc := hy2.at (i := 11) (by rw [b8_at _ 11 (by (try simp only [List.length_set]); have := HLen.out; omega)])
      have cz := hy2.z 11
      refine wpAnyH_ready (rs := [13]) (by kernel_rfl) (by simp) ?_
      refine AllReadyH.cons (o := { dst := none, op := Op.store 5 (Operand.tmp 83) (Operand.tmp 78), type := 0, pos := "ref.go:48", after := #[{ on := 12, ground := Ground.data }, { on := 5, ground := Ground.data }, { on := 11, ground := Ground.chain }, { on := 0, ground := Ground.phase }, { on := 1, ground := Ground.phase }, { on := 2, ground := Ground.phase }, { on := 3, ground := Ground.phase }, { on := 4, ground := Ground.phase }, { on := 5, ground := Ground.phase }, { on := 6, ground := Ground.textOnly Departure.lateStores }, { on := 7, ground := Ground.textOnly Departure.lateStores }, { on := 8, ground := Ground.phase }, { on := 9, ground := Ground.phase }, { on := 10, ground := Ground.phase }, { on := 11, ground := Ground.phase }], guard := none }) rfl (fun K hK => ?_) AllReadyH.nil
      go_simp
      refine hK.out _ _ ((hHeld.1.set9 (g := g) (by have := HG.out; omega) (by have := HG.out; omega) (by have := HG.out; omega) 11 (.int .u8 a2)).cells HAv.out) (fun hHeld => ?_)
      clear hK K
      (try simp only [Act.put])
      have hy3 := bk_set9 hy2 11 a2
      refine wpAnyH_take (i := 14) (oi := { dst := some 84, op := Op.indexAddr 23 (Operand.tmp 6) (Operand.const (Value.int IntKind.i64 12)), type := 0, pos := "ref.go:48", after := #[{ on := 0, ground := Ground.phase }, { on := 1, ground := Ground.phase }, { on := 2, ground := Ground.phase }, { on := 3, ground := Ground.phase }, { on := 4, ground := Ground.phase }, { on := 5, ground := Ground.phase }, { on := 6, ground := Ground.phase }, { on := 7, ground := Ground.phase }, { on := 8, ground := Ground.phase }, { on := 9, ground := Ground.phase }, { on := 10, ground := Ground.phase }, { on := 11, ground := Ground.phase }, { on := 12, ground := Ground.phase }, { on := 13, ground := Ground.phase }], guard := none }) (v := ?_) rfl (by kernel_rfl) (by kernel_rfl) (by kernel_rfl) (fun _ _ _ h => h) (Or.inl ⟨by rfl, ?_⟩) (by assumption) ?_
      rotate_left
      · (intro ww hSw; (try dsimp only at hSw); go_simp; try with_reducible rfl)
      (try simp only [Act.put, List.setIfInBounds_toArray, List.set_cons_zero, List.set_cons_succ])
      have cc := hy3.at (i := 12) (by rw [b8_at _ 12 (by (try simp only [List.length_set]); have := HLen.out; omega)])
      have cz := hy3.z 12
      refine wpAnyH_ready (rs := [15]) (by kernel_rfl) (by simp) ?_
      refine AllReadyH.cons (o := { dst := none, op := Op.store 5 (Operand.tmp 84) (Operand.tmp 80), type := 0, pos := "ref.go:48", after := #[{ on := 14, ground := Ground.data }, { on := 7, ground := Ground.data }, { on := 13, ground := Ground.chain }, { on := 0, ground := Ground.phase }, { on := 1, ground := Ground.phase }, { on := 2, ground := Ground.phase }, { on := 3, ground := Ground.phase }, { on := 4, ground := Ground.phase }, { on := 5, ground := Ground.phase }, { on := 6, ground := Ground.phase }, { on := 7, ground := Ground.phase }, { on := 8, ground := Ground.phase }, { on := 9, ground := Ground.phase }, { on := 10, ground := Ground.phase }, { on := 11, ground := Ground.phase }, { on := 12, ground := Ground.phase }, { on := 13, ground := Ground.phase }], guard := none }) rfl (fun K hK => ?_) AllReadyH.nil
      go_simp
      refine hK.out _ _ ((hHeld.1.set9 (g := g) (by have := HG.out; omega) (by have := HG.out; omega) (by have := HG.out; omega) 12 (.int .u8 a3)).cells HAv.out) (fun hHeld => ?_)
      clear hK K
      (try simp only [Act.put])
      have hy4 := bk_set9 hy3 12 a3
      refine wpAnyH_done (by kernel_rfl) ?_ _
      refine NoPanic.normal ?_
      have HXE := Lib.hid (And.left hHeld)
      have HYE := Lib.hid hy4
      rw [HXr.out] at HYE
      have hs9 : VR.length = 16 := by rw [← HXr.out, b8_len]; simp [HLen.out]
      have HOv : Hid (VR.toArray.all (·.oneCell') = true) := Lib.hid (by rw [← HXr.out]; exact b8_one _)
      clear hHeld hy0 hy1 hy2 hy3 hy4 HXr HX5 HAv
      generalize ((((w5.setCell ⟨g, 9, none⟩ (.int .u8 a0)).setCell ⟨g, 10, none⟩ (.int .u8 a1)).setCell ⟨g, 11, none⟩ (.int .u8 a2)).setCell ⟨g, 12, none⟩ (.int .u8 a3)).drew = w9 at *
      have hr9 := HYE.out.range
      have ht9 : w9.there (w.heap.size + 1 + 1) 0 VR.toArray.size := HXE.out.2.2.2.there _ (by have := HLz.out; simp; omega)
      have HI9 : Hid ((Try.prog.info? 23).map (·.size) = some VR.length) := Lib.hid (by rw [hs9]; exact HZ6.out)
      have HS9 := Lib.hid hs9
      clear hs9
      go_wp2_with (first | (refine wpList_load_mid rfl 23 _ rfl g 0 rfl VR _ hr9 Try.underlying23 rfl HI9.out ?_) | (refine wpList_store_mid rfl 23 _ _ rfl (w.heap.size + 1 + 1) 0 VR.toArray rfl rfl ht9 (by simpa using HI9.out) HOv.out ?_))
      have hk9 := Bk.sets VR 0 _ _ HXE.out.2.2.2
      rw [puts_whole VZ.toArray VR (by rw [HS9.out]; have := HLz.out; simp; omega)] at hk9
      refine bodyPost_ret (v := .tuple #[.agg VR.toArray, .bool true]) ?_ rfl ⟨rfl, below_sets _ (by omega) 0 _ HXE.out.1⟩
      exact results_cell2 rfl rfl rfl (run_loadVar_mid _ (w.heap.size + 1 + 1) 0 23 VR _ hk9.range Try.underlying23 rfl (by simpa using HI9.out))
    · have HXr : Hid (b8 (((((A).set 12 a0).set 13 a1).set 14 a2).set 15 a3) = VR) := Lib.hid (by rw [← HVR.out, HI.out, HP.out]; rfl)
      clear hok HI HP HVR
      go_upto_region 16 with (fail)
      clear c16
      have hy0 : Bk w5.drew g 23 (b8 A).toArray := by rw [HX8.out]; exact HY5.out
      refine wp_region_noPanic ?_
      refine wp_region_held_drew (S := fun w' => EX w w.heap.size (w.heap.size + 1) (w.heap.size + 1 + 1) VA VZ w' ∧ w'.cell? ⟨w.heap.size + 1, 0, none⟩ = some (.int .u8 a0) ∧ w'.cell? ⟨w.heap.size + 1, 1, none⟩ = some (.int .u8 a1) ∧ w'.cell? ⟨w.heap.size + 1, 2, none⟩ = some (.int .u8 a2) ∧ w'.cell? ⟨w.heap.size + 1, 3, none⟩ = some (.int .u8 a3)) (by kernel_rfl) (HX5.out.drew.cells HAv.out) (fun hHeld => ?_)
      refine wpAnyH_take (i := 0) (oi := { dst := some 87, op := Op.indexAddr 31 (Operand.tmp 3) (Operand.const (Value.int IntKind.i64 0)), type := 0, pos := "ref.go:50", after := #[], guard := none }) (v := ?_) rfl (by kernel_rfl) (by kernel_rfl) (by kernel_rfl) (fun _ _ _ h => h) (Or.inl ⟨by rfl, ?_⟩) (by assumption) ?_
      rotate_left
      · (intro ww hSw; (try dsimp only at hSw); go_simp; try with_reducible rfl)
      (try simp only [Act.put, List.setIfInBounds_toArray, List.set_cons_zero, List.set_cons_succ])
      refine wpAnyH_take (i := 1) (oi := { dst := some 88, op := Op.load 5 (Operand.tmp 87), type := 5, pos := "ref.go:50", after := #[{ on := 0, ground := Ground.data }], guard := none }) (v := ?_) rfl (by kernel_rfl) (by kernel_rfl) (by kernel_rfl) (fun _ _ _ h => h) (Or.inl ⟨by rfl, ?_⟩) (by assumption) ?_
      rotate_left
      · (intro ww hSw; (try dsimp only at hSw); go_simp; try with_reducible rfl)
      (try simp only [Act.put, List.setIfInBounds_toArray, List.set_cons_zero, List.set_cons_succ])
      refine wpAnyH_take (i := 2) (oi := { dst := some 89, op := Op.indexAddr 31 (Operand.tmp 3) (Operand.const (Value.int IntKind.i64 1)), type := 0, pos := "ref.go:50", after := #[{ on := 9, ground := Ground.gcOnly Departure.lateStores }], guard := none }) (v := ?_) rfl (by kernel_rfl) (by kernel_rfl) (by kernel_rfl) (fun _ _ _ h => h) (Or.inl ⟨by rfl, ?_⟩) (by assumption) ?_
      rotate_left
      · (intro ww hSw; (try dsimp only at hSw); go_simp; try with_reducible rfl)
      (try simp only [Act.put, List.setIfInBounds_toArray, List.set_cons_zero, List.set_cons_succ])
      refine wpAnyH_take (i := 3) (oi := { dst := some 90, op := Op.load 5 (Operand.tmp 89), type := 5, pos := "ref.go:50", after := #[{ on := 2, ground := Ground.data }, { on := 9, ground := Ground.gcOnly Departure.lateStores }], guard := none }) (v := ?_) rfl (by kernel_rfl) (by kernel_rfl) (by kernel_rfl) (fun _ _ _ h => h) (Or.inl ⟨by rfl, ?_⟩) (by assumption) ?_
      rotate_left
      · (intro ww hSw; (try dsimp only at hSw); go_simp; try with_reducible rfl)
      (try simp only [Act.put, List.setIfInBounds_toArray, List.set_cons_zero, List.set_cons_succ])
      refine wpAnyH_take (i := 4) (oi := { dst := some 91, op := Op.indexAddr 31 (Operand.tmp 3) (Operand.const (Value.int IntKind.i64 2)), type := 0, pos := "ref.go:50", after := #[{ on := 11, ground := Ground.gcOnly Departure.lateStores }], guard := none }) (v := ?_) rfl (by kernel_rfl) (by kernel_rfl) (by kernel_rfl) (fun _ _ _ h => h) (Or.inl ⟨by rfl, ?_⟩) (by assumption) ?_
      rotate_left
      · (intro ww hSw; (try dsimp only at hSw); go_simp; try with_reducible rfl)
      (try simp only [Act.put, List.setIfInBounds_toArray, List.set_cons_zero, List.set_cons_succ])
      refine wpAnyH_take (i := 5) (oi := { dst := some 92, op := Op.load 5 (Operand.tmp 91), type := 5, pos := "ref.go:50", after := #[{ on := 4, ground := Ground.data }, { on := 11, ground := Ground.gcOnly Departure.lateStores }], guard := none }) (v := ?_) rfl (by kernel_rfl) (by kernel_rfl) (by kernel_rfl) (fun _ _ _ h => h) (Or.inl ⟨by rfl, ?_⟩) (by assumption) ?_
      rotate_left
      · (intro ww hSw; (try dsimp only at hSw); go_simp; try with_reducible rfl)
      (try simp only [Act.put, List.setIfInBounds_toArray, List.set_cons_zero, List.set_cons_succ])
      refine wpAnyH_take (i := 6) (oi := { dst := some 93, op := Op.indexAddr 31 (Operand.tmp 3) (Operand.const (Value.int IntKind.i64 3)), type := 0, pos := "ref.go:50", after := #[{ on := 13, ground := Ground.gcOnly Departure.lateStores }], guard := none }) (v := ?_) rfl (by kernel_rfl) (by kernel_rfl) (by kernel_rfl) (fun _ _ _ h => h) (Or.inl ⟨by rfl, ?_⟩) (by assumption) ?_
      rotate_left
      · (intro ww hSw; (try dsimp only at hSw); go_simp; try with_reducible rfl)
      (try simp only [Act.put, List.setIfInBounds_toArray, List.set_cons_zero, List.set_cons_succ])
      refine wpAnyH_take (i := 7) (oi := { dst := some 94, op := Op.load 5 (Operand.tmp 93), type := 5, pos := "ref.go:50", after := #[{ on := 6, ground := Ground.data }, { on := 13, ground := Ground.gcOnly Departure.lateStores }], guard := none }) (v := ?_) rfl (by kernel_rfl) (by kernel_rfl) (by kernel_rfl) (fun _ _ _ h => h) (Or.inl ⟨by rfl, ?_⟩) (by assumption) ?_
      rotate_left
      · (intro ww hSw; (try dsimp only at hSw); go_simp; try with_reducible rfl)
      (try simp only [Act.put, List.setIfInBounds_toArray, List.set_cons_zero, List.set_cons_succ])
      refine wpAnyH_take (i := 8) (oi := { dst := some 95, op := Op.indexAddr 23 (Operand.tmp 6) (Operand.const (Value.int IntKind.i64 12)), type := 0, pos := "ref.go:50", after := #[{ on := 0, ground := Ground.phase }, { on := 1, ground := Ground.phase }, { on := 2, ground := Ground.textOnly Departure.lateStores }, { on := 3, ground := Ground.textOnly Departure.lateStores }, { on := 4, ground := Ground.textOnly Departure.lateStores }, { on := 5, ground := Ground.textOnly Departure.lateStores }, { on := 6, ground := Ground.textOnly Departure.lateStores }, { on := 7, ground := Ground.textOnly Departure.lateStores }], guard := none }) (v := ?_) rfl (by kernel_rfl) (by kernel_rfl) (by kernel_rfl) (fun _ _ _ h => h) (Or.inl ⟨by rfl, ?_⟩) (by assumption) ?_
      rotate_left
      · (intro ww hSw; (try dsimp only at hSw); go_simp; try with_reducible rfl)
      (try simp only [Act.put, List.setIfInBounds_toArray, List.set_cons_zero, List.set_cons_succ])
      have cc := hy0.at (i := 12) (by rw [b8_at _ 12 (by (try simp only [List.length_set]); have := HLen.out; omega)])
      have cz := hy0.z 12
      refine wpAnyH_ready (rs := [9]) (by kernel_rfl) (by simp) ?_
      refine AllReadyH.cons (o := { dst := none, op := Op.store 5 (Operand.tmp 95) (Operand.tmp 88), type := 0, pos := "ref.go:50", after := #[{ on := 8, ground := Ground.data }, { on := 1, ground := Ground.data }, { on := 0, ground := Ground.phase }, { on := 1, ground := Ground.phase }, { on := 2, ground := Ground.textOnly Departure.lateStores }, { on := 3, ground := Ground.textOnly Departure.lateStores }, { on := 4, ground := Ground.textOnly Departure.lateStores }, { on := 5, ground := Ground.textOnly Departure.lateStores }, { on := 6, ground := Ground.textOnly Departure.lateStores }, { on := 7, ground := Ground.textOnly Departure.lateStores }], guard := none }) rfl (fun K hK => ?_) AllReadyH.nil
      go_simp
      refine hK.out _ _ ((hHeld.1.set9 (g := g) (by have := HG.out; omega) (by have := HG.out; omega) (by have := HG.out; omega) 12 (.int .u8 a0)).cells HAv.out) (fun hHeld => ?_)
      clear hK K
      (try simp only [Act.put])
      have hy1 := bk_set9 hy0 12 a0
      refine wpAnyH_take (i := 10) (oi := { dst := some 96, op := Op.indexAddr 23 (Operand.tmp 6) (Operand.const (Value.int IntKind.i64 13)), type := 0, pos := "ref.go:50", after := #[{ on := 0, ground := Ground.phase }, { on := 1, ground := Ground.phase }, { on := 2, ground := Ground.phase }, { on := 3, ground := Ground.phase }, { on := 4, ground := Ground.textOnly Departure.lateStores }, { on := 5, ground := Ground.textOnly Departure.lateStores }, { on := 6, ground := Ground.textOnly Departure.lateStores }, { on := 7, ground := Ground.textOnly Departure.lateStores }, { on := 8, ground := Ground.phase }, { on := 9, ground := Ground.phase }], guard := none }) (v := ?_) rfl (by kernel_rfl) (by kernel_rfl) (by kernel_rfl) (fun _ _ _ h => h) (Or.inl ⟨by rfl, ?_⟩) (by assumption) ?_
      rotate_left
      · (intro ww hSw; (try dsimp only at hSw); go_simp; try with_reducible rfl)
      (try simp only [Act.put, List.setIfInBounds_toArray, List.set_cons_zero, List.set_cons_succ])
      have cc := hy1.at (i := 13) (by rw [b8_at _ 13 (by (try simp only [List.length_set]); have := HLen.out; omega)])
      have cz := hy1.z 13
      refine wpAnyH_ready (rs := [11]) (by kernel_rfl) (by simp) ?_
      refine AllReadyH.cons (o := { dst := none, op := Op.store 5 (Operand.tmp 96) (Operand.tmp 90), type := 0, pos := "ref.go:50", after := #[{ on := 10, ground := Ground.data }, { on := 3, ground := Ground.data }, { on := 9, ground := Ground.chain }, { on := 0, ground := Ground.phase }, { on := 1, ground := Ground.phase }, { on := 2, ground := Ground.phase }, { on := 3, ground := Ground.phase }, { on := 4, ground := Ground.textOnly Departure.lateStores }, { on := 5, ground := Ground.textOnly Departure.lateStores }, { on := 6, ground := Ground.textOnly Departure.lateStores }, { on := 7, ground := Ground.textOnly Departure.lateStores }, { on := 8, ground := Ground.phase }, { on := 9, ground := Ground.phase }], guard := none }) rfl (fun K hK => ?_) AllReadyH.nil
      go_simp
      refine hK.out _ _ ((hHeld.1.set9 (g := g) (by have := HG.out; omega) (by have := HG.out; omega) (by have := HG.out; omega) 13 (.int .u8 a1)).cells HAv.out) (fun hHeld => ?_)
      clear hK K
      (try simp only [Act.put])
      have hy2 := bk_set9 hy1 13 a1
      refine wpAnyH_take (i := 12) (oi := { dst := some 97, op := Op.indexAddr 23 (Operand.tmp 6) (Operand.const (Value.int IntKind.i64 14)), type := 0, pos := "ref.go:50", after := #[{ on := 0, ground := Ground.phase }, { on := 1, ground := Ground.phase }, { on := 2, ground := Ground.phase }, { on := 3, ground := Ground.phase }, { on := 4, ground := Ground.phase }, { on := 5, ground := Ground.phase }, { on := 6, ground := Ground.textOnly Departure.lateStores }, { on := 7, ground := Ground.textOnly Departure.lateStores }, { on := 8, ground := Ground.phase }, { on := 9, ground := Ground.phase }, { on := 10, ground := Ground.phase }, { on := 11, ground := Ground.phase }], guard := none }) (v := ?_) rfl (by kernel_rfl) (by kernel_rfl) (by kernel_rfl) (fun _ _ _ h => h) (Or.inl ⟨by rfl, ?_⟩) (by assumption) ?_
      rotate_left
      · (intro ww hSw; (try dsimp only at hSw); go_simp; try with_reducible rfl)
      (try simp only [Act.put, List.setIfInBounds_toArray, List.set_cons_zero, List.set_cons_succ])
      have cc := hy2.at (i := 14) (by rw [b8_at _ 14 (by (try simp only [List.length_set]); have := HLen.out; omega)])
      have cz := hy2.z 14
      refine wpAnyH_ready (rs := [13]) (by kernel_rfl) (by simp) ?_
      refine AllReadyH.cons (o := { dst := none, op := Op.store 5 (Operand.tmp 97) (Operand.tmp 92), type := 0, pos := "ref.go:50", after := #[{ on := 12, ground := Ground.data }, { on := 5, ground := Ground.data }, { on := 11, ground := Ground.chain }, { on := 0, ground := Ground.phase }, { on := 1, ground := Ground.phase }, { on := 2, ground := Ground.phase }, { on := 3, ground := Ground.phase }, { on := 4, ground := Ground.phase }, { on := 5, ground := Ground.phase }, { on := 6, ground := Ground.textOnly Departure.lateStores }, { on := 7, ground := Ground.textOnly Departure.lateStores }, { on := 8, ground := Ground.phase }, { on := 9, ground := Ground.phase }, { on := 10, ground := Ground.phase }, { on := 11, ground := Ground.phase }], guard := none }) rfl (fun K hK => ?_) AllReadyH.nil
      go_simp
      refine hK.out _ _ ((hHeld.1.set9 (g := g) (by have := HG.out; omega) (by have := HG.out; omega) (by have := HG.out; omega) 14 (.int .u8 a2)).cells HAv.out) (fun hHeld => ?_)
      clear hK K
      (try simp only [Act.put])
      have hy3 := bk_set9 hy2 14 a2
      refine wpAnyH_take (i := 14) (oi := { dst := some 98, op := Op.indexAddr 23 (Operand.tmp 6) (Operand.const (Value.int IntKind.i64 15)), type := 0, pos := "ref.go:50", after := #[{ on := 0, ground := Ground.phase }, { on := 1, ground := Ground.phase }, { on := 2, ground := Ground.phase }, { on := 3, ground := Ground.phase }, { on := 4, ground := Ground.phase }, { on := 5, ground := Ground.phase }, { on := 6, ground := Ground.phase }, { on := 7, ground := Ground.phase }, { on := 8, ground := Ground.phase }, { on := 9, ground := Ground.phase }, { on := 10, ground := Ground.phase }, { on := 11, ground := Ground.phase }, { on := 12, ground := Ground.phase }, { on := 13, ground := Ground.phase }], guard := none }) (v := ?_) rfl (by kernel_rfl) (by kernel_rfl) (by kernel_rfl) (fun _ _ _ h => h) (Or.inl ⟨by rfl, ?_⟩) (by assumption) ?_
      rotate_left
      · (intro ww hSw; (try dsimp only at hSw); go_simp; try with_reducible rfl)
      (try simp only [Act.put, List.setIfInBounds_toArray, List.set_cons_zero, List.set_cons_succ])
      have cc := hy3.at (i := 15) (by rw [b8_at _ 15 (by (try simp only [List.length_set]); have := HLen.out; omega)])
      have cz := hy3.z 15
      refine wpAnyH_ready (rs := [15]) (by kernel_rfl) (by simp) ?_
      refine AllReadyH.cons (o := { dst := none, op := Op.store 5 (Operand.tmp 98) (Operand.tmp 94), type := 0, pos := "ref.go:50", after := #[{ on := 14, ground := Ground.data }, { on := 7, ground := Ground.data }, { on := 13, ground := Ground.chain }, { on := 0, ground := Ground.phase }, { on := 1, ground := Ground.phase }, { on := 2, ground := Ground.phase }, { on := 3, ground := Ground.phase }, { on := 4, ground := Ground.phase }, { on := 5, ground := Ground.phase }, { on := 6, ground := Ground.phase }, { on := 7, ground := Ground.phase }, { on := 8, ground := Ground.phase }, { on := 9, ground := Ground.phase }, { on := 10, ground := Ground.phase }, { on := 11, ground := Ground.phase }, { on := 12, ground := Ground.phase }, { on := 13, ground := Ground.phase }], guard := none }) rfl (fun K hK => ?_) AllReadyH.nil
      go_simp
      refine hK.out _ _ ((hHeld.1.set9 (g := g) (by have := HG.out; omega) (by have := HG.out; omega) (by have := HG.out; omega) 15 (.int .u8 a3)).cells HAv.out) (fun hHeld => ?_)
      clear hK K
      (try simp only [Act.put])
      have hy4 := bk_set9 hy3 15 a3
      refine wpAnyH_done (by kernel_rfl) ?_ _
      refine NoPanic.normal ?_
      have HXE := Lib.hid (And.left hHeld)
      have HYE := Lib.hid hy4
      rw [HXr.out] at HYE
      have hs9 : VR.length = 16 := by rw [← HXr.out, b8_len]; simp [HLen.out]
      have HOv : Hid (VR.toArray.all (·.oneCell') = true) := Lib.hid (by rw [← HXr.out]; exact b8_one _)
      clear hHeld hy0 hy1 hy2 hy3 hy4 HXr HX5 HAv
      generalize ((((w5.setCell ⟨g, 12, none⟩ (.int .u8 a0)).setCell ⟨g, 13, none⟩ (.int .u8 a1)).setCell ⟨g, 14, none⟩ (.int .u8 a2)).setCell ⟨g, 15, none⟩ (.int .u8 a3)).drew = w9 at *
      have hr9 := HYE.out.range
      have ht9 : w9.there (w.heap.size + 1 + 1) 0 VR.toArray.size := HXE.out.2.2.2.there _ (by have := HLz.out; simp; omega)
      have HI9 : Hid ((Try.prog.info? 23).map (·.size) = some VR.length) := Lib.hid (by rw [hs9]; exact HZ6.out)
      have HS9 := Lib.hid hs9
      clear hs9
      go_wp2_with (first | (refine wpList_load_mid rfl 23 _ rfl g 0 rfl VR _ hr9 Try.underlying23 rfl HI9.out ?_) | (refine wpList_store_mid rfl 23 _ _ rfl (w.heap.size + 1 + 1) 0 VR.toArray rfl rfl ht9 (by simpa using HI9.out) HOv.out ?_))
      have hk9 := Bk.sets VR 0 _ _ HXE.out.2.2.2
      rw [puts_whole VZ.toArray VR (by rw [HS9.out]; have := HLz.out; simp; omega)] at hk9
      refine bodyPost_ret (v := .tuple #[.agg VR.toArray, .bool true]) ?_ rfl ⟨rfl, below_sets _ (by omega) 0 _ HXE.out.1⟩
      exact results_cell2 rfl rfl rfl (run_loadVar_mid _ (w.heap.size + 1 + 1) 0 23 VR _ hk9.range Try.underlying23 rfl (by simpa using HI9.out))
end Go.Proofs.Ytpjcanejenmldaa
