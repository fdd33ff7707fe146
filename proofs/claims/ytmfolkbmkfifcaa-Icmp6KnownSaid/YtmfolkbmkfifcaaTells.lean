/-
  Proved here: what the document's Echo, WithId and Failure answer.
  Conditions: Rest fits its places.
-/
import Derived.Test.YtmfolkbmkfifcaaRefBytes
namespace Go.Proofs.Ytmfolkbmkfifcaa
open Go.RowKit

/-- It asks for an echo; it is one; either. -/
def Ms.asks (d : Ms) : Bool := (d.cd == 0) && (d.kd == 128)
def Ms.tells (d : Ms) : Bool := (d.cd == 0) && (d.kd == 129)
def Ms.is (d : Ms) : Bool := d.asks || d.tells
def Ms.idn (d : Ms) : Int := if d.is = true then (d.rs / 65536 : Nat) else 0
def Ms.withId (d : Ms) (id : Int) : Ms := ⟨d.kd, d.cd, (id % 65536).toNat * 65536 + d.rs % 65536, d.da⟩
def Ms.fails (d : Ms) : Bool := decide (0 < d.kd) && decide (d.kd < 128)
theorem withId_rs (d : Ms) (id : Int) : (d.withId id).rs < 4294967296 := by
  show (id % 65536).toNat * 65536 + d.rs % 65536 < _
  omega
theorem tmod_cases (n k : Int) : (0 ≤ n ∧ n.tmod k = n % k) ∨ (n < 0 ∧ n.tmod k = -((-n) % k)) := by
  rcases Int.lt_or_le n 0 with h | h
  · refine .inr ⟨h, ?_⟩
    have e : n.tmod k = -((-n).tmod k) := by rw [Int.neg_tmod, Int.neg_neg]
    rw [e, Int.tmod_eq_emod_of_nonneg (by omega)]
  · exact .inl ⟨h, Int.tmod_eq_emod_of_nonneg h⟩

set_option maxRecDepth 100000 in
theorem recho_any (x0 x1 : Int) (x2 : Nat) (x3 : ByteArray) (w : World) (hx : x2 < 4294967296) :
    Calls Try.prog 18 #[.agg #[.int .i64 x0, .int .i64 x1, .int .u32 (x2 : Nat), .string x3]] w fun e w' => e = .returned (.tuple #[.int .i64 (Ms.mk x0 x1 x2 x3).idn, .bool (Ms.mk x0 x1 x2 x3).asks, .bool (Ms.mk x0 x1 x2 x3).is]) ∧ Below w.heap.size w w' := by
  have k1 : ((x2 : Nat) : Int).tdiv 65536 = ((x2 / 65536 : Nat) : Int) := by rw [Int.tdiv_eq_ediv_of_nonneg (by omega)]; omega
  have k2 : IntKind.u32.wrap ((x2 / 65536 : Nat) : Int) = ((x2 / 65536 : Nat) : Int) := IntWalk.u32_in _ (by omega)
  have k3 : IntKind.i64.wrap ((x2 / 65536 : Nat) : Int) = ((x2 / 65536 : Nat) : Int) := IntWalk.i64_in _ (by omega)
  have HB := Lib.hid (show Below w.heap.size w (w.alloc (.cells #[.int .i64 x0, .int .i64 x1, .int .u32 (x2 : Nat), .string x3] 26)) from (Below.refl _ _).alloc (Nat.le_refl _) _)
  unfold Ms.idn Ms.is Ms.asks Ms.tells
  dsimp only
  clear hx
  generalize x2 / 65536 = y at *
  go_enter Try.func18, Try.ntmps18
  cases h1 : (x1 == 0)
  · go_wp2_with fail
    go_ret3
    exact ⟨rfl, HB.out⟩
  · cases h2 : (x0 == 128)
    · cases h3 : (x0 == 129)
      · go_wp2_with fail
        go_ret3
        exact ⟨rfl, HB.out⟩
      · go_wp2_with fail
        go_ret3
        exact ⟨rfl, HB.out⟩
    · go_wp2_with fail
      go_ret3
      exact ⟨rfl, HB.out⟩
set_option maxRecDepth 100000 in
set_option maxHeartbeats 400000 in
theorem rwith_any (x0 x1 : Int) (x2 : Nat) (x3 : ByteArray) (id : Int) (w : World) (hx : x2 < 4294967296) :
    Calls Try.prog 19 #[.agg #[.int .i64 x0, .int .i64 x1, .int .u32 (x2 : Nat), .string x3], .int .i64 id] w fun e w' => e = .returned (.agg ((Ms.mk x0 x1 x2 x3).withId id).vals.toArray) ∧ Below w.heap.size w w' := by
  obtain ⟨T, hT⟩ : ∃ T, T = id.tmod 65536 := ⟨_, rfl⟩
  obtain ⟨M, hM⟩ : ∃ M : Nat, M = (id % 65536).toNat := ⟨_, rfl⟩
  have hMT : (M : Int) = if T < 0 then T + 65536 else T := by
    rcases tmod_cases id 65536 with ⟨h1, h2⟩ | ⟨h1, h2⟩
    · rw [hM, hT, h2]; omega
    · rw [hM, hT, h2]; omega
  have hTl : -65536 < T ∧ T < 65536 := by
    rcases tmod_cases id 65536 with ⟨h1, h2⟩ | ⟨h1, h2⟩
    · rw [hT, h2]; omega
    · rw [hT, h2]; omega
  have hMl : M < 65536 := by rw [hM]; omega
  have k0 : IntKind.i64.wrap T = T := IntWalk.i64_in _ (by omega)
  have k1 : IntKind.u32.wrap ((M : Nat) : Int) = ((M : Nat) : Int) := IntWalk.u32_in _ (by omega)
  have k2 : IntKind.u32.wrap (((M : Nat) : Int) * 65536) = ((M : Nat) : Int) * 65536 := IntWalk.u32_in _ (by omega)
  have k3 : ((x2 : Nat) : Int).tmod 65536 = ((x2 % 65536 : Nat) : Int) := by rw [Int.tmod_eq_emod_of_nonneg (by omega)]; omega
  have k4 : IntKind.u32.wrap ((x2 % 65536 : Nat) : Int) = ((x2 % 65536 : Nat) : Int) := IntWalk.u32_in _ (by omega)
  have k5 : IntKind.u32.wrap (((M : Nat) : Int) * 65536 + ((x2 % 65536 : Nat) : Int)) = ((M * 65536 + x2 % 65536 : Nat) : Int) := by rw [IntWalk.u32_in _ (by omega)]; omega
  have hV : ((Ms.mk x0 x1 x2 x3).withId id).vals = [.int .i64 x0, .int .i64 x1, .int .u32 (M * 65536 + x2 % 65536 : Nat), .string x3] := by rw [hM]; rfl
  have k9 : id.tmod 65536 = T := hT.symm
  rw [hV]
  clear hV hM hT hx hTl
  generalize x2 % 65536 = y at *
  generalize M * 65536 + y = R at *
  have HI : Hid ((Try.prog.info? 26).map (·.size) = some 4) := Lib.hid (Try.infoMs ms0)
  have HOn : Hid (([.int .i64 x0, .int .i64 x1, .int .u32 (R : Nat), .string x3] : List Value).toArray.all (·.oneCell') = true) := Lib.hid (by simp [Value.oneCell'])
  have hk0 : Bk ((w.alloc (.cells #[.int .i64 x0, .int .i64 x1, .int .u32 (x2 : Nat), .string x3] 26)).alloc (.cells #[.int .i64 0, .int .i64 0, .int .u32 0, .string ⟨#[]⟩] 26)) w.heap.size 26 ([.int .i64 x0, .int .i64 x1, .int .u32 (x2 : Nat), .string x3] : List Value).toArray := (bk_new w 26 ([.int .i64 x0, .int .i64 x1, .int .u32 (x2 : Nat), .string x3] : List Value).toArray).alloc _
  have hs0 : (w.alloc (.cells #[.int .i64 x0, .int .i64 x1, .int .u32 (x2 : Nat), .string x3] 26)).heap.size = w.heap.size + 1 := by simp
  have hk1 : Bk ((w.alloc (.cells #[.int .i64 x0, .int .i64 x1, .int .u32 (x2 : Nat), .string x3] 26)).alloc (.cells #[.int .i64 0, .int .i64 0, .int .u32 0, .string ⟨#[]⟩] 26)) (w.heap.size + 1) 26 ms0.vals.toArray := by
    have h := bk_new (w.alloc (.cells #[.int .i64 x0, .int .i64 x1, .int .u32 (x2 : Nat), .string x3] 26)) 26 ms0.vals.toArray
    rw [hs0] at h
    exact h
  have hb1 : Below w.heap.size w ((w.alloc (.cells #[.int .i64 x0, .int .i64 x1, .int .u32 (x2 : Nat), .string x3] 26)).alloc (.cells #[.int .i64 0, .int .i64 0, .int .u32 0, .string ⟨#[]⟩] 26)) := ((Below.refl _ _).alloc (Nat.le_refl _) _).alloc (by rw [hs0]; omega) _
  go_enter Try.func19, Try.ntmps19
  go_upto_region 1 with (fail)
  clear hs0
  generalize (w.alloc (.cells #[.int .i64 x0, .int .i64 x1, .int .u32 (x2 : Nat), .string x3] 26)).alloc (.cells #[.int .i64 0, .int .i64 0, .int .u32 0, .string ⟨#[]⟩] 26) = w1 at *
  have c0 := hk0.at (i := 0) rfl
  have c1 := hk0.at (i := 1) rfl
  have c2 := hk0.at (i := 2) rfl
  have c3 := hk0.at (i := 3) rfl
  have z2 := hk0.z 2
  have HK0 := Lib.hid hk0
  have HK1 := Lib.hid hk1
  have HB1 := Lib.hid hb1
  clear hk0 hk1 hb1
  by_cases hneg : T < 0
  · have dn := decide_eq_true hneg
    rw [if_pos hneg] at hMT
    have k6 : IntKind.i64.wrap (T + 65536) = (M : Int) := by rw [← hMT]; exact IntWalk.i64_in _ (by omega)
    clear hMT hneg
    go_upto_region 5 with (fail)
    clear c0 c1 c2 c3 z2 k0 k1 k2 k3 k4 k5 k6 k9 dn
    have hb0 := HK0.out.set 2 (.int .u32 (R : Nat))
    have hb0' : Bk (w1.setCell ⟨w.heap.size, 2, none⟩ (.int .u32 (R : Nat))) w.heap.size 26 ([.int .i64 x0, .int .i64 x1, .int .u32 (R : Nat), .string x3] : List Value).toArray := hb0
    have hb1 := Bk.set_other HK1.out (Nat.succ_ne_self w.heap.size) 2 (.int .u32 (R : Nat))
    have hbl := HB1.out.setCell (show w.heap.size ≤ (⟨w.heap.size, 2, none⟩ : Addr).block from Nat.le_refl _) (.int .u32 (R : Nat))
    generalize w1.setCell ⟨w.heap.size, 2, none⟩ (.int .u32 (R : Nat)) = w2 at *
    have hr := hb0'.range
    have ht := hb1.there 4 (Nat.le_refl _)
    have HK5 := Lib.hid (Bk.sets ([.int .i64 x0, .int .i64 x1, .int .u32 (R : Nat), .string x3] : List Value) 0 _ _ hb1)
    have HB5 := Lib.hid hbl
    clear hb0 hb0' hb1 hbl HK0 HK1 HB1
    go_wp2_with (first | (refine wpList_load_mid rfl 26 _ rfl w.heap.size 0 rfl [.int .i64 x0, .int .i64 x1, .int .u32 (R : Nat), .string x3] _ hr Try.underlying26 rfl HI.out ?_) | (refine wpList_store_mid rfl 26 _ _ rfl (w.heap.size + 1) 0 ([.int .i64 x0, .int .i64 x1, .int .u32 (R : Nat), .string x3] : List Value).toArray rfl rfl ht HI.out HOn.out ?_))
    have hk5 := HK5.out
    rw [puts_whole ms0.vals.toArray ([.int .i64 x0, .int .i64 x1, .int .u32 (R : Nat), .string x3] : List Value) rfl] at hk5
    refine bodyPost_ret (v := .agg ([.int .i64 x0, .int .i64 x1, .int .u32 (R : Nat), .string x3] : List Value).toArray) ?_ rfl ⟨rfl, below_sets _ (Nat.le_succ _) 0 _ HB5.out⟩
    exact results_cell rfl rfl (run_loadVar_mid _ (w.heap.size + 1) 0 26 _ _ hk5.range Try.underlying26 rfl HI.out)
  · have dn := decide_eq_false hneg
    rw [if_neg hneg] at hMT
    subst hMT
    clear hneg
    go_upto_region 5 with (fail)
    clear c0 c1 c2 c3 z2 k0 k1 k2 k3 k4 k5 k9 dn
    have hb0 := HK0.out.set 2 (.int .u32 (R : Nat))
    have hb0' : Bk (w1.setCell ⟨w.heap.size, 2, none⟩ (.int .u32 (R : Nat))) w.heap.size 26 ([.int .i64 x0, .int .i64 x1, .int .u32 (R : Nat), .string x3] : List Value).toArray := hb0
    have hb1 := Bk.set_other HK1.out (Nat.succ_ne_self w.heap.size) 2 (.int .u32 (R : Nat))
    have hbl := HB1.out.setCell (show w.heap.size ≤ (⟨w.heap.size, 2, none⟩ : Addr).block from Nat.le_refl _) (.int .u32 (R : Nat))
    generalize w1.setCell ⟨w.heap.size, 2, none⟩ (.int .u32 (R : Nat)) = w2 at *
    have hr := hb0'.range
    have ht := hb1.there 4 (Nat.le_refl _)
    have HK5 := Lib.hid (Bk.sets ([.int .i64 x0, .int .i64 x1, .int .u32 (R : Nat), .string x3] : List Value) 0 _ _ hb1)
    have HB5 := Lib.hid hbl
    clear hb0 hb0' hb1 hbl HK0 HK1 HB1
    go_wp2_with (first | (refine wpList_load_mid rfl 26 _ rfl w.heap.size 0 rfl [.int .i64 x0, .int .i64 x1, .int .u32 (R : Nat), .string x3] _ hr Try.underlying26 rfl HI.out ?_) | (refine wpList_store_mid rfl 26 _ _ rfl (w.heap.size + 1) 0 ([.int .i64 x0, .int .i64 x1, .int .u32 (R : Nat), .string x3] : List Value).toArray rfl rfl ht HI.out HOn.out ?_))
    have hk5 := HK5.out
    rw [puts_whole ms0.vals.toArray ([.int .i64 x0, .int .i64 x1, .int .u32 (R : Nat), .string x3] : List Value) rfl] at hk5
    refine bodyPost_ret (v := .agg ([.int .i64 x0, .int .i64 x1, .int .u32 (R : Nat), .string x3] : List Value).toArray) ?_ rfl ⟨rfl, below_sets _ (Nat.le_succ _) 0 _ HB5.out⟩
    exact results_cell rfl rfl (run_loadVar_mid _ (w.heap.size + 1) 0 26 _ _ hk5.range Try.underlying26 rfl HI.out)
set_option maxRecDepth 100000 in
theorem rfail_any (x0 x1 : Int) (x2 : Nat) (x3 : ByteArray) (w : World) :
    Calls Try.prog 20 #[.agg #[.int .i64 x0, .int .i64 x1, .int .u32 (x2 : Nat), .string x3]] w fun e w' => e = .returned (.bool (Ms.mk x0 x1 x2 x3).fails) ∧ Below w.heap.size w w' := by
  have HB := Lib.hid (show Below w.heap.size w (w.alloc (.cells #[.int .i64 x0, .int .i64 x1, .int .u32 (x2 : Nat), .string x3] 26)) from (Below.refl _ _).alloc (Nat.le_refl _) _)
  unfold Ms.fails
  dsimp only
  go_enter Try.func20, Try.ntmps20
  by_cases h0 : 0 < x0
  · have d0 := decide_eq_true h0
    by_cases h1 : x0 < 128
    · have d1 := decide_eq_true h1
      rw [d0, d1]
      clear d0 d1
      go_wp2_with fail
      go_ret
      exact ⟨rfl, HB.out⟩
    · have d1 := decide_eq_false h1
      rw [d0, d1]
      clear d0 d1
      go_wp2_with fail
      go_ret
      exact ⟨rfl, HB.out⟩
  · have d0 := decide_eq_false h0
    rw [d0]
    clear d0
    go_wp2_with fail
    go_ret
    exact ⟨rfl, HB.out⟩
end Go.Proofs.Ytmfolkbmkfifcaa
