/-
  Proved here: the law Ip6Chains answers true, and leaves old memory as it was.
  Conditions: none.
-/
import Derived.Test.YtphemimpkbjfoaaAwake
namespace Go.Proofs.Ytphemimpkbjfoaa
open Go.RowKit

theorem chn_len : ∀ (f : Nat) (l : List (Int × ByteArray)) (n : Int) (t : ByteArray), l.length ≤ 8 → (chn f l n t).exts.length ≤ 8 := by
  intro f
  induction f with
  | zero => intro l n t _; exact Nat.zero_le _
  | succ f ih =>
    intro l n t hl
    unfold chn
    split
    · split
      · exact Nat.zero_le _
      · split
        · exact Nat.zero_le _
        · split
          · exact Nat.zero_le _
          · exact ih _ _ _ (by rw [List.length_append, List.length_singleton]; omega)
    · exact hl
theorem chnE_len (n : Int) (t : ByteArray) : (chnE [] n t).exts.length ≤ 8 := chn_len _ _ _ _ (Nat.zero_le _)
/-- A packet of extensions alone. -/
def pkE (l : List (Int × ByteArray)) : Pk6 := { pk0 with exts := l }
theorem Try.execX (a : Act) (t : Nat) (ao : Option Addr) (n cap : Nat) (d : Option Tmp) (ty : TypeId) (ps : String) (af : Array Edge) (w : World) (h1 : a.eval (.tmp t) = .slice ao n cap) :
    (execOp a.eval { dst := d, op := .build 31 #[(5, .tmp t)], type := ty, pos := ps, after := af, guard := none }).run Try.prog w = .ok (.value (.agg (pk0.vals (.slice ao n cap)).toArray)) w := by
  unfold execOp
  simp only [Sem.run_bind, List.map_toArray, List.map_cons, List.map_nil, h1]
  show Result.andThen ((Instr.build 31 #[(5, .slice ao n cap)]).run Try.prog w) _ = _
  rw [show (Instr.build 31 #[(5, .slice ao n cap)]).run Try.prog w = .ok (.agg (pk0.vals (.slice ao n cap)).toArray) w by kernel_rfl]
  rfl
set_option maxRecDepth 100000 in
set_option maxHeartbeats 400000 in
theorem ip6Chains_long (n : Int) (s : ByteArray) (w : World) (h : 70000 < s.size) :
    Calls Try.prog 6 #[.int .i64 n, .string s] w fun e w' => e = .returned (.bool true) ∧ Below w.heap.size w w' := by
  have hI : (70000 : Int) < (s.size : Int) := by omega
  clear h
  go_enter Try.func6, Try.ntmps6
  go_wp2_with fail
  refine (awake_true w).mono ?_
  rintro e w1 ⟨rfl, b1⟩
  have HB := Lib.hid b1
  clear b1
  go_wp2_with fail
  go_ret
  exact ⟨rfl, HB.out⟩
set_option maxRecDepth 100000 in
set_option maxHeartbeats 1000000 in
theorem ip6Chains_main (n : Int) (s : ByteArray) (w : World) (h : ¬ 70000 < s.size) :
    Calls Try.prog 6 #[.int .i64 n, .string s] w fun e w' => e = .returned (.bool true) ∧ Below w.heap.size w w' := by
  have hI : ¬ (70000 : Int) < (s.size : Int) := by omega
  have C1 := Lib.hid (fun W => chain_any n s W (by omega))
  have C2 := Lib.hid (fun W => rchain_any n s W (by omega))
  have hl := chnE_len n s
  clear h
  generalize chnE [] n s = R at *
  go_enter Try.func6, Try.ntmps6
  go_wp2_with fail
  refine (awake_true w).mono ?_
  rintro e w1 ⟨rfl, b1⟩
  have HB := Lib.hid b1
  clear b1
  go_wp2_with fail
  refine (C1.out w1).mono ?_
  rintro e w2 ⟨v, x, rfl, hown, herr, b2⟩
  have HB2 := Lib.hid (HB.out.trans (b2.mono HB.out.size))
  have HX1 := Lib.hid (exs_own hown)
  have HE2 := Lib.hid herr
  clear b2 hown herr HB
  go_wp2_with fail
  refine (C2.out w2).mono ?_
  rintro e w3 ⟨v', rfl, hown, b3⟩
  have HB3 := Lib.hid (HB2.out.trans (b3.mono HB2.out.size))
  have HX2 := Lib.hid (exs_own hown)
  have HX3 := Lib.hid (HX1.out.below b3 (Nat.le_refl _))
  have HE3 := Lib.hid (HE2.out.below b3 (Nat.le_refl _))
  clear b3 hown HB2 HX1 HE2
  obtain ⟨ao, cap, rfl, _⟩ := id HX3.out
  obtain ⟨ao', cap', rfl, _⟩ := id HX2.out
  obtain ⟨V1, hV1⟩ : ∃ V, V = (pkE R.exts).vals (.slice ao R.exts.length cap) := ⟨_, rfl⟩
  obtain ⟨V2, hV2⟩ : ∃ V, V = (pkE R.exts).vals (.slice ao' R.exts.length cap') := ⟨_, rfl⟩
  have HEX : Hid (∀ (a : Act) (t : Nat) (d : Option Tmp) (ty : TypeId) (ps : String) (af : Array Edge) (W : World), a.eval (.tmp t) = .slice ao R.exts.length cap → (execOp a.eval { dst := d, op := .build 31 #[(5, .tmp t)], type := ty, pos := ps, after := af, guard := none }).run Try.prog W = .ok (.value (.agg V1.toArray)) W) := Lib.hid (fun a t d ty ps af W h1 => by rw [hV1]; exact Try.execX a t _ _ _ d ty ps af W h1)
  have HEY : Hid (∀ (a : Act) (t : Nat) (d : Option Tmp) (ty : TypeId) (ps : String) (af : Array Edge) (W : World), a.eval (.tmp t) = .slice ao' R.exts.length cap' → (execOp a.eval { dst := d, op := .build 31 #[(5, .tmp t)], type := ty, pos := ps, after := af, guard := none }).run Try.prog W = .ok (.value (.agg V2.toArray)) W) := Lib.hid (fun a t d ty ps af W h1 => by rw [hV2]; exact Try.execX a t _ _ _ d ty ps af W h1)
  have HV1 := Lib.hid hV1
  have HV2 := Lib.hid hV2
  have HS : Hid (Calls Try.prog 23 #[.agg V1.toArray, .agg V2.toArray] w3 fun e w' => e = .returned (.bool true) ∧ Below w3.heap.size w3 w') := Lib.hid (by rw [hV1, hV2]; exact rsame_true (pkE R.exts) _ _ w3 HX3.out HX2.out (by show R.exts.length ≤ _; omega))
  clear hV1 hV2
  go_wp2_with (first | (refine Great.wpList_readTo rfl _ rfl (.agg V1.toArray) (HEX.out _ _ _ _ _ _ _ rfl) ?_) | (refine Great.wpList_readTo rfl _ rfl (.agg V2.toArray) (HEY.out _ _ _ _ _ _ _ rfl) ?_))
  refine HS.out.mono ?_
  rintro e w4 ⟨rfl, b4⟩
  have HB4 := Lib.hid (HB3.out.trans (b4.mono HB3.out.size))
  have HE4 := Lib.hid (HE3.out.below b4 (Nat.le_refl _))
  clear b4 HB3 HE3 HS
  go_wp2_with fail
  refine (same_any HE4.out).mono ?_
  rintro e w5 ⟨rfl, rfl⟩
  go_wp2_with fail
  go_ret
  exact ⟨rfl, HB4.out⟩
theorem ip6Chains_any (n : Int) (s : ByteArray) (w : World) :
    Calls Try.prog 6 #[.int .i64 n, .string s] w fun e w' => e = .returned (.bool true) ∧ Below w.heap.size w w' := by
  by_cases h : 70000 < s.size
  · exact ip6Chains_long n s w h
  · exact ip6Chains_main n s w h
end Go.Proofs.Ytphemimpkbjfoaa
