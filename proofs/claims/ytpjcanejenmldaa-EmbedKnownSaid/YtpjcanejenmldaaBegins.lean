/-
  Proved here: what the program's begins answers.
  Conditions: an address of 16 bytes, a length that may be.
-/
import Derived.Test.YtpjcanejenmldaaMay
import Derived.Test.YtpjcanejenmldaaRefExtract
namespace Go.Proofs.Ytpjcanejenmldaa
open Go.RowKit

/-- An address whose bytes from c to k are noughts. -/
def bgn (x : List Int) (c k : Nat) : List Int := x.take c ++ (List.replicate (k - c) 0 ++ x.drop k)
theorem bgn_start (x : List Int) (c : Nat) : bgn x c c = x := by unfold bgn; rw [Nat.sub_self]; simp
theorem bgn_len (x : List Int) (c k : Nat) (hck : c ≤ k) (hk : k ≤ x.length) : (bgn x c k).length = x.length := by unfold bgn; simp; omega
theorem bgn_next (x : List Int) (c k : Nat) (hck : c ≤ k) (hk : k < x.length) : (bgn x c k).set k 0 = bgn x c (k + 1) := by
  unfold bgn
  have e : k + 1 - c = (k - c) + 1 := by omega
  rw [List.set_append_right _ _ (by simp; omega), List.set_append_right _ _ (by simp; omega), e, List.replicate_succ', List.drop_eq_getElem_cons hk]
  have e2 : k - (List.take c x).length - (List.replicate (k - c) (0 : Int)).length = 0 := by simp; omega
  rw [e2, List.set_cons_zero, List.append_assoc]
  rfl
/-- The first bytes of an address, noughts behind. -/
def beg (x : List Int) (n : Int) : List Int := bgn x (cut8 n) 16
/-- What is kept while an address is cut. -/
def BX (w0 : World) (B b c : Nat) (X Z : List Value) (w : World) : Prop := Below B w0 w ∧ B ≤ w.heap.size ∧ Bk w b 23 X.toArray ∧ Bk w c 23 Z.toArray
section
variable {w0 w : World} {B b c : Nat} {X Z : List Value}
theorem BX.new (w : World) (X Z : List Value) : BX w w.heap.size w.heap.size (w.heap.size + 1) X Z ((w.alloc (.cells X.toArray 23)).alloc (.cells Z.toArray 23)) := by
  have hs : (w.alloc (.cells X.toArray 23)).heap.size = w.heap.size + 1 := by simp
  refine ⟨((Below.refl _ _).alloc (Nat.le_refl _) _).alloc (by rw [hs]; omega) _, by simp; omega, (bk_new _ _ _).alloc _, ?_⟩
  have h := bk_new (w.alloc (.cells X.toArray 23)) 23 Z.toArray
  rwa [hs] at h
theorem BX.set {l : List Int} (h : BX w0 B b c (b8 l) Z w) (hB : B ≤ b) (hne : c ≠ b) (i : Nat) (v : Int) : BX w0 B b c (b8 (l.set i v)) Z (w.setCell ⟨b, i, none⟩ (.int .u8 v)) :=
  ⟨h.1.setCell (by exact hB) _, by have := h.2.1; simpa [World.setCell] using this, bk_set8 h.2.2.1 i v, Bk.set_other h.2.2.2 hne i _⟩
end
set_option maxRecDepth 100000 in
set_option maxHeartbeats 1000000 in
theorem begins_any (x : List Int) (n : Int) (hx : x.length = 16) (hn : okL n = true) (w : World) :
    Calls Try.prog 23 #[.agg (b8 x).toArray, .int .i64 n] w fun e w' => e = .returned (.agg (b8 (beg x n)).toArray) ∧ Below w.heap.size w w' := by
  obtain ⟨hc, k1⟩ := okL_cut hn
  have HR : Hid (beg x n = bgn x (cut8 n) 16) := Lib.hid rfl
  generalize beg x n = R at *
  have hbx := BX.new w (b8 x) ([.int .u8 0, .int .u8 0, .int .u8 0, .int .u8 0, .int .u8 0, .int .u8 0, .int .u8 0, .int .u8 0, .int .u8 0, .int .u8 0, .int .u8 0, .int .u8 0, .int .u8 0, .int .u8 0, .int .u8 0, .int .u8 0] : List Value)
  rw [← bgn_start x (cut8 n)] at hbx
  have HBX := Lib.hid hbx
  have HIx := Lib.hid (Try.infoSix x hx)
  have HZ6 : Hid ((Try.prog.info? 23).map (·.size) = some 16) := Lib.hid (Try.infoSix zero6 rfl)
  have HN := Lib.hid (fun k (h1 : cut8 n ≤ k) (h2 : k < 16) => bgn_next x (cut8 n) k h1 (by omega))
  have HLn := Lib.hid (fun k (h1 : cut8 n ≤ k) (h2 : k ≤ 16) => (bgn_len x (cut8 n) k h1 (by omega)).trans hx)
  clear hbx hn hx
  generalize cut8 n = N at *
  have k2 : IntKind.i64.wrap (N : Int) = (N : Int) := IntWalk.i64_in _ (by omega)
  have HN0 := Lib.hid hc
  clear hc
  have HX0 : Hid (bgn x N N = x) := Lib.hid (bgn_start x N)
  rw [HX0.out] at HBX
  generalize hX : b8 x = X at *
  have HX := Lib.hid hX
  clear hX
  generalize hw1 : (w.alloc (.cells X.toArray 23)).alloc (.cells ([.int .u8 0, .int .u8 0, .int .u8 0, .int .u8 0, .int .u8 0, .int .u8 0, .int .u8 0, .int .u8 0, .int .u8 0, .int .u8 0, .int .u8 0, .int .u8 0, .int .u8 0, .int .u8 0, .int .u8 0, .int .u8 0] : List Value).toArray 23) = w1 at *
  go_enter Try.func23, Try.ntmps23
  go_upto_region 2 with (fail)
  clear hw1
  go_loopw [5] (fun i wr => ∃ k : Nat, N ≤ k ∧ k ≤ 16 ∧ i = .int .i64 k ∧ BX w w.heap.size w.heap.size (w.heap.size + 1) (b8 (bgn x N k)) ([.int .u8 0, .int .u8 0, .int .u8 0, .int .u8 0, .int .u8 0, .int .u8 0, .int .u8 0, .int .u8 0, .int .u8 0, .int .u8 0, .int .u8 0, .int .u8 0, .int .u8 0, .int .u8 0, .int .u8 0, .int .u8 0] : List Value) wr) (fun i _ => 16 - (intOf i).toNat)
  case atStart => exact ⟨N, Nat.le_refl _, by have := HN0.out; omega, rfl, by rw [HX0.out, HX.out]; exact HBX.out⟩
  case round =>
    obtain ⟨k, hNk, hk, rfl, hbx⟩ := hrel
    have HB := Lib.hid hbx
    clear hbx HBX
    by_cases hlt : k < 16
    · have i16 : ((k : Nat) : Int) < 16 := by omega
      have cc := HB.out.2.2.1.at (i := k) (b8_at _ k (by rw [HLn.out k hNk hk]; exact hlt))
      have cz := HB.out.2.2.1.z k
      have hb2 := BX.set HB.out (Nat.le_refl _) (by omega) k 0
      rw [HN.out k hNk hlt] at hb2
      have HB2 := Lib.hid hb2
      clear hb2
      generalize (bgn x N k).getD k 0 = d at *
      go_wp2_with fail
      go_roundw
      case rel => exact ⟨k + 1, by omega, by omega, by go_num, HB2.out⟩
      case measure => simp [intOf]; omega
    · obtain rfl : k = 16 := by omega
      have hr := HB.out.2.2.1.range
      have ht : wr.there (w.heap.size + 1) 0 (b8 R).toArray.size := HB.out.2.2.2.there _ (by have := HLn.out 16 hNk hk; rw [HR.out]; simp only [List.size_toArray, b8_len]; rw [this]; exact Nat.le_refl _)
      rw [← HR.out] at hr
      have hlR : (b8 R).length = 16 := by rw [b8_len, HR.out]; exact HLn.out 16 hNk hk
      have HIR : Hid ((Try.prog.info? 23).map (·.size) = some (b8 R).length) := Lib.hid (by rw [hlR]; exact HZ6.out)
      have HOR := Lib.hid (b8_one R)
      have hk9 := Bk.sets (b8 R) 0 _ _ HB.out.2.2.2
      rw [puts_whole ([.int .u8 0, .int .u8 0, .int .u8 0, .int .u8 0, .int .u8 0, .int .u8 0, .int .u8 0, .int .u8 0, .int .u8 0, .int .u8 0, .int .u8 0, .int .u8 0, .int .u8 0, .int .u8 0, .int .u8 0, .int .u8 0] : List Value).toArray (b8 R) (by rw [hlR]; rfl)] at hk9
      have HK9 := Lib.hid hk9
      have HB9 := Lib.hid (below_sets (b := w.heap.size + 1) (b8 R) (by omega) 0 _ HB.out.1)
      clear hk9 hlR HB HR HLn HN
      generalize hVR : b8 R = VR at *
      have HVR := Lib.hid hVR
      clear hVR
      go_wp2_with (first | (refine wpList_load_mid rfl 23 _ rfl w.heap.size 0 rfl VR _ hr Try.underlying23 rfl HIR.out ?_) | (refine wpList_store_mid rfl 23 _ _ rfl (w.heap.size + 1) 0 VR.toArray rfl rfl ht (by simpa using HIR.out) HOR.out ?_))
      refine bodyPost_ret (v := .agg VR.toArray) ?_ rfl ⟨by rw [HVR.out], HB9.out⟩
      exact results_cell rfl rfl (run_loadVar_mid _ (w.heap.size + 1) 0 23 VR _ HK9.out.range Try.underlying23 rfl HIR.out)
end Go.Proofs.Ytpjcanejenmldaa
