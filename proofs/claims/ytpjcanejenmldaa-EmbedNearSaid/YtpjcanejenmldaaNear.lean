/-
  Proved here: the law EmbedNear answers true.
  Conditions: addresses of 16 bytes.
-/
import Derived.Test.YtpjcanejenmldaaDoes
import Derived.Test.YtpjcanejenmldaaOnce
namespace Go.Proofs.Ytpjcanejenmldaa
open Go.RowKit

theorem nset (A : List Int) (L : Int) (k : Nat) (v : Int) (hk : k < A.length) : (Nt.mk A L).vals.set k (.int .u8 v) = (Nt.mk (A.set k v) L).vals := by
  unfold Nt.vals
  rw [List.set_append_left _ _ (by rw [b8_len]; exact hk), b8_set]
theorem nsetL (A : List Int) (L M : Int) (hA : A.length = 16) : (Nt.mk A L).vals.set 16 (.int .i64 M) = (Nt.mk A M).vals := by
  unfold Nt.vals
  rw [List.set_append_right _ _ (by rw [b8_len, hA]; exact Nat.le_refl _), b8_len, hA]
  rfl
/-- The two blocks that the law makes over. -/
def KN (w0 : World) (b c : Nat) (A : List Int) (L : Int) (X : List Int) (w : World) : Prop := Kp w0 b [(c, 23, b8 X), (b, 26, (Nt.mk A L).vals)] w ∧ b ≠ c ∧ b ≤ c ∧ A.length = 16 ∧ X.length = 16
section
variable {w0 w w' : World} {b c : Nat} {A X : List Int} {L : Int}
theorem KN.below (h : KN w0 b c A L X w) (hb : Below w.heap.size w w') : KN w0 b c A L X w' := ⟨h.1.below hb (Nat.le_refl _), h.2⟩
theorem KN.alloc (h : KN w0 b c A L X w) (o : Obj) : KN w0 b c A L X (w.alloc o) := ⟨h.1.alloc o, h.2⟩
theorem KN.swap (h : KN w0 b c A L X w) : Kp w0 b [(b, 26, (Nt.mk A L).vals), (c, 23, b8 X)] w := h.1.sub (by intro y hy; simp only [List.mem_cons, List.not_mem_nil, or_false] at hy; rcases hy with rfl | rfl <;> simp)
theorem kn_back {w : World} {V : List Value} (h : Kp w0 b [(b, 26, V), (c, 23, b8 X)] w) : Kp w0 b [(c, 23, b8 X), (b, 26, V)] w := h.sub (by intro y hy; simp only [List.mem_cons, List.not_mem_nil, or_false] at hy; rcases hy with rfl | rfl <;> simp)
theorem KN.set0 (h : KN w0 b c A L X w) (k : Nat) (hk : k < 16) (v : Int) : KN w0 b c (A.set k v) L X (w.setCell ⟨b, k, none⟩ (.int .u8 v)) := by
  obtain ⟨h1, h2, h3, h4, h5⟩ := id h
  have h6 := h.swap.set1 (by intro y hy; rw [List.mem_singleton] at hy; rw [hy]; exact Ne.symm h2) (Nat.le_refl _) k (.int .u8 v)
  rw [nset A L k v (by omega)] at h6
  exact ⟨kn_back h6, h2, h3, by rw [List.length_set]; exact h4, h5⟩
theorem KN.setL (h : KN w0 b c A L X w) (M : Int) : KN w0 b c A M X (w.setCell ⟨b, 16, none⟩ (.int .i64 M)) := by
  obtain ⟨h1, h2, h3, h4, h5⟩ := id h
  have h6 := h.swap.set1 (by intro y hy; rw [List.mem_singleton] at hy; rw [hy]; exact Ne.symm h2) (Nat.le_refl _) 16 (.int .i64 M)
  rw [nsetL A L M h4] at h6
  exact ⟨kn_back h6, h2, h3, h4, h5⟩
theorem KN.set1 (h : KN w0 b c A L X w) (k : Nat) (v : Int) : KN w0 b c A L (X.set k v) (w.setCell ⟨c, k, none⟩ (.int .u8 v)) := by
  obtain ⟨h1, h2, h3, h4, h5⟩ := id h
  exact ⟨h1.set8 (by intro y hy; rw [List.mem_singleton] at hy; rw [hy]; exact h2) h3 k v, h2, h3, h4, by rw [List.length_set]; exact h5⟩
theorem KN.c0 (h : KN w0 b c A L X w) (k : Nat) (hk : k < 16) : w.cell? ⟨b, k, none⟩ = some (.int .u8 (A.getD k 0)) := h.swap.hd.at (nvals_at ⟨A, L⟩ h.2.2.2.1 k hk)
theorem KN.cL (h : KN w0 b c A L X w) : w.cell? ⟨b, 16, none⟩ = some (.int .i64 L) := h.swap.hd.at (nvals_ln ⟨A, L⟩ h.2.2.2.1)
theorem KN.c1 (h : KN w0 b c A L X w) (k : Nat) (hk : k < 16) : w.cell? ⟨c, k, none⟩ = some (.int .u8 (X.getD k 0)) := h.1.hd.at (b8_at X k (by have := h.2.2.2.2; omega))
theorem KN.z0 (h : KN w0 b c A L X w) (k : Nat) : w.frozen? ⟨b, k, none⟩ = false := h.swap.hd.z k
theorem KN.z1 (h : KN w0 b c A L X w) (k : Nat) : w.frozen? ⟨c, k, none⟩ = false := h.1.hd.z k
end
/-- A prefix's address, made one that may be, byte by byte. -/
def na (N : Nat) (A : List Int) : Nat → List Int
  | 0 => A
  | k + 1 => if N ≤ k ∨ k = 8 then (na N A k).set k 0 else na N A k
theorem na_right (A : List Int) (hA : A.length = 16) (L : Int) (hL : okL L = true) : (Nt.mk (na (cut8 L) A 16) L).right = true := by
  obtain ⟨x0, x1, x2, x3, x4, x5, x6, x7, x8, x9, x10, x11, x12, x13, x14, x15, rfl⟩ := list16 hA
  rcases okL_cases hL with rfl | rfl | rfl | rfl | rfl | rfl <;>
  simp [Nt.right, okL, cut8, nil8, na]
set_option maxRecDepth 100000 in
set_option maxHeartbeats 4000000 in
theorem embedNear_any (p : Nt) (x : List Int) (n at' by' : Int) (w : World) (hp : p.ad.length = 16) (hx : x.length = 16) (hn : (Lit.int .u8 n).wf = true) (ha : (Lit.int .u8 at').wf = true) (_ : (Lit.int .u8 by').wf = true) :
    Calls Try.prog 5 #[.agg p.vals.toArray, .agg (b8 x).toArray, .int .u8 n, .int .u8 at', .int .u8 by'] w fun e w' => e = .returned (.bool true) ∧ Below w.heap.size w w' := by
  have hn' : 0 ≤ n ∧ n ≤ 255 := by simpa [Lit.wf, IntKind.min, IntKind.max, IntKind.signed, IntKind.bits] using hn
  have ha' : 0 ≤ at' ∧ at' ≤ 255 := by simpa [Lit.wf, IntKind.min, IntKind.max, IntKind.signed, IntKind.bits] using ha
  obtain ⟨at2, rfl⟩ : ∃ m : Nat, at' = m := ⟨at'.toNat, by omega⟩
  obtain ⟨m, hm, hm16⟩ : ∃ m : Nat, ((at2 : Nat) : Int).tmod 16 = (m : Int) ∧ m < 16 := ⟨at2 % 16, by rw [Int.tmod_eq_emod_of_nonneg (by omega)]; omega, Nat.mod_lt _ (by omega)⟩
  have i16 : (m : Int) < 16 := by omega
  obtain ⟨j, hj, hj6⟩ : ∃ j : Nat, n.tmod 6 = (j : Int) ∧ j < 6 := ⟨n.toNat % 6, by rw [Int.tmod_eq_emod_of_nonneg (by omega)]; omega, Nat.mod_lt _ (by omega)⟩
  have HA := Lib.hid awake_true
  have HD := Lib.hid (fun (p : Nt) (a x : List Int) W hp ha hx => embedDoes_any p a x W hp ha hx)
  have HRt := Lib.hid (fun (p : Nt) hp W => right_any p hp W)
  obtain ⟨A, L⟩ := p
  have HKN : Hid (KN w w.heap.size (w.heap.size + 1) A L x ((w.alloc (.cells (Nt.mk A L).vals.toArray 26)).alloc (.cells (b8 x).toArray 23))) := Lib.hid ⟨kp2 w 26 23 _ _, by omega, by omega, hp, hx⟩
  have HNA := Lib.hid (na_right A hp)
  clear hp hx hn ha hn' ha'
  generalize hw1 : (w.alloc (.cells (Nt.mk A L).vals.toArray 26)).alloc (.cells (b8 x).toArray 23) = w1 at *
  generalize hV : (Nt.mk A L).vals = V at *
  generalize hX : b8 x = X at *
  clear hV hX
  go_enter Try.func5, Try.ntmps5
  go_wp2_with fail
  clear hw1
  refine (HA.out _).mono ?_
  rintro e w2 ⟨rfl, bb⟩
  have HK2 := Lib.hid (HKN.out.below bb)
  clear bb HKN HA
  have hj' : j = 0 ∨ j = 1 ∨ j = 2 ∨ j = 3 ∨ j = 4 ∨ j = 5 := by omega
  clear hj6
  rcases hj' with rfl | rfl | rfl | rfl | rfl | rfl
  · have hK3 := HK2.out.alloc (.cells #[.int .i64 32, .int .i64 40, .int .i64 48, .int .i64 56, .int .i64 64, .int .i64 96] 3)
    have cL := hK3.cL
    have zL := hK3.z0 16
    have HK3 := Lib.hid (hK3.setL 32)
    have HNr : Hid ((Nt.mk (na 4 A 16) 32).right = true) := Lib.hid (HNA.out 32 rfl)
    have k1 : (32 : Int).tdiv 8 = 4 := by decide
    clear hK3 HK2 HNA
    go_upto_region 4 with (fail)
    clear cL zL hj
    generalize (w2.alloc (.cells #[.int .i64 32, .int .i64 40, .int .i64 48, .int .i64 56, .int .i64 64, .int .i64 96] 3)).setCell ⟨w.heap.size, 16, none⟩ (.int .i64 32) = w3 at *
    go_wp2_with fail
    go_loopw [11] (fun i wr => ∃ k : Nat, k ≤ 16 ∧ i = .int .i64 k ∧ ∃ Y, KN w w.heap.size (w.heap.size + 1) (na 4 A k) 32 Y wr) (fun i _ => 16 - (intOf i).toNat)
    case atStart => exact ⟨0, by omega, rfl, x, HK3.out⟩
    case round =>
      obtain ⟨k, hk, rfl, Y, hY⟩ := hrel
      have HY := Lib.hid hY
      clear hY HK3
      by_cases hlt : k < 16
      · have j16 : ((k : Nat) : Int) < 16 := by omega
        have cL := HY.out.cL
        by_cases hN : 4 ≤ k
        · have hN1 : (4 : Int) ≤ ((k : Nat) : Int) := by omega
          have hN2 : ¬ ((k : Nat) : Int) < 4 := by omega
          by_cases h8 : k = 8
          · subst h8
            have c0 := HY.out.c0 8 hlt
            have z0 := HY.out.z0 8
            have HY1 := Lib.hid (HY.out.set0 8 hlt 0)
            generalize (na 4 A 8).getD 8 0 = d0 at *
            have HA1 : Hid ((na 4 A 8).set 8 0 = na 4 A (8 + 1)) := Lib.hid (by show _ = (if 4 ≤ 8 ∨ 8 = 8 then _ else _); rw [if_pos (by omega)])
            go_upto_region 9 with (fail)
            rw [HA1.out] at HY1
            clear c0 z0 HY HA1 cL
            generalize wr.setCell ⟨w.heap.size, 8, none⟩ (.int .u8 0) = wq at *
            have cL := HY1.out.cL
            have c0 := HY1.out.c0 8 hlt
            have c1 := HY1.out.c1 8 hlt
            have z1 := HY1.out.z1 8
            generalize (na 4 A (8 + 1)).getD 8 0 = d1 at *
            generalize Y.getD 8 0 = d2 at *
            have HY2 := Lib.hid (HY1.out.set1 8 d1)
            clear HY1
            go_wp2_with fail
            go_roundw
            case rel => exact ⟨8 + 1, by omega, by go_num, _, HY2.out⟩
            case measure => simp [intOf]
          · have h9 : ¬ ((k : Nat) : Int) = 8 := by omega
            have c0 := HY.out.c0 k hlt
            have z0 := HY.out.z0 k
            have HY1 := Lib.hid (HY.out.set0 k hlt 0)
            generalize (na 4 A k).getD k 0 = d0 at *
            have HA1 : Hid ((na 4 A k).set k 0 = na 4 A (k + 1)) := Lib.hid (by show _ = (if 4 ≤ k ∨ k = 8 then _ else _); rw [if_pos (by omega)])
            go_upto_region 9 with (fail)
            rw [HA1.out] at HY1
            clear c0 z0 HY HA1 cL
            generalize wr.setCell ⟨w.heap.size, k, none⟩ (.int .u8 0) = wq at *
            have cL := HY1.out.cL
            have HY2 := HY1
            clear HY1
            go_wp2_with fail
            go_roundw
            case rel => exact ⟨k + 1, by omega, by go_num, _, HY2.out⟩
            case measure => simp [intOf]; omega
        · have hN1 : ¬ (4 : Int) ≤ ((k : Nat) : Int) := by omega
          have hN2 : ((k : Nat) : Int) < 4 := by omega
          have h9 : ¬ ((k : Nat) : Int) = 8 := by omega
          have HA1 : Hid (na 4 A k = na 4 A (k + 1)) := Lib.hid (by show _ = (if 4 ≤ k ∨ k = 8 then _ else _); rw [if_neg (by omega)])
          go_upto_region 9 with (fail)
          have HY1 := HY
          rw [HA1.out] at HY1
          clear HY HA1 cL
          have cL := HY1.out.cL
          have c0 := HY1.out.c0 k hlt
          have c1 := HY1.out.c1 k hlt
          have z1 := HY1.out.z1 k
          generalize (na 4 A (k + 1)).getD k 0 = d1 at *
          generalize Y.getD k 0 = d2 at *
          have HY2 := Lib.hid (HY1.out.set1 k d1)
          clear HY1
          go_wp2_with fail
          go_roundw
          case rel => exact ⟨k + 1, by omega, by go_num, _, HY2.out⟩
          case measure => simp [intOf]; omega
      · obtain rfl : k = 16 := by omega
        have c1 := HY.out.c1 m hm16
        have z1 := HY.out.z1 m
        generalize Y.getD m 0 = d1 at *
        have HX := Lib.hid (HY.out.set1 m (bits .xor .u8 d1 by'))
        clear HY
        go_upto_region 12 with (fail)
        clear c1 z1 i16
        generalize wr.setCell ⟨w.heap.size + 1, m, none⟩ (.int .u8 (bits .xor .u8 d1 by')) = w5 at *
        generalize Y.set m (bits .xor .u8 d1 by') = Y5 at *
        generalize na 4 A 16 = A5 at *
        have hl5 := HX.out.2.2.2.1
        have hx5 := HX.out.2.2.2.2
        have hRt := HRt.out ⟨A5, 32⟩ hl5
        rw [HNr.out] at hRt
        have HR := Lib.hid hRt
        have HDD : Hid (∀ W, Calls Try.prog 4 #[.agg (Nt.mk A5 32).vals.toArray, .agg #[.int .u8 (Y5.getD 1 0), .int .u8 (Y5.getD 5 0), .int .u8 (Y5.getD 9 0), .int .u8 (Y5.getD 13 0)], .agg (b8 Y5).toArray] W fun e w' => e = .returned (.bool true) ∧ Below W.heap.size W w') := Lib.hid (fun W => HD.out ⟨A5, 32⟩ [Y5.getD 1 0, Y5.getD 5 0, Y5.getD 9 0, Y5.getD 13 0] Y5 W hl5 rfl hx5)
        have HY1 := Lib.hid (b8_at Y5 1 (by omega))
        have HY5 := Lib.hid (b8_at Y5 5 (by omega))
        have HY9 := Lib.hid (b8_at Y5 9 (by omega))
        have HY13 := Lib.hid (b8_at Y5 13 (by omega))
        have HIN := Lib.hid (Try.infoNet ⟨A5, 32⟩ hl5)
        have HIX := Lib.hid (Try.infoSix Y5 hx5)
        have HK5 := Lib.hid HX.out.swap
        clear hl5 hx5 hRt HRt HD HNr HX
        generalize (Nt.mk A5 32).vals = VN at *
        generalize Y5.getD 1 0 = y1 at *
        generalize Y5.getD 5 0 = y5 at *
        generalize Y5.getD 9 0 = y9 at *
        generalize Y5.getD 13 0 = y13 at *
        generalize b8 Y5 = VY at *
        have hr0 := HK5.out.hd.range
        go_wp2_with ((refine wpList_load_mid rfl 26 _ rfl (w.heap.size) 0 rfl VN _ hr0 Try.underlying26 rfl HIN.out ?_))
        clear hr0
        refine (HR.out _).mono ?_
        rintro e w6 ⟨rfl, bb⟩
        have HK6 := Lib.hid (HK5.out.below bb (Nat.le_refl _))
        clear bb HK5
        have hr0 := HK6.out.hd.range
        have hr1 := HK6.out.tl.hd.range
        have cy1 := HK6.out.tl.hd.at HY1.out
        have cy5 := HK6.out.tl.hd.at HY5.out
        have cy9 := HK6.out.tl.hd.at HY9.out
        have cy13 := HK6.out.tl.hd.at HY13.out
        go_wp2_with (first | (refine wpList_load_if (by rfl) 26 _ rfl (w.heap.size) 0 rfl VN _ hr0 Try.underlying26 rfl HIN.out ?_) | (refine wpList_load_if (by rfl) 23 _ rfl (w.heap.size + 1) 0 rfl VY _ hr1 Try.underlying23 rfl HIX.out ?_))
        clear hr0 hr1 cy1 cy5 cy9 cy13
        refine (HDD.out _).mono ?_
        rintro e w7 ⟨rfl, bb⟩
        have HK7 := Lib.hid (HK6.out.below bb (Nat.le_refl _))
        clear bb HK6
        go_wp2_with fail
        go_ret
        exact ⟨rfl, HK7.out.2.1⟩
  · have hK3 := HK2.out.alloc (.cells #[.int .i64 32, .int .i64 40, .int .i64 48, .int .i64 56, .int .i64 64, .int .i64 96] 3)
    have cL := hK3.cL
    have zL := hK3.z0 16
    have HK3 := Lib.hid (hK3.setL 40)
    have HNr : Hid ((Nt.mk (na 5 A 16) 40).right = true) := Lib.hid (HNA.out 40 rfl)
    have k1 : (40 : Int).tdiv 8 = 5 := by decide
    clear hK3 HK2 HNA
    go_upto_region 4 with (fail)
    clear cL zL hj
    generalize (w2.alloc (.cells #[.int .i64 32, .int .i64 40, .int .i64 48, .int .i64 56, .int .i64 64, .int .i64 96] 3)).setCell ⟨w.heap.size, 16, none⟩ (.int .i64 40) = w3 at *
    go_wp2_with fail
    go_loopw [11] (fun i wr => ∃ k : Nat, k ≤ 16 ∧ i = .int .i64 k ∧ ∃ Y, KN w w.heap.size (w.heap.size + 1) (na 5 A k) 40 Y wr) (fun i _ => 16 - (intOf i).toNat)
    case atStart => exact ⟨0, by omega, rfl, x, HK3.out⟩
    case round =>
      obtain ⟨k, hk, rfl, Y, hY⟩ := hrel
      have HY := Lib.hid hY
      clear hY HK3
      by_cases hlt : k < 16
      · have j16 : ((k : Nat) : Int) < 16 := by omega
        have cL := HY.out.cL
        by_cases hN : 5 ≤ k
        · have hN1 : (5 : Int) ≤ ((k : Nat) : Int) := by omega
          have hN2 : ¬ ((k : Nat) : Int) < 5 := by omega
          by_cases h8 : k = 8
          · subst h8
            have c0 := HY.out.c0 8 hlt
            have z0 := HY.out.z0 8
            have HY1 := Lib.hid (HY.out.set0 8 hlt 0)
            generalize (na 5 A 8).getD 8 0 = d0 at *
            have HA1 : Hid ((na 5 A 8).set 8 0 = na 5 A (8 + 1)) := Lib.hid (by show _ = (if 5 ≤ 8 ∨ 8 = 8 then _ else _); rw [if_pos (by omega)])
            go_upto_region 9 with (fail)
            rw [HA1.out] at HY1
            clear c0 z0 HY HA1 cL
            generalize wr.setCell ⟨w.heap.size, 8, none⟩ (.int .u8 0) = wq at *
            have cL := HY1.out.cL
            have c0 := HY1.out.c0 8 hlt
            have c1 := HY1.out.c1 8 hlt
            have z1 := HY1.out.z1 8
            generalize (na 5 A (8 + 1)).getD 8 0 = d1 at *
            generalize Y.getD 8 0 = d2 at *
            have HY2 := Lib.hid (HY1.out.set1 8 d1)
            clear HY1
            go_wp2_with fail
            go_roundw
            case rel => exact ⟨8 + 1, by omega, by go_num, _, HY2.out⟩
            case measure => simp [intOf]
          · have h9 : ¬ ((k : Nat) : Int) = 8 := by omega
            have c0 := HY.out.c0 k hlt
            have z0 := HY.out.z0 k
            have HY1 := Lib.hid (HY.out.set0 k hlt 0)
            generalize (na 5 A k).getD k 0 = d0 at *
            have HA1 : Hid ((na 5 A k).set k 0 = na 5 A (k + 1)) := Lib.hid (by show _ = (if 5 ≤ k ∨ k = 8 then _ else _); rw [if_pos (by omega)])
            go_upto_region 9 with (fail)
            rw [HA1.out] at HY1
            clear c0 z0 HY HA1 cL
            generalize wr.setCell ⟨w.heap.size, k, none⟩ (.int .u8 0) = wq at *
            have cL := HY1.out.cL
            have HY2 := HY1
            clear HY1
            go_wp2_with fail
            go_roundw
            case rel => exact ⟨k + 1, by omega, by go_num, _, HY2.out⟩
            case measure => simp [intOf]; omega
        · have hN1 : ¬ (5 : Int) ≤ ((k : Nat) : Int) := by omega
          have hN2 : ((k : Nat) : Int) < 5 := by omega
          have h9 : ¬ ((k : Nat) : Int) = 8 := by omega
          have HA1 : Hid (na 5 A k = na 5 A (k + 1)) := Lib.hid (by show _ = (if 5 ≤ k ∨ k = 8 then _ else _); rw [if_neg (by omega)])
          go_upto_region 9 with (fail)
          have HY1 := HY
          rw [HA1.out] at HY1
          clear HY HA1 cL
          have cL := HY1.out.cL
          have c0 := HY1.out.c0 k hlt
          have c1 := HY1.out.c1 k hlt
          have z1 := HY1.out.z1 k
          generalize (na 5 A (k + 1)).getD k 0 = d1 at *
          generalize Y.getD k 0 = d2 at *
          have HY2 := Lib.hid (HY1.out.set1 k d1)
          clear HY1
          go_wp2_with fail
          go_roundw
          case rel => exact ⟨k + 1, by omega, by go_num, _, HY2.out⟩
          case measure => simp [intOf]; omega
      · obtain rfl : k = 16 := by omega
        have c1 := HY.out.c1 m hm16
        have z1 := HY.out.z1 m
        generalize Y.getD m 0 = d1 at *
        have HX := Lib.hid (HY.out.set1 m (bits .xor .u8 d1 by'))
        clear HY
        go_upto_region 12 with (fail)
        clear c1 z1 i16
        generalize wr.setCell ⟨w.heap.size + 1, m, none⟩ (.int .u8 (bits .xor .u8 d1 by')) = w5 at *
        generalize Y.set m (bits .xor .u8 d1 by') = Y5 at *
        generalize na 5 A 16 = A5 at *
        have hl5 := HX.out.2.2.2.1
        have hx5 := HX.out.2.2.2.2
        have hRt := HRt.out ⟨A5, 40⟩ hl5
        rw [HNr.out] at hRt
        have HR := Lib.hid hRt
        have HDD : Hid (∀ W, Calls Try.prog 4 #[.agg (Nt.mk A5 40).vals.toArray, .agg #[.int .u8 (Y5.getD 1 0), .int .u8 (Y5.getD 5 0), .int .u8 (Y5.getD 9 0), .int .u8 (Y5.getD 13 0)], .agg (b8 Y5).toArray] W fun e w' => e = .returned (.bool true) ∧ Below W.heap.size W w') := Lib.hid (fun W => HD.out ⟨A5, 40⟩ [Y5.getD 1 0, Y5.getD 5 0, Y5.getD 9 0, Y5.getD 13 0] Y5 W hl5 rfl hx5)
        have HY1 := Lib.hid (b8_at Y5 1 (by omega))
        have HY5 := Lib.hid (b8_at Y5 5 (by omega))
        have HY9 := Lib.hid (b8_at Y5 9 (by omega))
        have HY13 := Lib.hid (b8_at Y5 13 (by omega))
        have HIN := Lib.hid (Try.infoNet ⟨A5, 40⟩ hl5)
        have HIX := Lib.hid (Try.infoSix Y5 hx5)
        have HK5 := Lib.hid HX.out.swap
        clear hl5 hx5 hRt HRt HD HNr HX
        generalize (Nt.mk A5 40).vals = VN at *
        generalize Y5.getD 1 0 = y1 at *
        generalize Y5.getD 5 0 = y5 at *
        generalize Y5.getD 9 0 = y9 at *
        generalize Y5.getD 13 0 = y13 at *
        generalize b8 Y5 = VY at *
        have hr0 := HK5.out.hd.range
        go_wp2_with ((refine wpList_load_mid rfl 26 _ rfl (w.heap.size) 0 rfl VN _ hr0 Try.underlying26 rfl HIN.out ?_))
        clear hr0
        refine (HR.out _).mono ?_
        rintro e w6 ⟨rfl, bb⟩
        have HK6 := Lib.hid (HK5.out.below bb (Nat.le_refl _))
        clear bb HK5
        have hr0 := HK6.out.hd.range
        have hr1 := HK6.out.tl.hd.range
        have cy1 := HK6.out.tl.hd.at HY1.out
        have cy5 := HK6.out.tl.hd.at HY5.out
        have cy9 := HK6.out.tl.hd.at HY9.out
        have cy13 := HK6.out.tl.hd.at HY13.out
        go_wp2_with (first | (refine wpList_load_if (by rfl) 26 _ rfl (w.heap.size) 0 rfl VN _ hr0 Try.underlying26 rfl HIN.out ?_) | (refine wpList_load_if (by rfl) 23 _ rfl (w.heap.size + 1) 0 rfl VY _ hr1 Try.underlying23 rfl HIX.out ?_))
        clear hr0 hr1 cy1 cy5 cy9 cy13
        refine (HDD.out _).mono ?_
        rintro e w7 ⟨rfl, bb⟩
        have HK7 := Lib.hid (HK6.out.below bb (Nat.le_refl _))
        clear bb HK6
        go_wp2_with fail
        go_ret
        exact ⟨rfl, HK7.out.2.1⟩
  · have hK3 := HK2.out.alloc (.cells #[.int .i64 32, .int .i64 40, .int .i64 48, .int .i64 56, .int .i64 64, .int .i64 96] 3)
    have cL := hK3.cL
    have zL := hK3.z0 16
    have HK3 := Lib.hid (hK3.setL 48)
    have HNr : Hid ((Nt.mk (na 6 A 16) 48).right = true) := Lib.hid (HNA.out 48 rfl)
    have k1 : (48 : Int).tdiv 8 = 6 := by decide
    clear hK3 HK2 HNA
    go_upto_region 4 with (fail)
    clear cL zL hj
    generalize (w2.alloc (.cells #[.int .i64 32, .int .i64 40, .int .i64 48, .int .i64 56, .int .i64 64, .int .i64 96] 3)).setCell ⟨w.heap.size, 16, none⟩ (.int .i64 48) = w3 at *
    go_wp2_with fail
    go_loopw [11] (fun i wr => ∃ k : Nat, k ≤ 16 ∧ i = .int .i64 k ∧ ∃ Y, KN w w.heap.size (w.heap.size + 1) (na 6 A k) 48 Y wr) (fun i _ => 16 - (intOf i).toNat)
    case atStart => exact ⟨0, by omega, rfl, x, HK3.out⟩
    case round =>
      obtain ⟨k, hk, rfl, Y, hY⟩ := hrel
      have HY := Lib.hid hY
      clear hY HK3
      by_cases hlt : k < 16
      · have j16 : ((k : Nat) : Int) < 16 := by omega
        have cL := HY.out.cL
        by_cases hN : 6 ≤ k
        · have hN1 : (6 : Int) ≤ ((k : Nat) : Int) := by omega
          have hN2 : ¬ ((k : Nat) : Int) < 6 := by omega
          by_cases h8 : k = 8
          · subst h8
            have c0 := HY.out.c0 8 hlt
            have z0 := HY.out.z0 8
            have HY1 := Lib.hid (HY.out.set0 8 hlt 0)
            generalize (na 6 A 8).getD 8 0 = d0 at *
            have HA1 : Hid ((na 6 A 8).set 8 0 = na 6 A (8 + 1)) := Lib.hid (by show _ = (if 6 ≤ 8 ∨ 8 = 8 then _ else _); rw [if_pos (by omega)])
            go_upto_region 9 with (fail)
            rw [HA1.out] at HY1
            clear c0 z0 HY HA1 cL
            generalize wr.setCell ⟨w.heap.size, 8, none⟩ (.int .u8 0) = wq at *
            have cL := HY1.out.cL
            have c0 := HY1.out.c0 8 hlt
            have c1 := HY1.out.c1 8 hlt
            have z1 := HY1.out.z1 8
            generalize (na 6 A (8 + 1)).getD 8 0 = d1 at *
            generalize Y.getD 8 0 = d2 at *
            have HY2 := Lib.hid (HY1.out.set1 8 d1)
            clear HY1
            go_wp2_with fail
            go_roundw
            case rel => exact ⟨8 + 1, by omega, by go_num, _, HY2.out⟩
            case measure => simp [intOf]
          · have h9 : ¬ ((k : Nat) : Int) = 8 := by omega
            have c0 := HY.out.c0 k hlt
            have z0 := HY.out.z0 k
            have HY1 := Lib.hid (HY.out.set0 k hlt 0)
            generalize (na 6 A k).getD k 0 = d0 at *
            have HA1 : Hid ((na 6 A k).set k 0 = na 6 A (k + 1)) := Lib.hid (by show _ = (if 6 ≤ k ∨ k = 8 then _ else _); rw [if_pos (by omega)])
            go_upto_region 9 with (fail)
            rw [HA1.out] at HY1
            clear c0 z0 HY HA1 cL
            generalize wr.setCell ⟨w.heap.size, k, none⟩ (.int .u8 0) = wq at *
            have cL := HY1.out.cL
            have HY2 := HY1
            clear HY1
            go_wp2_with fail
            go_roundw
            case rel => exact ⟨k + 1, by omega, by go_num, _, HY2.out⟩
            case measure => simp [intOf]; omega
        · have hN1 : ¬ (6 : Int) ≤ ((k : Nat) : Int) := by omega
          have hN2 : ((k : Nat) : Int) < 6 := by omega
          have h9 : ¬ ((k : Nat) : Int) = 8 := by omega
          have HA1 : Hid (na 6 A k = na 6 A (k + 1)) := Lib.hid (by show _ = (if 6 ≤ k ∨ k = 8 then _ else _); rw [if_neg (by omega)])
          go_upto_region 9 with (fail)
          have HY1 := HY
          rw [HA1.out] at HY1
          clear HY HA1 cL
          have cL := HY1.out.cL
          have c0 := HY1.out.c0 k hlt
          have c1 := HY1.out.c1 k hlt
          have z1 := HY1.out.z1 k
          generalize (na 6 A (k + 1)).getD k 0 = d1 at *
          generalize Y.getD k 0 = d2 at *
          have HY2 := Lib.hid (HY1.out.set1 k d1)
          clear HY1
          go_wp2_with fail
          go_roundw
          case rel => exact ⟨k + 1, by omega, by go_num, _, HY2.out⟩
          case measure => simp [intOf]; omega
      · obtain rfl : k = 16 := by omega
        have c1 := HY.out.c1 m hm16
        have z1 := HY.out.z1 m
        generalize Y.getD m 0 = d1 at *
        have HX := Lib.hid (HY.out.set1 m (bits .xor .u8 d1 by'))
        clear HY
        go_upto_region 12 with (fail)
        clear c1 z1 i16
        generalize wr.setCell ⟨w.heap.size + 1, m, none⟩ (.int .u8 (bits .xor .u8 d1 by')) = w5 at *
        generalize Y.set m (bits .xor .u8 d1 by') = Y5 at *
        generalize na 6 A 16 = A5 at *
        have hl5 := HX.out.2.2.2.1
        have hx5 := HX.out.2.2.2.2
        have hRt := HRt.out ⟨A5, 48⟩ hl5
        rw [HNr.out] at hRt
        have HR := Lib.hid hRt
        have HDD : Hid (∀ W, Calls Try.prog 4 #[.agg (Nt.mk A5 48).vals.toArray, .agg #[.int .u8 (Y5.getD 1 0), .int .u8 (Y5.getD 5 0), .int .u8 (Y5.getD 9 0), .int .u8 (Y5.getD 13 0)], .agg (b8 Y5).toArray] W fun e w' => e = .returned (.bool true) ∧ Below W.heap.size W w') := Lib.hid (fun W => HD.out ⟨A5, 48⟩ [Y5.getD 1 0, Y5.getD 5 0, Y5.getD 9 0, Y5.getD 13 0] Y5 W hl5 rfl hx5)
        have HY1 := Lib.hid (b8_at Y5 1 (by omega))
        have HY5 := Lib.hid (b8_at Y5 5 (by omega))
        have HY9 := Lib.hid (b8_at Y5 9 (by omega))
        have HY13 := Lib.hid (b8_at Y5 13 (by omega))
        have HIN := Lib.hid (Try.infoNet ⟨A5, 48⟩ hl5)
        have HIX := Lib.hid (Try.infoSix Y5 hx5)
        have HK5 := Lib.hid HX.out.swap
        clear hl5 hx5 hRt HRt HD HNr HX
        generalize (Nt.mk A5 48).vals = VN at *
        generalize Y5.getD 1 0 = y1 at *
        generalize Y5.getD 5 0 = y5 at *
        generalize Y5.getD 9 0 = y9 at *
        generalize Y5.getD 13 0 = y13 at *
        generalize b8 Y5 = VY at *
        have hr0 := HK5.out.hd.range
        go_wp2_with ((refine wpList_load_mid rfl 26 _ rfl (w.heap.size) 0 rfl VN _ hr0 Try.underlying26 rfl HIN.out ?_))
        clear hr0
        refine (HR.out _).mono ?_
        rintro e w6 ⟨rfl, bb⟩
        have HK6 := Lib.hid (HK5.out.below bb (Nat.le_refl _))
        clear bb HK5
        have hr0 := HK6.out.hd.range
        have hr1 := HK6.out.tl.hd.range
        have cy1 := HK6.out.tl.hd.at HY1.out
        have cy5 := HK6.out.tl.hd.at HY5.out
        have cy9 := HK6.out.tl.hd.at HY9.out
        have cy13 := HK6.out.tl.hd.at HY13.out
        go_wp2_with (first | (refine wpList_load_if (by rfl) 26 _ rfl (w.heap.size) 0 rfl VN _ hr0 Try.underlying26 rfl HIN.out ?_) | (refine wpList_load_if (by rfl) 23 _ rfl (w.heap.size + 1) 0 rfl VY _ hr1 Try.underlying23 rfl HIX.out ?_))
        clear hr0 hr1 cy1 cy5 cy9 cy13
        refine (HDD.out _).mono ?_
        rintro e w7 ⟨rfl, bb⟩
        have HK7 := Lib.hid (HK6.out.below bb (Nat.le_refl _))
        clear bb HK6
        go_wp2_with fail
        go_ret
        exact ⟨rfl, HK7.out.2.1⟩
  · have hK3 := HK2.out.alloc (.cells #[.int .i64 32, .int .i64 40, .int .i64 48, .int .i64 56, .int .i64 64, .int .i64 96] 3)
    have cL := hK3.cL
    have zL := hK3.z0 16
    have HK3 := Lib.hid (hK3.setL 56)
    have HNr : Hid ((Nt.mk (na 7 A 16) 56).right = true) := Lib.hid (HNA.out 56 rfl)
    have k1 : (56 : Int).tdiv 8 = 7 := by decide
    clear hK3 HK2 HNA
    go_upto_region 4 with (fail)
    clear cL zL hj
    generalize (w2.alloc (.cells #[.int .i64 32, .int .i64 40, .int .i64 48, .int .i64 56, .int .i64 64, .int .i64 96] 3)).setCell ⟨w.heap.size, 16, none⟩ (.int .i64 56) = w3 at *
    go_wp2_with fail
    go_loopw [11] (fun i wr => ∃ k : Nat, k ≤ 16 ∧ i = .int .i64 k ∧ ∃ Y, KN w w.heap.size (w.heap.size + 1) (na 7 A k) 56 Y wr) (fun i _ => 16 - (intOf i).toNat)
    case atStart => exact ⟨0, by omega, rfl, x, HK3.out⟩
    case round =>
      obtain ⟨k, hk, rfl, Y, hY⟩ := hrel
      have HY := Lib.hid hY
      clear hY HK3
      by_cases hlt : k < 16
      · have j16 : ((k : Nat) : Int) < 16 := by omega
        have cL := HY.out.cL
        by_cases hN : 7 ≤ k
        · have hN1 : (7 : Int) ≤ ((k : Nat) : Int) := by omega
          have hN2 : ¬ ((k : Nat) : Int) < 7 := by omega
          by_cases h8 : k = 8
          · subst h8
            have c0 := HY.out.c0 8 hlt
            have z0 := HY.out.z0 8
            have HY1 := Lib.hid (HY.out.set0 8 hlt 0)
            generalize (na 7 A 8).getD 8 0 = d0 at *
            have HA1 : Hid ((na 7 A 8).set 8 0 = na 7 A (8 + 1)) := Lib.hid (by show _ = (if 7 ≤ 8 ∨ 8 = 8 then _ else _); rw [if_pos (by omega)])
            go_upto_region 9 with (fail)
            rw [HA1.out] at HY1
            clear c0 z0 HY HA1 cL
            generalize wr.setCell ⟨w.heap.size, 8, none⟩ (.int .u8 0) = wq at *
            have cL := HY1.out.cL
            have c0 := HY1.out.c0 8 hlt
            have c1 := HY1.out.c1 8 hlt
            have z1 := HY1.out.z1 8
            generalize (na 7 A (8 + 1)).getD 8 0 = d1 at *
            generalize Y.getD 8 0 = d2 at *
            have HY2 := Lib.hid (HY1.out.set1 8 d1)
            clear HY1
            go_wp2_with fail
            go_roundw
            case rel => exact ⟨8 + 1, by omega, by go_num, _, HY2.out⟩
            case measure => simp [intOf]
          · have h9 : ¬ ((k : Nat) : Int) = 8 := by omega
            have c0 := HY.out.c0 k hlt
            have z0 := HY.out.z0 k
            have HY1 := Lib.hid (HY.out.set0 k hlt 0)
            generalize (na 7 A k).getD k 0 = d0 at *
            have HA1 : Hid ((na 7 A k).set k 0 = na 7 A (k + 1)) := Lib.hid (by show _ = (if 7 ≤ k ∨ k = 8 then _ else _); rw [if_pos (by omega)])
            go_upto_region 9 with (fail)
            rw [HA1.out] at HY1
            clear c0 z0 HY HA1 cL
            generalize wr.setCell ⟨w.heap.size, k, none⟩ (.int .u8 0) = wq at *
            have cL := HY1.out.cL
            have HY2 := HY1
            clear HY1
            go_wp2_with fail
            go_roundw
            case rel => exact ⟨k + 1, by omega, by go_num, _, HY2.out⟩
            case measure => simp [intOf]; omega
        · have hN1 : ¬ (7 : Int) ≤ ((k : Nat) : Int) := by omega
          have hN2 : ((k : Nat) : Int) < 7 := by omega
          have h9 : ¬ ((k : Nat) : Int) = 8 := by omega
          have HA1 : Hid (na 7 A k = na 7 A (k + 1)) := Lib.hid (by show _ = (if 7 ≤ k ∨ k = 8 then _ else _); rw [if_neg (by omega)])
          go_upto_region 9 with (fail)
          have HY1 := HY
          rw [HA1.out] at HY1
          clear HY HA1 cL
          have cL := HY1.out.cL
          have c0 := HY1.out.c0 k hlt
          have c1 := HY1.out.c1 k hlt
          have z1 := HY1.out.z1 k
          generalize (na 7 A (k + 1)).getD k 0 = d1 at *
          generalize Y.getD k 0 = d2 at *
          have HY2 := Lib.hid (HY1.out.set1 k d1)
          clear HY1
          go_wp2_with fail
          go_roundw
          case rel => exact ⟨k + 1, by omega, by go_num, _, HY2.out⟩
          case measure => simp [intOf]; omega
      · obtain rfl : k = 16 := by omega
        have c1 := HY.out.c1 m hm16
        have z1 := HY.out.z1 m
        generalize Y.getD m 0 = d1 at *
        have HX := Lib.hid (HY.out.set1 m (bits .xor .u8 d1 by'))
        clear HY
        go_upto_region 12 with (fail)
        clear c1 z1 i16
        generalize wr.setCell ⟨w.heap.size + 1, m, none⟩ (.int .u8 (bits .xor .u8 d1 by')) = w5 at *
        generalize Y.set m (bits .xor .u8 d1 by') = Y5 at *
        generalize na 7 A 16 = A5 at *
        have hl5 := HX.out.2.2.2.1
        have hx5 := HX.out.2.2.2.2
        have hRt := HRt.out ⟨A5, 56⟩ hl5
        rw [HNr.out] at hRt
        have HR := Lib.hid hRt
        have HDD : Hid (∀ W, Calls Try.prog 4 #[.agg (Nt.mk A5 56).vals.toArray, .agg #[.int .u8 (Y5.getD 1 0), .int .u8 (Y5.getD 5 0), .int .u8 (Y5.getD 9 0), .int .u8 (Y5.getD 13 0)], .agg (b8 Y5).toArray] W fun e w' => e = .returned (.bool true) ∧ Below W.heap.size W w') := Lib.hid (fun W => HD.out ⟨A5, 56⟩ [Y5.getD 1 0, Y5.getD 5 0, Y5.getD 9 0, Y5.getD 13 0] Y5 W hl5 rfl hx5)
        have HY1 := Lib.hid (b8_at Y5 1 (by omega))
        have HY5 := Lib.hid (b8_at Y5 5 (by omega))
        have HY9 := Lib.hid (b8_at Y5 9 (by omega))
        have HY13 := Lib.hid (b8_at Y5 13 (by omega))
        have HIN := Lib.hid (Try.infoNet ⟨A5, 56⟩ hl5)
        have HIX := Lib.hid (Try.infoSix Y5 hx5)
        have HK5 := Lib.hid HX.out.swap
        clear hl5 hx5 hRt HRt HD HNr HX
        generalize (Nt.mk A5 56).vals = VN at *
        generalize Y5.getD 1 0 = y1 at *
        generalize Y5.getD 5 0 = y5 at *
        generalize Y5.getD 9 0 = y9 at *
        generalize Y5.getD 13 0 = y13 at *
        generalize b8 Y5 = VY at *
        have hr0 := HK5.out.hd.range
        go_wp2_with ((refine wpList_load_mid rfl 26 _ rfl (w.heap.size) 0 rfl VN _ hr0 Try.underlying26 rfl HIN.out ?_))
        clear hr0
        refine (HR.out _).mono ?_
        rintro e w6 ⟨rfl, bb⟩
        have HK6 := Lib.hid (HK5.out.below bb (Nat.le_refl _))
        clear bb HK5
        have hr0 := HK6.out.hd.range
        have hr1 := HK6.out.tl.hd.range
        have cy1 := HK6.out.tl.hd.at HY1.out
        have cy5 := HK6.out.tl.hd.at HY5.out
        have cy9 := HK6.out.tl.hd.at HY9.out
        have cy13 := HK6.out.tl.hd.at HY13.out
        go_wp2_with (first | (refine wpList_load_if (by rfl) 26 _ rfl (w.heap.size) 0 rfl VN _ hr0 Try.underlying26 rfl HIN.out ?_) | (refine wpList_load_if (by rfl) 23 _ rfl (w.heap.size + 1) 0 rfl VY _ hr1 Try.underlying23 rfl HIX.out ?_))
        clear hr0 hr1 cy1 cy5 cy9 cy13
        refine (HDD.out _).mono ?_
        rintro e w7 ⟨rfl, bb⟩
        have HK7 := Lib.hid (HK6.out.below bb (Nat.le_refl _))
        clear bb HK6
        go_wp2_with fail
        go_ret
        exact ⟨rfl, HK7.out.2.1⟩
  · have hK3 := HK2.out.alloc (.cells #[.int .i64 32, .int .i64 40, .int .i64 48, .int .i64 56, .int .i64 64, .int .i64 96] 3)
    have cL := hK3.cL
    have zL := hK3.z0 16
    have HK3 := Lib.hid (hK3.setL 64)
    have HNr : Hid ((Nt.mk (na 8 A 16) 64).right = true) := Lib.hid (HNA.out 64 rfl)
    have k1 : (64 : Int).tdiv 8 = 8 := by decide
    clear hK3 HK2 HNA
    go_upto_region 4 with (fail)
    clear cL zL hj
    generalize (w2.alloc (.cells #[.int .i64 32, .int .i64 40, .int .i64 48, .int .i64 56, .int .i64 64, .int .i64 96] 3)).setCell ⟨w.heap.size, 16, none⟩ (.int .i64 64) = w3 at *
    go_wp2_with fail
    go_loopw [11] (fun i wr => ∃ k : Nat, k ≤ 16 ∧ i = .int .i64 k ∧ ∃ Y, KN w w.heap.size (w.heap.size + 1) (na 8 A k) 64 Y wr) (fun i _ => 16 - (intOf i).toNat)
    case atStart => exact ⟨0, by omega, rfl, x, HK3.out⟩
    case round =>
      obtain ⟨k, hk, rfl, Y, hY⟩ := hrel
      have HY := Lib.hid hY
      clear hY HK3
      by_cases hlt : k < 16
      · have j16 : ((k : Nat) : Int) < 16 := by omega
        have cL := HY.out.cL
        by_cases hN : 8 ≤ k
        · have hN1 : (8 : Int) ≤ ((k : Nat) : Int) := by omega
          have hN2 : ¬ ((k : Nat) : Int) < 8 := by omega
          by_cases h8 : k = 8
          · subst h8
            have c0 := HY.out.c0 8 hlt
            have z0 := HY.out.z0 8
            have HY1 := Lib.hid (HY.out.set0 8 hlt 0)
            generalize (na 8 A 8).getD 8 0 = d0 at *
            have HA1 : Hid ((na 8 A 8).set 8 0 = na 8 A (8 + 1)) := Lib.hid (by show _ = (if 8 ≤ 8 ∨ 8 = 8 then _ else _); rw [if_pos (by omega)])
            go_upto_region 9 with (fail)
            rw [HA1.out] at HY1
            clear c0 z0 HY HA1 cL
            generalize wr.setCell ⟨w.heap.size, 8, none⟩ (.int .u8 0) = wq at *
            have cL := HY1.out.cL
            have c0 := HY1.out.c0 8 hlt
            have c1 := HY1.out.c1 8 hlt
            have z1 := HY1.out.z1 8
            generalize (na 8 A (8 + 1)).getD 8 0 = d1 at *
            generalize Y.getD 8 0 = d2 at *
            have HY2 := Lib.hid (HY1.out.set1 8 d1)
            clear HY1
            go_wp2_with fail
            go_roundw
            case rel => exact ⟨8 + 1, by omega, by go_num, _, HY2.out⟩
            case measure => simp [intOf]
          · have h9 : ¬ ((k : Nat) : Int) = 8 := by omega
            have c0 := HY.out.c0 k hlt
            have z0 := HY.out.z0 k
            have HY1 := Lib.hid (HY.out.set0 k hlt 0)
            generalize (na 8 A k).getD k 0 = d0 at *
            have HA1 : Hid ((na 8 A k).set k 0 = na 8 A (k + 1)) := Lib.hid (by show _ = (if 8 ≤ k ∨ k = 8 then _ else _); rw [if_pos (by omega)])
            go_upto_region 9 with (fail)
            rw [HA1.out] at HY1
            clear c0 z0 HY HA1 cL
            generalize wr.setCell ⟨w.heap.size, k, none⟩ (.int .u8 0) = wq at *
            have cL := HY1.out.cL
            have HY2 := HY1
            clear HY1
            go_wp2_with fail
            go_roundw
            case rel => exact ⟨k + 1, by omega, by go_num, _, HY2.out⟩
            case measure => simp [intOf]; omega
        · have hN1 : ¬ (8 : Int) ≤ ((k : Nat) : Int) := by omega
          have hN2 : ((k : Nat) : Int) < 8 := by omega
          have h9 : ¬ ((k : Nat) : Int) = 8 := by omega
          have HA1 : Hid (na 8 A k = na 8 A (k + 1)) := Lib.hid (by show _ = (if 8 ≤ k ∨ k = 8 then _ else _); rw [if_neg (by omega)])
          go_upto_region 9 with (fail)
          have HY1 := HY
          rw [HA1.out] at HY1
          clear HY HA1 cL
          have cL := HY1.out.cL
          have c0 := HY1.out.c0 k hlt
          have c1 := HY1.out.c1 k hlt
          have z1 := HY1.out.z1 k
          generalize (na 8 A (k + 1)).getD k 0 = d1 at *
          generalize Y.getD k 0 = d2 at *
          have HY2 := Lib.hid (HY1.out.set1 k d1)
          clear HY1
          go_wp2_with fail
          go_roundw
          case rel => exact ⟨k + 1, by omega, by go_num, _, HY2.out⟩
          case measure => simp [intOf]; omega
      · obtain rfl : k = 16 := by omega
        have c1 := HY.out.c1 m hm16
        have z1 := HY.out.z1 m
        generalize Y.getD m 0 = d1 at *
        have HX := Lib.hid (HY.out.set1 m (bits .xor .u8 d1 by'))
        clear HY
        go_upto_region 12 with (fail)
        clear c1 z1 i16
        generalize wr.setCell ⟨w.heap.size + 1, m, none⟩ (.int .u8 (bits .xor .u8 d1 by')) = w5 at *
        generalize Y.set m (bits .xor .u8 d1 by') = Y5 at *
        generalize na 8 A 16 = A5 at *
        have hl5 := HX.out.2.2.2.1
        have hx5 := HX.out.2.2.2.2
        have hRt := HRt.out ⟨A5, 64⟩ hl5
        rw [HNr.out] at hRt
        have HR := Lib.hid hRt
        have HDD : Hid (∀ W, Calls Try.prog 4 #[.agg (Nt.mk A5 64).vals.toArray, .agg #[.int .u8 (Y5.getD 1 0), .int .u8 (Y5.getD 5 0), .int .u8 (Y5.getD 9 0), .int .u8 (Y5.getD 13 0)], .agg (b8 Y5).toArray] W fun e w' => e = .returned (.bool true) ∧ Below W.heap.size W w') := Lib.hid (fun W => HD.out ⟨A5, 64⟩ [Y5.getD 1 0, Y5.getD 5 0, Y5.getD 9 0, Y5.getD 13 0] Y5 W hl5 rfl hx5)
        have HY1 := Lib.hid (b8_at Y5 1 (by omega))
        have HY5 := Lib.hid (b8_at Y5 5 (by omega))
        have HY9 := Lib.hid (b8_at Y5 9 (by omega))
        have HY13 := Lib.hid (b8_at Y5 13 (by omega))
        have HIN := Lib.hid (Try.infoNet ⟨A5, 64⟩ hl5)
        have HIX := Lib.hid (Try.infoSix Y5 hx5)
        have HK5 := Lib.hid HX.out.swap
        clear hl5 hx5 hRt HRt HD HNr HX
        generalize (Nt.mk A5 64).vals = VN at *
        generalize Y5.getD 1 0 = y1 at *
        generalize Y5.getD 5 0 = y5 at *
        generalize Y5.getD 9 0 = y9 at *
        generalize Y5.getD 13 0 = y13 at *
        generalize b8 Y5 = VY at *
        have hr0 := HK5.out.hd.range
        go_wp2_with ((refine wpList_load_mid rfl 26 _ rfl (w.heap.size) 0 rfl VN _ hr0 Try.underlying26 rfl HIN.out ?_))
        clear hr0
        refine (HR.out _).mono ?_
        rintro e w6 ⟨rfl, bb⟩
        have HK6 := Lib.hid (HK5.out.below bb (Nat.le_refl _))
        clear bb HK5
        have hr0 := HK6.out.hd.range
        have hr1 := HK6.out.tl.hd.range
        have cy1 := HK6.out.tl.hd.at HY1.out
        have cy5 := HK6.out.tl.hd.at HY5.out
        have cy9 := HK6.out.tl.hd.at HY9.out
        have cy13 := HK6.out.tl.hd.at HY13.out
        go_wp2_with (first | (refine wpList_load_if (by rfl) 26 _ rfl (w.heap.size) 0 rfl VN _ hr0 Try.underlying26 rfl HIN.out ?_) | (refine wpList_load_if (by rfl) 23 _ rfl (w.heap.size + 1) 0 rfl VY _ hr1 Try.underlying23 rfl HIX.out ?_))
        clear hr0 hr1 cy1 cy5 cy9 cy13
        refine (HDD.out _).mono ?_
        rintro e w7 ⟨rfl, bb⟩
        have HK7 := Lib.hid (HK6.out.below bb (Nat.le_refl _))
        clear bb HK6
        go_wp2_with fail
        go_ret
        exact ⟨rfl, HK7.out.2.1⟩
  · have hK3 := HK2.out.alloc (.cells #[.int .i64 32, .int .i64 40, .int .i64 48, .int .i64 56, .int .i64 64, .int .i64 96] 3)
    have cL := hK3.cL
    have zL := hK3.z0 16
    have HK3 := Lib.hid (hK3.setL 96)
    have HNr : Hid ((Nt.mk (na 12 A 16) 96).right = true) := Lib.hid (HNA.out 96 rfl)
    have k1 : (96 : Int).tdiv 8 = 12 := by decide
    clear hK3 HK2 HNA
    go_upto_region 4 with (fail)
    clear cL zL hj
    generalize (w2.alloc (.cells #[.int .i64 32, .int .i64 40, .int .i64 48, .int .i64 56, .int .i64 64, .int .i64 96] 3)).setCell ⟨w.heap.size, 16, none⟩ (.int .i64 96) = w3 at *
    go_wp2_with fail
    go_loopw [11] (fun i wr => ∃ k : Nat, k ≤ 16 ∧ i = .int .i64 k ∧ ∃ Y, KN w w.heap.size (w.heap.size + 1) (na 12 A k) 96 Y wr) (fun i _ => 16 - (intOf i).toNat)
    case atStart => exact ⟨0, by omega, rfl, x, HK3.out⟩
    case round =>
      obtain ⟨k, hk, rfl, Y, hY⟩ := hrel
      have HY := Lib.hid hY
      clear hY HK3
      by_cases hlt : k < 16
      · have j16 : ((k : Nat) : Int) < 16 := by omega
        have cL := HY.out.cL
        by_cases hN : 12 ≤ k
        · have hN1 : (12 : Int) ≤ ((k : Nat) : Int) := by omega
          have hN2 : ¬ ((k : Nat) : Int) < 12 := by omega
          have h9 : ¬ ((k : Nat) : Int) = 8 := by omega
          have c0 := HY.out.c0 k hlt
          have z0 := HY.out.z0 k
          have HY1 := Lib.hid (HY.out.set0 k hlt 0)
          generalize (na 12 A k).getD k 0 = d0 at *
          have HA1 : Hid ((na 12 A k).set k 0 = na 12 A (k + 1)) := Lib.hid (by show _ = (if 12 ≤ k ∨ k = 8 then _ else _); rw [if_pos (by omega)])
          go_upto_region 9 with (fail)
          rw [HA1.out] at HY1
          clear c0 z0 HY HA1 cL
          generalize wr.setCell ⟨w.heap.size, k, none⟩ (.int .u8 0) = wq at *
          have cL := HY1.out.cL
          have HY2 := HY1
          clear HY1
          go_wp2_with fail
          go_roundw
          case rel => exact ⟨k + 1, by omega, by go_num, _, HY2.out⟩
          case measure => simp [intOf]; omega
        · have hN1 : ¬ (12 : Int) ≤ ((k : Nat) : Int) := by omega
          have hN2 : ((k : Nat) : Int) < 12 := by omega
          by_cases h8 : k = 8
          · subst h8
            have c0 := HY.out.c0 8 hlt
            have z0 := HY.out.z0 8
            have HY1 := Lib.hid (HY.out.set0 8 hlt 0)
            generalize (na 12 A 8).getD 8 0 = d0 at *
            have HA1 : Hid ((na 12 A 8).set 8 0 = na 12 A (8 + 1)) := Lib.hid (by show _ = (if 12 ≤ 8 ∨ 8 = 8 then _ else _); rw [if_pos (by omega)])
            go_upto_region 9 with (fail)
            rw [HA1.out] at HY1
            clear c0 z0 HY HA1 cL
            generalize wr.setCell ⟨w.heap.size, 8, none⟩ (.int .u8 0) = wq at *
            have cL := HY1.out.cL
            have c0 := HY1.out.c0 8 hlt
            have c1 := HY1.out.c1 8 hlt
            have z1 := HY1.out.z1 8
            generalize (na 12 A (8 + 1)).getD 8 0 = d1 at *
            generalize Y.getD 8 0 = d2 at *
            have HY2 := Lib.hid (HY1.out.set1 8 d1)
            clear HY1
            go_wp2_with fail
            go_roundw
            case rel => exact ⟨8 + 1, by omega, by go_num, _, HY2.out⟩
            case measure => simp [intOf]
          · have h9 : ¬ ((k : Nat) : Int) = 8 := by omega
            have HA1 : Hid (na 12 A k = na 12 A (k + 1)) := Lib.hid (by show _ = (if 12 ≤ k ∨ k = 8 then _ else _); rw [if_neg (by omega)])
            go_upto_region 9 with (fail)
            have HY1 := HY
            rw [HA1.out] at HY1
            clear HY HA1 cL
            have cL := HY1.out.cL
            have c0 := HY1.out.c0 k hlt
            have c1 := HY1.out.c1 k hlt
            have z1 := HY1.out.z1 k
            generalize (na 12 A (k + 1)).getD k 0 = d1 at *
            generalize Y.getD k 0 = d2 at *
            have HY2 := Lib.hid (HY1.out.set1 k d1)
            clear HY1
            go_wp2_with fail
            go_roundw
            case rel => exact ⟨k + 1, by omega, by go_num, _, HY2.out⟩
            case measure => simp [intOf]; omega
      · obtain rfl : k = 16 := by omega
        have c1 := HY.out.c1 m hm16
        have z1 := HY.out.z1 m
        generalize Y.getD m 0 = d1 at *
        have HX := Lib.hid (HY.out.set1 m (bits .xor .u8 d1 by'))
        clear HY
        go_upto_region 12 with (fail)
        clear c1 z1 i16
        generalize wr.setCell ⟨w.heap.size + 1, m, none⟩ (.int .u8 (bits .xor .u8 d1 by')) = w5 at *
        generalize Y.set m (bits .xor .u8 d1 by') = Y5 at *
        generalize na 12 A 16 = A5 at *
        have hl5 := HX.out.2.2.2.1
        have hx5 := HX.out.2.2.2.2
        have hRt := HRt.out ⟨A5, 96⟩ hl5
        rw [HNr.out] at hRt
        have HR := Lib.hid hRt
        have HDD : Hid (∀ W, Calls Try.prog 4 #[.agg (Nt.mk A5 96).vals.toArray, .agg #[.int .u8 (Y5.getD 1 0), .int .u8 (Y5.getD 5 0), .int .u8 (Y5.getD 9 0), .int .u8 (Y5.getD 13 0)], .agg (b8 Y5).toArray] W fun e w' => e = .returned (.bool true) ∧ Below W.heap.size W w') := Lib.hid (fun W => HD.out ⟨A5, 96⟩ [Y5.getD 1 0, Y5.getD 5 0, Y5.getD 9 0, Y5.getD 13 0] Y5 W hl5 rfl hx5)
        have HY1 := Lib.hid (b8_at Y5 1 (by omega))
        have HY5 := Lib.hid (b8_at Y5 5 (by omega))
        have HY9 := Lib.hid (b8_at Y5 9 (by omega))
        have HY13 := Lib.hid (b8_at Y5 13 (by omega))
        have HIN := Lib.hid (Try.infoNet ⟨A5, 96⟩ hl5)
        have HIX := Lib.hid (Try.infoSix Y5 hx5)
        have HK5 := Lib.hid HX.out.swap
        clear hl5 hx5 hRt HRt HD HNr HX
        generalize (Nt.mk A5 96).vals = VN at *
        generalize Y5.getD 1 0 = y1 at *
        generalize Y5.getD 5 0 = y5 at *
        generalize Y5.getD 9 0 = y9 at *
        generalize Y5.getD 13 0 = y13 at *
        generalize b8 Y5 = VY at *
        have hr0 := HK5.out.hd.range
        go_wp2_with ((refine wpList_load_mid rfl 26 _ rfl (w.heap.size) 0 rfl VN _ hr0 Try.underlying26 rfl HIN.out ?_))
        clear hr0
        refine (HR.out _).mono ?_
        rintro e w6 ⟨rfl, bb⟩
        have HK6 := Lib.hid (HK5.out.below bb (Nat.le_refl _))
        clear bb HK5
        have hr0 := HK6.out.hd.range
        have hr1 := HK6.out.tl.hd.range
        have cy1 := HK6.out.tl.hd.at HY1.out
        have cy5 := HK6.out.tl.hd.at HY5.out
        have cy9 := HK6.out.tl.hd.at HY9.out
        have cy13 := HK6.out.tl.hd.at HY13.out
        go_wp2_with (first | (refine wpList_load_if (by rfl) 26 _ rfl (w.heap.size) 0 rfl VN _ hr0 Try.underlying26 rfl HIN.out ?_) | (refine wpList_load_if (by rfl) 23 _ rfl (w.heap.size + 1) 0 rfl VY _ hr1 Try.underlying23 rfl HIX.out ?_))
        clear hr0 hr1 cy1 cy5 cy9 cy13
        refine (HDD.out _).mono ?_
        rintro e w7 ⟨rfl, bb⟩
        have HK7 := Lib.hid (HK6.out.below bb (Nat.le_refl _))
        clear bb HK6
        go_wp2_with fail
        go_ret
        exact ⟨rfl, HK7.out.2.1⟩
end Go.Proofs.Ytpjcanejenmldaa
