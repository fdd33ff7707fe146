/-
  Proved here: what the document's Parse6 answers.
  Conditions: a text of at most 70000 bytes.
-/
import Derived.Test.YtchdagdmbjpmcaaDoorP6
import Derived.Test.YtchdagdmbjpmcaaDoorParse4
import Derived.Test.YtchdagdmbjpmcaaDoorFirst
import Derived.Test.YtchdagdmbjpmcaaDoorPut
import Derived.Deep.CutBlock
import Derived.Deep.DeepCutAuto
namespace Go.Proofs.YtchdagdmbjpmcaaDoor
open Go.RowKit

def gapI : Option Nat → Int
  | none => -1
  | some g => (g : Int)
theorem two_bytes (x : Int) (h0 : 0 ≤ x) (h1 : x < 65536) : x.tdiv 256 = x / 256 ∧ x.tmod 256 = x % 256 ∧ IntKind.u8.wrap (x / 256) = x / 256 ∧ IntKind.u8.wrap (x % 256) = x % 256 := by
  refine ⟨Int.tdiv_eq_ediv_of_nonneg h0, Int.tmod_eq_emod_of_nonneg h0, ?_, ?_⟩
  · have a : 0 ≤ x / 256 := by omega
    have b : x / 256 < 256 := by omega
    generalize x / 256 = y at *
    unfold IntKind.wrap IntKind.bits IntKind.signed
    simp
    omega
  · have a : 0 ≤ x % 256 := by omega
    have b : x % 256 < 256 := by omega
    generalize x % 256 = y at *
    unfold IntKind.wrap IntKind.bits IntKind.signed
    simp
    omega
theorem own_not2 {w : World} {b : Nat} {T1 T2 : TypeId} {V1 V2 : List Value} {e : TypeId} {size : Nat} {v : Value} {n : Nat} {xs : List Value} (h : w.ownsRow (b + 1 + 1) e size v n xs) : ∀ x ∈ [(b + 1, T1, V1), (b, T2, V2)], some x.1 ≠ v.ownBlock := by
  intro x hx he
  have h1 := (h.lt x.1 he.symm).1
  simp at hx
  rcases hx with rfl | rfl
  · have : b + 1 + 1 ≤ b + 1 := h1
    omega
  · have : b + 1 + 1 ≤ b := h1
    omega
theorem own_base2 {w : World} {b : Nat} {e : TypeId} {size : Nat} {v : Value} {n : Nat} {xs : List Value} (h : w.ownsRow (b + 1 + 1) e size v n xs) : ∀ k, v.ownBlock = some k → b ≤ k := fun k hk => by have := (h.lt k hk).1; omega
/-- What the answer is, by what was read. -/
def P6R (R : Option (List Int × Option Nat)) (VR : List Value) (ok : Bool) : Prop :=
  (R = none → VR = ([.int .u8 0, .int .u8 0, .int .u8 0, .int .u8 0, .int .u8 0, .int .u8 0, .int .u8 0, .int .u8 0, .int .u8 0, .int .u8 0, .int .u8 0, .int .u8 0, .int .u8 0, .int .u8 0, .int .u8 0, .int .u8 0] : List Value) ∧ ok = false) ∧ (∀ l g, R = some (l, g) → p6fits (some (l, g)) = false → VR = ([.int .u8 0, .int .u8 0, .int .u8 0, .int .u8 0, .int .u8 0, .int .u8 0, .int .u8 0, .int .u8 0, .int .u8 0, .int .u8 0, .int .u8 0, .int .u8 0, .int .u8 0, .int .u8 0, .int .u8 0, .int .u8 0] : List Value) ∧ ok = false) ∧ (∀ l g, R = some (l, g) → p6fits (some (l, g)) = true → VR = b8 (p6put l g l.length) ∧ ok = true)
theorem p6r (s : ByteArray) : P6R (p6of s) (b8 (val6 s)) (ok6 s) := by
  refine ⟨fun h => ?_, fun l g h hf => ?_, fun l g h hf => ?_⟩
  · unfold val6 ok6; rw [h]; exact ⟨rfl, rfl⟩
  · unfold val6 ok6; rw [h]; dsimp only; rw [hf]; exact ⟨rfl, rfl⟩
  · unfold val6 ok6; rw [h]; dsimp only; rw [hf]; exact ⟨rfl, rfl⟩
set_option maxRecDepth 100000 in
set_option maxHeartbeats 8000000 in
theorem rparse6_any (s : ByteArray) (w : World) (hs : s.size ≤ 70000) :
    Calls Tryd.prog 81 #[.string s] w fun e w' => e = .returned (.tuple #[.agg (b8 (val6 s)).toArray, .bool (ok6 s)]) ∧ Below w.heap.size w w' := by
  obtain ⟨i0, hi0, hz0, hz1, hz2⟩ := info_parts Tryd.infoInt
  have HI := Lib.hid hi0
  have H0 := Lib.hid hz0
  have H1 := Lib.hid hz1
  have H2 := Lib.hid hz2
  clear hi0 hz0 hz1 hz2
  have HP := Lib.hid (p6r s)
  have HSt : Hid (p6of s = p6go (s.size + 1) ((bl s).drop (p6at s)) [] (p6gap s)) := Lib.hid rfl
  generalize p6of s = R at *
  generalize hVR : b8 (val6 s) = VR at *
  have HVR := Lib.hid hVR
  clear hVR
  generalize hok : ok6 s = ok at *
  have Hok := Lib.hid hok
  clear hok
  have HZ6 : Hid ((Tryd.prog.info? 23).map (·.size) = some 16) := Lib.hid (Tryd.infoSix [0, 0, 0, 0, 0, 0, 0, 0, 0, 0, 0, 0, 0, 0, 0, 0] rfl)
  obtain ⟨Z, hZ⟩ : ∃ Z, Z = ([.int .u8 0, .int .u8 0, .int .u8 0, .int .u8 0, .int .u8 0, .int .u8 0, .int .u8 0, .int .u8 0, .int .u8 0, .int .u8 0, .int .u8 0, .int .u8 0, .int .u8 0, .int .u8 0, .int .u8 0, .int .u8 0] : List Value) := ⟨_, rfl⟩
  have HO6 : Hid (Z.toArray.all (·.oneCell') = true) := Lib.hid (by rw [hZ]; simp [Value.oneCell'])
  have HLZ : Hid (Z.length = 16) := Lib.hid (by rw [hZ]; rfl)
  have HIZ : Hid ((Tryd.prog.info? 23).map (·.size) = some Z.length) := Lib.hid (by rw [hZ]; exact HZ6.out)
  have hK1 := kp2 w 23 23 ([.int .u8 0, .int .u8 0, .int .u8 0, .int .u8 0, .int .u8 0, .int .u8 0, .int .u8 0, .int .u8 0, .int .u8 0, .int .u8 0, .int .u8 0, .int .u8 0, .int .u8 0, .int .u8 0, .int .u8 0, .int .u8 0] : List Value) ([.int .u8 0, .int .u8 0, .int .u8 0, .int .u8 0, .int .u8 0, .int .u8 0, .int .u8 0, .int .u8 0, .int .u8 0, .int .u8 0, .int .u8 0, .int .u8 0, .int .u8 0, .int .u8 0, .int .u8 0, .int .u8 0] : List Value)
  have hS1 : w.heap.size + 1 + 1 ≤ ((w.alloc (.cells (([.int .u8 0, .int .u8 0, .int .u8 0, .int .u8 0, .int .u8 0, .int .u8 0, .int .u8 0, .int .u8 0, .int .u8 0, .int .u8 0, .int .u8 0, .int .u8 0, .int .u8 0, .int .u8 0, .int .u8 0, .int .u8 0] : List Value)).toArray 23)).alloc (.cells (([.int .u8 0, .int .u8 0, .int .u8 0, .int .u8 0, .int .u8 0, .int .u8 0, .int .u8 0, .int .u8 0, .int .u8 0, .int .u8 0, .int .u8 0, .int .u8 0, .int .u8 0, .int .u8 0, .int .u8 0, .int .u8 0] : List Value)).toArray 23)).heap.size := by simp
  generalize hw1 : (w.alloc (.cells (([.int .u8 0, .int .u8 0, .int .u8 0, .int .u8 0, .int .u8 0, .int .u8 0, .int .u8 0, .int .u8 0, .int .u8 0, .int .u8 0, .int .u8 0, .int .u8 0, .int .u8 0, .int .u8 0, .int .u8 0, .int .u8 0] : List Value)).toArray 23)).alloc (.cells (([.int .u8 0, .int .u8 0, .int .u8 0, .int .u8 0, .int .u8 0, .int .u8 0, .int .u8 0, .int .u8 0, .int .u8 0, .int .u8 0, .int .u8 0, .int .u8 0, .int .u8 0, .int .u8 0, .int .u8 0, .int .u8 0] : List Value)).toArray 23) = w1 at *
  rw [← hZ] at hK1
  have HPZ : Hid (b8 (p6put [] none 0) = Z) := Lib.hid (by rw [hZ]; rfl)
  unfold P6R at HP
  rw [← hZ] at HP
  have HK1 := Lib.hid hK1
  have HS1 := Lib.hid hS1
  clear hK1 hS1 hZ
  obtain ⟨B, hB⟩ : ∃ B, B = decide ((bl s).take 2 = [58, 58]) := ⟨_, rfl⟩
  have HB := Lib.hid hB
  clear hB
  go_enter Tryd.func81, Tryd.ntmps81
  go_upto_region 5 with (fail)
  clear hw1
  go_cut [19] from 12 (fun t w' => t = .bool B ∧ Kp w w.heap.size [(w.heap.size + 1, 23, Z), (w.heap.size, 23, Z)] w' ∧ w.heap.size + 1 + 1 ≤ w'.heap.size)
  case first =>
    by_cases h2 : 2 ≤ s.size
    · have i2 : (2 : Int) ≤ (s.size : Int) := by omega
      have d2 := decide_eq_true i2
      have HE : Hid (((s.extract 0 2).toList == [58, 58]) = B) := Lib.hid (by
        rw [HB.out, ByteArray.toList_eq, ext_list, List.drop_zero, Bool.eq_iff_iff, beq_iff_eq, decide_eq_true_eq]
        exact Iff.rfl)
      go_wp2_with fail
      go_meet
      case rel => exact ⟨by rw [HE.out], HK1.out, HS1.out⟩
    · have i2 : ¬ (2 : Int) ≤ (s.size : Int) := by omega
      have d2 := decide_eq_false i2
      have HE : Hid (B = false) := Lib.hid (by
        rw [HB.out]
        apply decide_eq_false
        intro h
        have h3 := congrArg List.length h
        rw [List.length_take, bl_len] at h3
        have e : ([58, 58] : List UInt8).length = 2 := rfl
        rw [e] at h3
        omega)
      go_wp2_with fail
      go_meet
      case rel => exact ⟨by rw [HE.out], HK1.out, HS1.out⟩
  case rest =>
    obtain ⟨rfl, hKa, hsa⟩ := hcut
    have HKa := Lib.hid hKa
    have HSa := Lib.hid hsa
    clear hKa hsa HK1 HS1
    go_upto_if 19 with (fail)
    go_cut [5, 7] from 12 (fun gp a w' => ∃ (k : Nat) (gap : Option Nat), k ≤ s.size ∧ a = .int .i64 (k : Int) ∧ gp = .int .i64 (gapI gap) ∧ Hid (R = p6go (s.size + 1) ((bl s).drop k) [] gap) ∧ Kp w w.heap.size [(w.heap.size + 1, 23, Z), (w.heap.size, 23, Z)] w' ∧ w.heap.size + 1 + 1 ≤ w'.heap.size)
    case first =>
      cases B
      · have HN2 : Hid (¬ (bl s).take 2 = [58, 58]) := Lib.hid (of_decide_eq_false HB.out.symm)
        go_wp2_with fail
        go_meet
        case rel => exact ⟨0, none, Nat.zero_le _, rfl, rfl, Lib.hid (by rw [HSt.out]; unfold p6at p6gap; rw [if_neg HN2.out, if_neg HN2.out]), HKa.out, HSa.out⟩
      · have HN2 : Hid ((bl s).take 2 = [58, 58]) := Lib.hid (of_decide_eq_true HB.out.symm)
        have H2s : Hid (2 ≤ s.size) := Lib.hid (by
          have h := congrArg List.length HN2.out
          rw [List.length_take, bl_len] at h
          have e : ([58, 58] : List UInt8).length = 2 := rfl
          rw [e] at h
          omega)
        go_wp2_with fail
        go_meet
        case rel => exact ⟨2, some 0, H2s.out, rfl, rfl, Lib.hid (by rw [HSt.out]; unfold p6at p6gap; rw [if_pos HN2.out, if_pos HN2.out]), HKa.out, HSa.out⟩
    case rest =>
      obtain ⟨k0, gap0, hk0, rfl, rfl, HR0, hKb, hsb⟩ := hcut
      have HKb := Lib.hid hKb
      have HSb := Lib.hid hsb
      have HK0 := Lib.hid hk0
      clear hKb hsb hk0 HKa HSa HB HSt
      go_upto_block 0 with (fail)
      go_cut [5, 6] from 7 (fun gp v w' => ∃ (l : List Int) (gap : Option Nat), gp = .int .i64 (gapI gap) ∧ w'.ownsRow (w.heap.size + 1 + 1) 3 1 v l.length (iv l) ∧ Kp w w.heap.size [(w.heap.size + 1, 23, Z), (w.heap.size, 23, Z)] w' ∧ Hid (R = some (l, gap)) ∧ Hid (∀ x ∈ l, 0 ≤ x ∧ x < 65536) ∧ w.heap.size + 1 + 1 ≤ w'.heap.size)
      case first =>
        go_wp2_with fail
        go_loopw [5, 6, 7] (fun gp v a wr => ∃ (k f : Nat) (l : List Int) (gap : Option Nat), k ≤ s.size ∧ a = .int .i64 k ∧ gp = .int .i64 (gapI gap) ∧ wr.ownsRow (w.heap.size + 1 + 1) 3 1 v l.length (iv l) ∧ Kp w w.heap.size [(w.heap.size + 1, 23, Z), (w.heap.size, 23, Z)] wr ∧ Hid (R = p6go f ((bl s).drop k) l gap) ∧ Hid (s.size < k + f) ∧ Hid (∀ x ∈ l, 0 ≤ x ∧ x < 65536) ∧ Hid (l.length ≤ k) ∧ w.heap.size + 1 + 1 ≤ wr.heap.size) (fun _ _ a _ => s.size - (intOf a).toNat)
        case atStart => exact ⟨k0, s.size + 1, [], gap0, HK0.out, rfl, rfl, ⟨rfl, .inl ⟨rfl, rfl⟩⟩, HKb.out, HR0, Lib.hid (by omega), Lib.hid (fun x hx => by cases hx), Lib.hid (Nat.zero_le _), HSb.out⟩
        case round =>
          obtain ⟨k, f, l, gap, hk, rfl, rfl, hO, hK, HRk, HFk, HBk, HLk, hsz⟩ := hrel
          have HO := Lib.hid hO
          have HKc := Lib.hid hK
          have HSz := Lib.hid hsz
          have HKs := Lib.hid hk
          clear hO hK hsz hk HR0 HKb HSb HK0
          by_cases hlt : k < s.size
          · skip
            obtain ⟨f1, hf1⟩ : ∃ f1, f = f1 + 1 := ⟨f - 1, by have := HFk.out; omega⟩
            subst hf1
            have HLt := Lib.hid hlt
            have hk9 : (k : Int) < (s.size : Int) := by omega
            clear hlt
            go_upto_block 2 with (fail)
            go_cut [8] from 20 to 76 (fun t w' => ∃ j : Nat, k ≤ j ∧ j ≤ s.size ∧ t = .int .i64 (j : Int) ∧ Hid (∀ i, k ≤ i → i < j → (bl s)[i]? ≠ some 58) ∧ Hid (j = s.size ∨ (bl s)[j]? = some 58) ∧ wr = w')
            case first =>
              go_wp2_with fail
              go_loop [8] (fun t => ∃ j : Nat, k ≤ j ∧ j ≤ s.size ∧ t = .int .i64 (j : Int) ∧ Hid (∀ i, k ≤ i → i < j → (bl s)[i]? ≠ some 58)) (fun t => s.size - (intOf t).toNat)
              case atStart => exact ⟨k, Nat.le_refl _, HKs.out, rfl, Lib.hid (fun i h1 h2 => by omega)⟩
              case round =>
                obtain ⟨j, hkj, hj, rfl, HNo⟩ := hrel
                by_cases hlt : j < s.size
                · have ji : (j : Int) < (s.size : Int) := by omega
                  by_cases hc : s[j] = 58
                  · have hcb : (((s[j]).toNat : Int) != 58) = false := by rw [hc]; rfl
                    have HEn : Hid ((bl s)[j]? = some 58) := Lib.hid (by rw [bl_at s j hlt, hc])
                    have HJ := Lib.hid hj
                    have HKJ := Lib.hid hkj
                    clear hc hj hkj
                    go_wp2_with fail
                    go_meet
                    case rel => exact ⟨j, HKJ.out, HJ.out, rfl, HNo, Lib.hid (.inr HEn.out), rfl⟩
                  · have hcb : (((s[j]).toNat : Int) != 58) = true := by
                      rw [bne_iff_ne]
                      intro h
                      exact hc (UInt8.toNat_inj.1 (by have : ((58 : UInt8)).toNat = 58 := rfl; omega))
                    have HNo2 : Hid (∀ i, k ≤ i → i < j + 1 → (bl s)[i]? ≠ some 58) := Lib.hid (fun i h1 h2 => by
                      by_cases e : i = j
                      · rw [e, bl_at s j hlt]
                        intro h
                        exact hc (Option.some.inj h)
                      · exact HNo.out i h1 (by omega))
                    have HJ := Lib.hid hlt
                    have HKJ := Lib.hid hkj
                    clear hc hj hkj
                    go_wp2_with fail
                    go_round
                    case rel => exact ⟨j + 1, by have := HKJ.out; omega, HJ.out, by go_num, HNo2⟩
                    case measure => have := HJ.out; simp [intOf]; omega
                · have HJ : Hid (j = s.size) := Lib.hid (by omega)
                  have HKJ := Lib.hid hkj
                  have ji : ¬ (j : Int) < (s.size : Int) := by omega
                  clear hj hkj hlt
                  go_wp2_with fail
                  go_meet
                  case rel => exact ⟨j, HKJ.out, Nat.le_of_eq HJ.out, rfl, HNo, Lib.hid (.inl HJ.out), rfl⟩
            case rest =>
              obtain ⟨j, hkj, hj, rfl, HNo, HEnd, rfl⟩ := hcut
              have HG : Hid (grp ((bl s).drop k) = bl (s.extract k j)) := Lib.hid (grp_is s k (j - k) j (by omega) hj HNo.out HEnd.out)
              have CH := Lib.hid (fun W => rhex_any (s.extract k j) W)
              have Hlt6 := Lib.hid (hexb_lt (bl (s.extract k j)))
              have HJ := Lib.hid hj
              have HKJ := Lib.hid hkj
              obtain ⟨nv, hnv⟩ : ∃ nv, nv = hexb (bl (s.extract k j)) := ⟨_, rfl⟩
              rw [← hnv] at CH Hlt6
              have Hnv := Lib.hid hnv
              clear hnv HNo
              have ja : (k : Int) ≤ (j : Int) := by omega
              have jb : (j : Int) ≤ (s.size : Int) := by omega
              clear hj hkj
              go_upto_region 13 with (go_at_call 95; refine (CH.out _).mono ?_; rintro e w9 ⟨rfl, hw9⟩; rw [hw9]; clear hw9)
              clear CH ja jb
              by_cases hn0 : nv < 0
              · have HRn : Hid (R = none) := Lib.hid (by rw [HRk.out]; exact p6_bad HLt.out HG.out (by rw [← Hnv.out]; exact hn0))
                clear HRk
                have HX1 : Hid (ok = false) := Lib.hid (HP.out.1 HRn.out).2
                have HX2 : Hid (VR = Z) := Lib.hid (HP.out.1 HRn.out).1
                have hrz := HKc.out.hd.range
                have htz := HKc.out.tl.hd.there Z.toArray.size (Nat.le_refl _)
                have hk7 := Bk.sets Z 0 _ _ HKc.out.tl.hd
                rw [puts_whole Z.toArray Z (by simp)] at hk7
                have HK7 := Lib.hid hk7
                have HB7 := Lib.hid (below_sets Z (Nat.le_refl _) 0 _ HKc.out.2.1)
                clear hk7
                go_wp2_with (first | ((with_reducible (change bodyPost _ _ _ _ _ _)); refine bodyPost_ret (v := .tuple #[.agg Z.toArray, .bool false]) ?_ rfl ⟨by rw [HX1.out, HX2.out], HB7.out⟩; exact results_cell2 rfl rfl rfl (run_loadVar_mid _ w.heap.size 0 23 Z _ HK7.out.range Tryd.underlying23 rfl HIZ.out)) | (refine wpList_load_mid rfl 23 _ rfl (w.heap.size + 1) 0 rfl Z _ hrz Tryd.underlying23 rfl HIZ.out ?_) | (refine wpList_store_mid rfl 23 _ _ rfl w.heap.size 0 Z.toArray rfl rfl htz (by simpa using HIZ.out) HO6.out ?_))
              · have hn1 : ¬ nv < 0 := hn0
                have HNn : Hid (¬ hexb (bl (s.extract k j)) < 0) := Lib.hid (by rw [← Hnv.out]; exact hn0)
                have HX1 : Hid (l.length + 1 ≤ maxLen) := Lib.hid (by have := HLk.out; have := HKs.out; unfold maxLen; omega)
                have HX2 : Hid ((l.length + 1) * 8 ≤ 140737488355328) := Lib.hid (by have := HLk.out; have := HKs.out; omega)
                have HX3 : Hid (w.heap.size + 1 + 1 ≤ (wr.alloc (.cells #[.int .i64 nv] 3)).heap.size) := Lib.hid (by have := HSz.out; simp; omega)
                clear hn0
                go_upto_region 16 with (at_builtin; refine wpList_append_lies _ rfl _ _ _ rfl (w.heap.size + 1 + 1) 3 i0 _ 1 8 Tryd.underlying73 HI.out H0.out H1.out H2.out rfl Nat.one_pos _ l.length (iv l) rfl (HO.out.alloc _) ⟨wr.heap.size, 0, none⟩ 1 1 [.int .i64 nv] rfl rfl (World.news_of_block (cs := #[.int .i64 nv]) (t := 3) (fr := (0, 0)) (heap_alloc_new wr _)) (by simp [Value.oneCell']) Nat.one_pos HX1.out HX2.out HX3.out (wr.heap.size + 1) (by simp) ?_; intro gg cap9 w2 hown2 hgrow hat hlt9)
                have HK2 := Lib.hid ((HKc.out.alloc (.cells #[.int .i64 nv] 3)).grown hgrow (own_not2 HO.out) (own_base2 HO.out))
                have HS2 := Lib.hid (Nat.le_trans HX3.out hgrow.size)
                have hO3 : w2.ownsRow (w.heap.size + 1 + 1) 3 1 (.slice (some ⟨gg, 0, none⟩) (l.length + 1) cap9) (l ++ [nv]).length (iv (l ++ [nv])) := by
                  have e1 : (l ++ [nv]).length = l.length + 1 := by simp
                  have e2 : iv (l ++ [nv]) = iv l ++ [.int .i64 nv] := by unfold iv; simp
                  rw [e1, e2]
                  exact hown2
                have HO3 := Lib.hid hO3
                have HB3 : Hid (∀ x ∈ l ++ [nv], 0 ≤ x ∧ x < 65536) := Lib.hid (fun x hx => by
                  rcases List.mem_append.1 hx with h | h
                  · exact HBk.out x h
                  · rw [List.mem_singleton.1 h]; exact ⟨by omega, Hlt6.out⟩)
                clear hown2 hgrow hat hlt9 hO3 HKc HO HX1 HX2 HX3 hn1
                by_cases hjs : j = s.size
                · have jc : ((j : Int) == (s.size : Int)) = true := by rw [hjs]; exact beq_self_eq_true _
                  have HRs : Hid (R = some (l ++ [nv], gap)) := Lib.hid (by rw [HRk.out, Hnv.out]; exact p6_last HKJ.out HLt.out HJ.out HG.out HNn.out hjs)
                  clear hjs
                  go_wp2_with fail
                  go_meet
                  case rel => exact ⟨l ++ [nv], gap, rfl, HO3.out, HK2.out, HRs, HB3, HS2.out⟩
                · have HJs : Hid (j < s.size) := Lib.hid (by have := HJ.out; omega)
                  have jl : (j : Int) < (s.size : Int) := by have := HJs.out; omega
                  have jc : ((j : Int) == (s.size : Int)) = false := by rw [beq_eq_false_iff_ne]; omega
                  clear hjs
                  obtain ⟨D, hD⟩ : ∃ D, D = decide ((bl s)[j + 1]? = some 58) := ⟨_, rfl⟩
                  have HD := Lib.hid hD
                  clear hD
                  have jn : ((j : Nat) : Int) + 1 = ((j + 1 : Nat) : Int) := by omega
                  obtain ⟨j1, hj1⟩ : ∃ j1, j1 = j + 1 := ⟨_, rfl⟩
                  rw [← hj1] at jn HD
                  have Hj1 := Lib.hid hj1
                  clear hj1
                  go_upto_region 18 with (fail)
                  clear jc jn
                  go_cut [64] from 20 to 76 (fun t w' => t = .bool D ∧ w2 = w')
                  case first =>
                    by_cases hlt : j1 < s.size
                    · have ji : (j1 : Int) < (s.size : Int) := by omega
                      have HE : Hid ((((s[j1]).toNat : Int) == 58) = D) := Lib.hid (by
                        rw [HD.out, bl_at s j1 hlt, Bool.eq_iff_iff, beq_iff_eq, decide_eq_true_eq]
                        constructor
                        · intro h
                          rw [UInt8.toNat_inj.1 (show (s[j1]).toNat = (58 : UInt8).toNat by have : ((58 : UInt8)).toNat = 58 := rfl; omega)]
                        · intro h
                          rw [Option.some.inj h]
                          rfl)
                      go_wp2_with fail
                      go_meet
                      case rel => exact ⟨by rw [HE.out], rfl⟩
                    · have ji : ¬ (j1 : Int) < (s.size : Int) := by omega
                      have HE : Hid (D = false) := Lib.hid (by rw [HD.out, List.getElem?_eq_none (by rw [bl_len]; omega)]; rfl)
                      go_wp2_with fail
                      go_meet
                      case rel => exact ⟨by rw [HE.out], rfl⟩
                  case rest =>
                    obtain ⟨rfl, rfl⟩ := hcut
                    cases D
                    · by_cases hje : j1 = s.size
                      · have jc : ((j1 : Int) == (s.size : Int)) = true := by rw [hje]; exact beq_self_eq_true _
                        have HRn : Hid (R = none) := Lib.hid (by rw [HRk.out]; exact p6_colon HKJ.out HLt.out HJ.out HG.out HNn.out (by rw [← Hj1.out]; exact hje))
                        clear HRk hje
                        have HX1 : Hid (ok = false) := Lib.hid (HP.out.1 HRn.out).2
                        have HX2 : Hid (VR = Z) := Lib.hid (HP.out.1 HRn.out).1
                        have hrz := HK2.out.hd.range
                        have htz := HK2.out.tl.hd.there Z.toArray.size (Nat.le_refl _)
                        have hk7 := Bk.sets Z 0 _ _ HK2.out.tl.hd
                        rw [puts_whole Z.toArray Z (by simp)] at hk7
                        have HK7 := Lib.hid hk7
                        have HB7 := Lib.hid (below_sets Z (Nat.le_refl _) 0 _ HK2.out.2.1)
                        clear hk7
                        go_wp2_with (first | ((with_reducible (change bodyPost _ _ _ _ _ _)); refine bodyPost_ret (v := .tuple #[.agg Z.toArray, .bool false]) ?_ rfl ⟨by rw [HX1.out, HX2.out], HB7.out⟩; exact results_cell2 rfl rfl rfl (run_loadVar_mid _ w.heap.size 0 23 Z _ HK7.out.range Tryd.underlying23 rfl HIZ.out)) | (refine wpList_load_mid rfl 23 _ rfl (w.heap.size + 1) 0 rfl Z _ hrz Tryd.underlying23 rfl HIZ.out ?_) | (refine wpList_store_mid rfl 23 _ _ rfl w.heap.size 0 Z.toArray rfl rfl htz (by simpa using HIZ.out) HO6.out ?_))
                      · have jc : ((j1 : Int) == (s.size : Int)) = false := by rw [beq_eq_false_iff_ne]; omega
                        have HJ1 : Hid (j + 1 < s.size) := Lib.hid (by have := HJs.out; have := Hj1.out; omega)
                        have HRn : Hid (R = p6go f1 ((bl s).drop (j + 1)) (l ++ [nv]) gap) := Lib.hid (by
                          rw [HRk.out, Hnv.out]
                          refine p6_next HKJ.out HLt.out HJ.out HG.out HNn.out HJ1.out (fun h => ?_)
                          have h2 := of_decide_eq_false HD.out.symm
                          rw [Hj1.out, bl_at s (j + 1) HJ1.out, h] at h2
                          exact h2 rfl)
                        clear HRk hje
                        go_wp2_with fail
                        go_roundw
                        case rel => exact ⟨j + 1, f1, l ++ [nv], gap, Nat.le_of_lt HJ1.out, by rw [Hj1.out], rfl, HO3.out, HK2.out, HRn, Lib.hid (by have := HFk.out; have := HKJ.out; omega), HB3, Lib.hid (by have := HLk.out; have := HKJ.out; rw [List.length_append]; simp; omega), HS2.out⟩
                        case measure => have := HLt.out; have := HKJ.out; have := Hj1.out; simp [intOf]; omega
                    · have H58 : Hid ((bl s)[j + 1]? = some 58) := Lib.hid (by have h2 := of_decide_eq_true HD.out.symm; rwa [Hj1.out] at h2)
                      have HJ1 : Hid (j + 1 < s.size) := Lib.hid (by
                        rcases Nat.lt_or_ge (j + 1) s.size with h | h
                        · exact h
                        · have h3 := H58.out; rw [List.getElem?_eq_none (by rw [bl_len]; exact h)] at h3; cases h3)
                      have H59 : Hid (s[j + 1]'HJ1.out = 58) := Lib.hid (by have h3 := H58.out; rw [bl_at s (j + 1) HJ1.out] at h3; exact Option.some.inj h3)
                      cases gap with
                      | none =>
                        have ig0 : gapI none = -1 := rfl
                        have jm9 : (j1 : Int) < 70000 := by have := HJ1.out; have := Hj1.out; omega
                        have hwj : wrap64 ((j1 : Int) + 1) = ((j + 2 : Nat) : Int) := by have := Hj1.out; unfold wrap64; omega
                        have HRn : Hid (R = p6go f1 ((bl s).drop (j + 2)) (l ++ [nv]) (some (l.length + 1))) := Lib.hid (by
                          rw [HRk.out, Hnv.out]
                          exact p6_gap HKJ.out HLt.out HJ.out HG.out HNn.out HJ1.out H59.out)
                        clear HRk
                        go_wp2_with fail
                        go_roundw
                        case rel => exact ⟨j + 2, f1, l ++ [nv], some (l.length + 1), by have := HJ1.out; omega, by have := Hj1.out; congr 1; omega, by simp [gapI], HO3.out, HK2.out, HRn, Lib.hid (by have := HFk.out; have := HKJ.out; omega), HB3, Lib.hid (by have := HLk.out; have := HKJ.out; rw [List.length_append]; simp; omega), HS2.out⟩
                        case measure => have := HLt.out; have := HKJ.out; have := Hj1.out; simp [intOf]; omega
                      | some g =>
                        have ig0 : gapI (some g) = (g : Int) := rfl
                        have ig1 : (0 : Int) ≤ (g : Int) := by omega
                        have HRn : Hid (R = none) := Lib.hid (by rw [HRk.out]; exact p6_twice HKJ.out HLt.out HJ.out HG.out HNn.out HJ1.out H59.out g)
                        clear HRk
                        have HX1 : Hid (ok = false) := Lib.hid (HP.out.1 HRn.out).2
                        have HX2 : Hid (VR = Z) := Lib.hid (HP.out.1 HRn.out).1
                        have hrz := HK2.out.hd.range
                        have htz := HK2.out.tl.hd.there Z.toArray.size (Nat.le_refl _)
                        have hk7 := Bk.sets Z 0 _ _ HK2.out.tl.hd
                        rw [puts_whole Z.toArray Z (by simp)] at hk7
                        have HK7 := Lib.hid hk7
                        have HB7 := Lib.hid (below_sets Z (Nat.le_refl _) 0 _ HK2.out.2.1)
                        clear hk7
                        go_wp2_with (first | ((with_reducible (change bodyPost _ _ _ _ _ _)); refine bodyPost_ret (v := .tuple #[.agg Z.toArray, .bool false]) ?_ rfl ⟨by rw [HX1.out, HX2.out], HB7.out⟩; exact results_cell2 rfl rfl rfl (run_loadVar_mid _ w.heap.size 0 23 Z _ HK7.out.range Tryd.underlying23 rfl HIZ.out)) | (refine wpList_load_mid rfl 23 _ rfl (w.heap.size + 1) 0 rfl Z _ hrz Tryd.underlying23 rfl HIZ.out ?_) | (refine wpList_store_mid rfl 23 _ _ rfl w.heap.size 0 Z.toArray rfl rfl htz (by simpa using HIZ.out) HO6.out ?_))
          · obtain rfl : k = s.size := by have := HKs.out; omega
            have HRs : Hid (R = some (l, gap)) := Lib.hid (by
              rw [HRk.out, bl_drop_end]
              have := HFk.out
              obtain ⟨f', rfl⟩ : ∃ f', f = f' + 1 := ⟨f - 1, by omega⟩
              exact p6_end)
            go_wp2_with fail
            go_meet
            case rel => exact ⟨l, gap, rfl, HO.out, HKc.out, HRs, HBk, HSz.out⟩
      case rest =>
        obtain ⟨l9, gap, rfl, hO, hK, HRs, HB9, hsz⟩ := hcut
        have HO := Lib.hid hO
        have HKc := Lib.hid hK
        have HSz := Lib.hid hsz
        clear hO hK hsz HKb HSb HR0 HK0
        by_cases hf : p6fits (some (l9, gap)) = true
        · have HF := Lib.hid hf
          have HX1 : Hid (VR = b8 (p6put l9 gap l9.length)) := Lib.hid (HP.out.2.2 l9 gap HRs.out hf).1
          have HX2 : Hid (ok = true) := Lib.hid (HP.out.2.2 l9 gap HRs.out hf).2
          have HL8 : Hid (l9.length ≤ 8) := Lib.hid (by
            cases gap with
            | none => have : l9.length = 8 := by simpa [p6fits] using hf
                      omega
            | some g => have : l9.length ≤ 7 := by simpa [p6fits] using hf
                        omega)
          clear hf HRs HP
          rcases HO.out.2 with ⟨rfl, hl0⟩ | ⟨g9, cap9, cur, rfl, hg9, _, _, _, _, _⟩
          · have hn9 : l9 = [] := List.length_eq_zero_iff.1 hl0
            subst hn9
            clear hl0
            cases gap with
            | none => exact absurd HF.out (by decide)
            | some g =>
              have ig0 : gapI (some g) = (g : Int) := rfl
              have ig1 : (0 : Int) ≤ (g : Int) := by omega
              have ig2 : ¬ (g : Int) < 0 := by omega
              have HX3 : Hid (VR = Z) := Lib.hid (by rw [HX1.out]; exact HPZ.out)
              have hlen9 : True := trivial
              go_wp2_with fail
              go_loopw [10] (fun a wr => a = .int .i64 0 ∧ Kp w w.heap.size [(w.heap.size + 1, 23, Z), (w.heap.size, 23, Z)] wr) (fun _ _ => 0)
              case atStart => exact ⟨rfl, HKc.out⟩
              case round =>
                obtain ⟨rfl, hK9⟩ := hrel
                have HK9 := Lib.hid hK9
                clear hK9
                have hrz := HK9.out.hd.range
                have htz := HK9.out.tl.hd.there Z.toArray.size (Nat.le_refl _)
                have hk7 := Bk.sets Z 0 _ _ HK9.out.tl.hd
                rw [puts_whole Z.toArray Z (by simp)] at hk7
                have HK7 := Lib.hid hk7
                have HB7 := Lib.hid (below_sets Z (Nat.le_refl _) 0 _ HK9.out.2.1)
                clear hk7
                go_wp2_with (first | ((with_reducible (change bodyPost _ _ _ _ _ _)); refine bodyPost_ret (v := .tuple #[.agg Z.toArray, .bool true]) ?_ rfl ⟨by rw [HX2.out, HX3.out], HB7.out⟩; exact results_cell2 rfl rfl rfl (run_loadVar_mid _ w.heap.size 0 23 Z _ HK7.out.range Tryd.underlying23 rfl HIZ.out)) | (refine wpList_load_mid rfl 23 _ rfl (w.heap.size + 1) 0 rfl Z _ hrz Tryd.underlying23 rfl HIZ.out ?_) | (refine wpList_store_mid rfl 23 _ _ rfl w.heap.size 0 Z.toArray rfl rfl htz (by simpa using HIZ.out) HO6.out ?_))
          · have hic := own_intc HO.out
            have hl8 : ((l9.length : Nat) : Int) ≤ 8 := by have := HL8.out; omega
            have HG9 : Hid (g9 ≠ w.heap.size + 1) := Lib.hid (by omega)
            have HIc0 := Lib.hid hic
            have HVR2 : Hid ((Tryd.prog.info? 23).map (·.size) = some VR.length) := Lib.hid (by rw [HX1.out, b8_len, p6put_len]; exact HZ6.out)
            have HVO : Hid (VR.toArray.all (·.oneCell') = true) := Lib.hid (by rw [HX1.out]; exact b8_one _)
            have HVl : Hid (VR.length = 16) := Lib.hid (by rw [HX1.out, b8_len, p6put_len])
            clear hic HO hg9
            cases gap with
            | none =>
              have HN8 : Hid (l9.length = 8) := Lib.hid (by simpa [p6fits] using HF.out)
              have ig0 : gapI none = -1 := rfl
              have q8 : (((l9.length : Nat) : Int) != 8) = false := by rw [HN8.out]; rfl
              go_wp2_with fail
              go_loopw [10] (fun a wr => ∃ i : Nat, i ≤ l9.length ∧ a = .int .i64 (i : Int) ∧ IntC g9 l9 wr ∧ Kp w w.heap.size [(w.heap.size + 1, 23, b8 (p6put l9 (none) i)), (w.heap.size, 23, Z)] wr) (fun a _ => l9.length - (intOf a).toNat)
              case atStart => exact ⟨0, Nat.zero_le _, rfl, HIc0.out, by rw [show b8 (p6put l9 (none) 0) = Z from HPZ.out]; exact HKc.out⟩
              case round =>
                obtain ⟨i, hi, rfl, hic, hK9⟩ := hrel
                have HIc := Lib.hid hic
                have HKi := Lib.hid hK9
                clear hic hK9 HIc0 HKc
                by_cases hlt : i < l9.length
                · have il : ((i : Nat) : Int) < ((l9.length : Nat) : Int) := by omega
                  have HGd : Hid (p6put l9 (none) (i + 1) = ((p6put l9 (none) i).set (2 * p6k l9.length (none) i) (l9.getD i 0 / 256)).set (2 * p6k l9.length (none) i + 1) (l9.getD i 0 % 256)) := Lib.hid rfl
                  have HAl : Hid ((p6put l9 (none) i).length = 16) := Lib.hid (p6put_len _ _ _)
                  obtain ⟨hx0, hx9⟩ : 0 ≤ l9.getD i 0 ∧ l9.getD i 0 < 65536 := by
                    rw [List.getD_eq_getElem?_getD, List.getElem?_eq_getElem hlt]
                    exact HB9.out _ (List.getElem_mem hlt)
                  generalize hG2 : p6put l9 (none) (i + 1) = G2 at *
                  have HG2 := Lib.hid hG2
                  clear hG2
                  generalize p6put l9 (none) i = G at *
                  generalize hx : l9.getD i 0 = x at *
                  obtain ⟨kx1, kx2, ku1, ku2⟩ := two_bytes x hx0 hx9
                  have HGp : Hid (G2 = (G.set (2 * i) (x / 256)).set (2 * i + 1) (x % 256)) := Lib.hid (by rw [HGd.out]; rfl)
                  have hk8 : i < 8 := by omega
                  obtain ⟨p, hp⟩ : ∃ p, p = 2 * i := ⟨_, rfl⟩
                  have eq1 : 2 * ((i : Nat) : Int) = (p : Int) := by omega
                  rw [← hp] at HGp
                  obtain ⟨p1, hp1⟩ : ∃ p1, p1 = p + 1 := ⟨_, rfl⟩
                  have hw1 : (p : Int) + 1 = (p1 : Int) := by omega
                  rw [← hp1] at HGp
                  have p16 : (p : Int) < 16 := by omega
                  have p17 : (p1 : Int) < 16 := by omega
                  have HPp : Hid (p < 16 ∧ p1 < 16) := Lib.hid (by omega)
                  clear hp hp1
                  have ci := HIc.out i hlt
                  rw [hx] at ci
                  have cc := HKi.out.hd.at (i := p) (b8_at G p (by rw [HAl.out]; exact HPp.out.1))
                  have cz := HKi.out.hd.z p
                  go_upto_region 34 with (fail)
                  clear ci cc cz
                  have HKj : Hid (Kp w w.heap.size [(w.heap.size + 1, 23, b8 (G.set p (x / 256))), (w.heap.size, 23, Z)] (wr.setCell ⟨w.heap.size + 1, p, none⟩ (.int .u8 (x / 256)))) := Lib.hid (by
                    rw [b8_set]
                    exact HKi.out.set1 (by intro y hy; rw [List.mem_singleton] at hy; rw [hy]; show w.heap.size ≠ w.heap.size + 1; omega) (Nat.le_succ _) _ _)
                  have HIc2 : Hid (IntC g9 l9 (wr.setCell ⟨w.heap.size + 1, p, none⟩ (.int .u8 (x / 256)))) := Lib.hid (HIc.out.set HG9.out _ _)
                  clear HKi HIc
                  generalize wr.setCell ⟨w.heap.size + 1, p, none⟩ (.int .u8 (x / 256)) = w7 at *
                  have ci := HIc2.out i hlt
                  rw [hx] at ci
                  have cc := HKj.out.hd.at (i := p1) (b8_at (G.set p (x / 256)) p1 (by rw [List.length_set, HAl.out]; exact HPp.out.2))
                  have cz := HKj.out.hd.z p1
                  go_wp2_with fail
                  clear ci cc cz
                  have HKk : Hid (Kp w w.heap.size [(w.heap.size + 1, 23, b8 G2), (w.heap.size, 23, Z)] (w7.setCell ⟨w.heap.size + 1, p1, none⟩ (.int .u8 (x % 256)))) := Lib.hid (by
                    rw [HGp.out, b8_set]
                    exact HKj.out.set1 (by intro y hy; rw [List.mem_singleton] at hy; rw [hy]; show w.heap.size ≠ w.heap.size + 1; omega) (Nat.le_succ _) _ _)
                  have HIc3 : Hid (IntC g9 l9 (w7.setCell ⟨w.heap.size + 1, p1, none⟩ (.int .u8 (x % 256)))) := Lib.hid (HIc2.out.set HG9.out _ _)
                  go_roundw
                  case rel => exact ⟨i + 1, hlt, by go_num, HIc3.out, by rw [HG2.out]; exact HKk.out⟩
                  case measure => simp [intOf]; omega
                · obtain rfl : i = l9.length := by omega
                  rw [← HX1.out] at HKi
                  have hrz := HKi.out.hd.range
                  have htz := HKi.out.tl.hd.there VR.toArray.size (Nat.le_of_eq (by simp only [List.size_toArray, HVl.out, HLZ.out]))
                  have hk7 := Bk.sets VR 0 _ _ HKi.out.tl.hd
                  rw [puts_whole Z.toArray VR (by simp only [List.size_toArray, HLZ.out, HVl.out])] at hk7
                  have HK7 := Lib.hid hk7
                  have HB7 := Lib.hid (below_sets VR (Nat.le_refl _) 0 _ HKi.out.2.1)
                  clear hk7
                  go_wp2_with (first | ((with_reducible (change bodyPost _ _ _ _ _ _)); refine bodyPost_ret (v := .tuple #[.agg VR.toArray, .bool true]) ?_ rfl ⟨by rw [HX2.out], HB7.out⟩; exact results_cell2 rfl rfl rfl (run_loadVar_mid _ w.heap.size 0 23 VR _ HK7.out.range Tryd.underlying23 rfl HVR2.out)) | (refine wpList_load_mid rfl 23 _ rfl (w.heap.size + 1) 0 rfl VR _ hrz Tryd.underlying23 rfl HVR2.out ?_) | (refine wpList_store_mid rfl 23 _ _ rfl w.heap.size 0 VR.toArray rfl rfl htz (by simpa using HVR2.out) HVO.out ?_))
            | some g =>
              have ig0 : gapI (some g) = (g : Int) := rfl
              have ig1 : (0 : Int) ≤ (g : Int) := by omega
              have ig2 : ¬ (g : Int) < 0 := by omega
              have q7 : ¬ (7 : Int) < ((l9.length : Nat) : Int) := by have h7 : l9.length ≤ 7 := by simpa [p6fits] using HF.out
                                                                      omega
              go_wp2_with fail
              go_loopw [10] (fun a wr => ∃ i : Nat, i ≤ l9.length ∧ a = .int .i64 (i : Int) ∧ IntC g9 l9 wr ∧ Kp w w.heap.size [(w.heap.size + 1, 23, b8 (p6put l9 (some g) i)), (w.heap.size, 23, Z)] wr) (fun a _ => l9.length - (intOf a).toNat)
              case atStart => exact ⟨0, Nat.zero_le _, rfl, HIc0.out, by rw [show b8 (p6put l9 (some g) 0) = Z from HPZ.out]; exact HKc.out⟩
              case round =>
                obtain ⟨i, hi, rfl, hic, hK9⟩ := hrel
                have HIc := Lib.hid hic
                have HKi := Lib.hid hK9
                clear hic hK9 HIc0 HKc
                by_cases hlt : i < l9.length
                · have il : ((i : Nat) : Int) < ((l9.length : Nat) : Int) := by omega
                  have HGd : Hid (p6put l9 (some g) (i + 1) = ((p6put l9 (some g) i).set (2 * p6k l9.length (some g) i) (l9.getD i 0 / 256)).set (2 * p6k l9.length (some g) i + 1) (l9.getD i 0 % 256)) := Lib.hid rfl
                  have HAl : Hid ((p6put l9 (some g) i).length = 16) := Lib.hid (p6put_len _ _ _)
                  obtain ⟨hx0, hx9⟩ : 0 ≤ l9.getD i 0 ∧ l9.getD i 0 < 65536 := by
                    rw [List.getD_eq_getElem?_getD, List.getElem?_eq_getElem hlt]
                    exact HB9.out _ (List.getElem_mem hlt)
                  generalize hG2 : p6put l9 (some g) (i + 1) = G2 at *
                  have HG2 := Lib.hid hG2
                  clear hG2
                  generalize p6put l9 (some g) i = G at *
                  generalize hx : l9.getD i 0 = x at *
                  obtain ⟨kx1, kx2, ku1, ku2⟩ := two_bytes x hx0 hx9
                  by_cases hgi : g ≤ i
                  · have ji : (g : Int) ≤ (i : Int) := by omega
                    have HK0 : Hid (p6k l9.length (some g) i = 8 - l9.length + i) := Lib.hid (by unfold p6k; dsimp only; rw [if_pos hgi])
                    obtain ⟨K, hK8⟩ : ∃ K, K = 8 - l9.length + i := ⟨_, rfl⟩
                    have eK : (8 : Int) - ((l9.length : Nat) : Int) + (i : Int) = (K : Int) := by omega
                    have HGp : Hid (G2 = (G.set (2 * K) (x / 256)).set (2 * K + 1) (x % 256)) := Lib.hid (by rw [HGd.out, HK0.out, ← hK8])
                    have hk8 : K < 8 := by omega
                    clear hgi HK0 hK8
                    obtain ⟨p, hp⟩ : ∃ p, p = 2 * K := ⟨_, rfl⟩
                    have eq1 : 2 * ((K : Nat) : Int) = (p : Int) := by omega
                    rw [← hp] at HGp
                    obtain ⟨p1, hp1⟩ : ∃ p1, p1 = p + 1 := ⟨_, rfl⟩
                    have hw1 : (p : Int) + 1 = (p1 : Int) := by omega
                    rw [← hp1] at HGp
                    have p16 : (p : Int) < 16 := by omega
                    have p17 : (p1 : Int) < 16 := by omega
                    have HPp : Hid (p < 16 ∧ p1 < 16) := Lib.hid (by omega)
                    clear hp hp1
                    have ci := HIc.out i hlt
                    rw [hx] at ci
                    have cc := HKi.out.hd.at (i := p) (b8_at G p (by rw [HAl.out]; exact HPp.out.1))
                    have cz := HKi.out.hd.z p
                    go_upto_region 34 with (fail)
                    clear ci cc cz
                    have HKj : Hid (Kp w w.heap.size [(w.heap.size + 1, 23, b8 (G.set p (x / 256))), (w.heap.size, 23, Z)] (wr.setCell ⟨w.heap.size + 1, p, none⟩ (.int .u8 (x / 256)))) := Lib.hid (by
                      rw [b8_set]
                      exact HKi.out.set1 (by intro y hy; rw [List.mem_singleton] at hy; rw [hy]; show w.heap.size ≠ w.heap.size + 1; omega) (Nat.le_succ _) _ _)
                    have HIc2 : Hid (IntC g9 l9 (wr.setCell ⟨w.heap.size + 1, p, none⟩ (.int .u8 (x / 256)))) := Lib.hid (HIc.out.set HG9.out _ _)
                    clear HKi HIc
                    generalize wr.setCell ⟨w.heap.size + 1, p, none⟩ (.int .u8 (x / 256)) = w7 at *
                    have ci := HIc2.out i hlt
                    rw [hx] at ci
                    have cc := HKj.out.hd.at (i := p1) (b8_at (G.set p (x / 256)) p1 (by rw [List.length_set, HAl.out]; exact HPp.out.2))
                    have cz := HKj.out.hd.z p1
                    go_wp2_with fail
                    clear ci cc cz
                    have HKk : Hid (Kp w w.heap.size [(w.heap.size + 1, 23, b8 G2), (w.heap.size, 23, Z)] (w7.setCell ⟨w.heap.size + 1, p1, none⟩ (.int .u8 (x % 256)))) := Lib.hid (by
                      rw [HGp.out, b8_set]
                      exact HKj.out.set1 (by intro y hy; rw [List.mem_singleton] at hy; rw [hy]; show w.heap.size ≠ w.heap.size + 1; omega) (Nat.le_succ _) _ _)
                    have HIc3 : Hid (IntC g9 l9 (w7.setCell ⟨w.heap.size + 1, p1, none⟩ (.int .u8 (x % 256)))) := Lib.hid (HIc2.out.set HG9.out _ _)
                    go_roundw
                    case rel => exact ⟨i + 1, hlt, by go_num, HIc3.out, by rw [HG2.out]; exact HKk.out⟩
                    case measure => simp [intOf]; omega
                  · have ji : ¬ (g : Int) ≤ (i : Int) := by omega
                    have HK0 : Hid (p6k l9.length (some g) i = i) := Lib.hid (by unfold p6k; dsimp only; rw [if_neg hgi])
                    have HGp : Hid (G2 = (G.set (2 * i) (x / 256)).set (2 * i + 1) (x % 256)) := Lib.hid (by rw [HGd.out, HK0.out])
                    have hk8 : i < 8 := by omega
                    clear hgi HK0
                    obtain ⟨p, hp⟩ : ∃ p, p = 2 * i := ⟨_, rfl⟩
                    have eq1 : 2 * ((i : Nat) : Int) = (p : Int) := by omega
                    rw [← hp] at HGp
                    obtain ⟨p1, hp1⟩ : ∃ p1, p1 = p + 1 := ⟨_, rfl⟩
                    have hw1 : (p : Int) + 1 = (p1 : Int) := by omega
                    rw [← hp1] at HGp
                    have p16 : (p : Int) < 16 := by omega
                    have p17 : (p1 : Int) < 16 := by omega
                    have HPp : Hid (p < 16 ∧ p1 < 16) := Lib.hid (by omega)
                    clear hp hp1
                    have ci := HIc.out i hlt
                    rw [hx] at ci
                    have cc := HKi.out.hd.at (i := p) (b8_at G p (by rw [HAl.out]; exact HPp.out.1))
                    have cz := HKi.out.hd.z p
                    go_upto_region 34 with (fail)
                    clear ci cc cz
                    have HKj : Hid (Kp w w.heap.size [(w.heap.size + 1, 23, b8 (G.set p (x / 256))), (w.heap.size, 23, Z)] (wr.setCell ⟨w.heap.size + 1, p, none⟩ (.int .u8 (x / 256)))) := Lib.hid (by
                      rw [b8_set]
                      exact HKi.out.set1 (by intro y hy; rw [List.mem_singleton] at hy; rw [hy]; show w.heap.size ≠ w.heap.size + 1; omega) (Nat.le_succ _) _ _)
                    have HIc2 : Hid (IntC g9 l9 (wr.setCell ⟨w.heap.size + 1, p, none⟩ (.int .u8 (x / 256)))) := Lib.hid (HIc.out.set HG9.out _ _)
                    clear HKi HIc
                    generalize wr.setCell ⟨w.heap.size + 1, p, none⟩ (.int .u8 (x / 256)) = w7 at *
                    have ci := HIc2.out i hlt
                    rw [hx] at ci
                    have cc := HKj.out.hd.at (i := p1) (b8_at (G.set p (x / 256)) p1 (by rw [List.length_set, HAl.out]; exact HPp.out.2))
                    have cz := HKj.out.hd.z p1
                    go_wp2_with fail
                    clear ci cc cz
                    have HKk : Hid (Kp w w.heap.size [(w.heap.size + 1, 23, b8 G2), (w.heap.size, 23, Z)] (w7.setCell ⟨w.heap.size + 1, p1, none⟩ (.int .u8 (x % 256)))) := Lib.hid (by
                      rw [HGp.out, b8_set]
                      exact HKj.out.set1 (by intro y hy; rw [List.mem_singleton] at hy; rw [hy]; show w.heap.size ≠ w.heap.size + 1; omega) (Nat.le_succ _) _ _)
                    have HIc3 : Hid (IntC g9 l9 (w7.setCell ⟨w.heap.size + 1, p1, none⟩ (.int .u8 (x % 256)))) := Lib.hid (HIc2.out.set HG9.out _ _)
                    go_roundw
                    case rel => exact ⟨i + 1, hlt, by go_num, HIc3.out, by rw [HG2.out]; exact HKk.out⟩
                    case measure => simp [intOf]; omega
                · obtain rfl : i = l9.length := by omega
                  rw [← HX1.out] at HKi
                  have hrz := HKi.out.hd.range
                  have htz := HKi.out.tl.hd.there VR.toArray.size (Nat.le_of_eq (by simp only [List.size_toArray, HVl.out, HLZ.out]))
                  have hk7 := Bk.sets VR 0 _ _ HKi.out.tl.hd
                  rw [puts_whole Z.toArray VR (by simp only [List.size_toArray, HLZ.out, HVl.out])] at hk7
                  have HK7 := Lib.hid hk7
                  have HB7 := Lib.hid (below_sets VR (Nat.le_refl _) 0 _ HKi.out.2.1)
                  clear hk7
                  go_wp2_with (first | ((with_reducible (change bodyPost _ _ _ _ _ _)); refine bodyPost_ret (v := .tuple #[.agg VR.toArray, .bool true]) ?_ rfl ⟨by rw [HX2.out], HB7.out⟩; exact results_cell2 rfl rfl rfl (run_loadVar_mid _ w.heap.size 0 23 VR _ HK7.out.range Tryd.underlying23 rfl HVR2.out)) | (refine wpList_load_mid rfl 23 _ rfl (w.heap.size + 1) 0 rfl VR _ hrz Tryd.underlying23 rfl HVR2.out ?_) | (refine wpList_store_mid rfl 23 _ _ rfl w.heap.size 0 VR.toArray rfl rfl htz (by simpa using HVR2.out) HVO.out ?_))
        · have HX1 : Hid (ok = false) := Lib.hid (HP.out.2.1 l9 gap HRs.out (by simpa using hf)).2
          have HX2 : Hid (VR = Z) := Lib.hid (HP.out.2.1 l9 gap HRs.out (by simpa using hf)).1
          have hlen := fun ty W => own_len HO.out ty W
          cases gap with
          | none =>
            have ig0 : gapI none = -1 := rfl
            have q8 : (((l9.length : Nat) : Int) != 8) = true := by
              rw [bne_iff_ne]
              intro h
              exact hf (by have : l9.length = 8 := by omega
                           simpa [p6fits] using this)
            clear hf
            have hrz := HKc.out.hd.range
            have htz := HKc.out.tl.hd.there Z.toArray.size (Nat.le_refl _)
            have hk7 := Bk.sets Z 0 _ _ HKc.out.tl.hd
            rw [puts_whole Z.toArray Z (by simp)] at hk7
            have HK7 := Lib.hid hk7
            have HB7 := Lib.hid (below_sets Z (Nat.le_refl _) 0 _ HKc.out.2.1)
            clear hk7
            go_wp2_with (first | ((with_reducible (change bodyPost _ _ _ _ _ _)); refine bodyPost_ret (v := .tuple #[.agg Z.toArray, .bool false]) ?_ rfl ⟨by rw [HX1.out, HX2.out], HB7.out⟩; exact results_cell2 rfl rfl rfl (run_loadVar_mid _ w.heap.size 0 23 Z _ HK7.out.range Tryd.underlying23 rfl HIZ.out)) | (refine wpList_load_mid rfl 23 _ rfl (w.heap.size + 1) 0 rfl Z _ hrz Tryd.underlying23 rfl HIZ.out ?_) | (refine wpList_store_mid rfl 23 _ _ rfl w.heap.size 0 Z.toArray rfl rfl htz (by simpa using HIZ.out) HO6.out ?_))
          | some g =>
            have ig0 : gapI (some g) = (g : Int) := rfl
            have ig1 : (0 : Int) ≤ (g : Int) := by omega
            have ig2 : ¬ (g : Int) < 0 := by omega
            have q7 : (7 : Int) < ((l9.length : Nat) : Int) := by
              have : ¬ l9.length ≤ 7 := fun h => hf (by simpa [p6fits] using h)
              omega
            clear hf
            have hrz := HKc.out.hd.range
            have htz := HKc.out.tl.hd.there Z.toArray.size (Nat.le_refl _)
            have hk7 := Bk.sets Z 0 _ _ HKc.out.tl.hd
            rw [puts_whole Z.toArray Z (by simp)] at hk7
            have HK7 := Lib.hid hk7
            have HB7 := Lib.hid (below_sets Z (Nat.le_refl _) 0 _ HKc.out.2.1)
            clear hk7
            go_wp2_with (first | ((with_reducible (change bodyPost _ _ _ _ _ _)); refine bodyPost_ret (v := .tuple #[.agg Z.toArray, .bool false]) ?_ rfl ⟨by rw [HX1.out, HX2.out], HB7.out⟩; exact results_cell2 rfl rfl rfl (run_loadVar_mid _ w.heap.size 0 23 Z _ HK7.out.range Tryd.underlying23 rfl HIZ.out)) | (refine wpList_load_mid rfl 23 _ rfl (w.heap.size + 1) 0 rfl Z _ hrz Tryd.underlying23 rfl HIZ.out ?_) | (refine wpList_store_mid rfl 23 _ _ rfl w.heap.size 0 Z.toArray rfl rfl htz (by simpa using HIZ.out) HO6.out ?_))
end Go.Proofs.YtchdagdmbjpmcaaDoor
