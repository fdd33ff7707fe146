/-
  Proved here: what the document's Bytes answers of a whole packet that may be.
  Conditions: what its Why answers (a hypothesis); a small packet.
-/
import Derived.Test.YtphemimpkbjfoaaRefBytesPlain
namespace Go.Proofs.Ytphemimpkbjfoaa
open Go.RowKit

set_option maxRecDepth 100000 in
set_option maxHeartbeats 2000000 in
theorem rbytes_w (p : Pk6) (v : Value) (w : World) (hx : Exs w v p.exts) (hy : p.why = 0) (hid : 0 ≤ p.id ∧ p.id < 4294967296) (hf : p.frag = false)
    (HRW : ∀ W, Exs W v p.exts → Calls Try.prog 41 #[.agg (p.vals v).toArray] W fun e w' => e = .returned (.int .i64 p.why) ∧ Below W.heap.size W w') :
    Calls Try.prog 20 #[.agg (p.vals v).toArray] w fun e w' => e = .returned (.tuple #[.string p.bytes, .int .i64 0]) ∧ Below w.heap.size w w' := by
  have ho := why_ok hy
  obtain ⟨c0, c1, f0, f1, h0, h1, r0, r1, p0, p1, p8⟩ := bnd_pl ho.bnd
  have hge := ge_all ho.kinds ho.form
  have hzz := heads_size p
  have hzb := ho.behind
  have hl8 := ho.len
  have HGE := Lib.hid hge
  have HRG := Lib.hid (hk_range p ⟨r0, by omega⟩ hge)
  obtain ⟨ao, cap, rfl, _⟩ := id hx
  obtain ⟨V, hV, hVl, hD, hK⟩ := boxed6 p (.slice ao p.exts.length cap) w
  have HIv : Hid ((Try.prog.info? 31).map (·.size) = some V.length) := Lib.hid (by rw [hV]; exact Try.info6 p _)
  have HW : Hid (∀ W, Below w.heap.size w W → Calls Try.prog 41 #[.agg V.toArray] W fun e w' => e = .returned (.int .i64 0) ∧ Below W.heap.size W w') := Lib.hid (fun W hW => by rw [hV, ← hy]; exact HRW W (hx.below hW (Nat.le_refl _)))
  have HV0 : Hid (V[0]? = some (.int .i64 p.cls) ∧ V[1]? = some (.int .i64 p.flow) ∧ V[2]? = some (.int .i64 p.hop)) := Lib.hid (by rw [hV]; exact ⟨rfl, rfl, rfl⟩)
  have HV35 : Hid (V[35]? = some (.slice ao p.exts.length cap)) := Lib.hid (by rw [hV]; exact vals_tail p _ 0)
  have HV36 : Hid (V[36]? = some (.bool false)) := Lib.hid (by rw [hV, ← hf]; exact vals_tail p _ 1)
  have HV37 : Hid (V[37]? = some (.int .u32 p.id) ∧ V[38]? = some (.int .i64 p.pl)) := Lib.hid (by rw [hV]; exact ⟨vals_tail p _ 2, vals_tail p _ 3⟩)
  have HV40 : Hid (V[40]? = some (.int .i64 p.proto) ∧ V[41]? = some (.string p.data)) := Lib.hid (by rw [hV]; exact ⟨vals_tail p _ 5, vals_tail p _ 6⟩)
  have HVF : Hid (∀ k, k < 16 → V[3 + k]? = some (.int .u8 ((p.fr.getD k 0).toNat : Int))) := Lib.hid (fun k hk => by rw [hV]; exact vals_fr p _ k _ (bytV_at _ k (by rw [p.hfr]; exact hk)))
  have HVD : Hid (∀ k, k < 16 → V[19 + k]? = some (.int .u8 ((p.dst.getD k 0).toNat : Int))) := Lib.hid (fun k hk => by rw [hV]; exact vals_dst p _ k _ (bytV_at _ k (by rw [p.hdst]; exact hk)))
  have HF16 := Lib.hid (And.intro p.hfr p.hdst)
  have HHop := Lib.hid (And.intro h0 (show p.hop < 256 by omega))
  have HIdB := Lib.hid hid
  have HFr := Lib.hid hf
  have HBy : Hid (p.bytes = strOfNums [p.word / 16777216, p.word / 65536 % 256, p.word / 256 % 256, p.word % 256] ++ strOfNums [((p.heads.2.size : Int) + (p.data.size : Int)) / 256, ((p.heads.2.size : Int) + (p.data.size : Int)) % 256] ++ strOfNums [p.heads.1] ++ strOfNums [p.hop] ++ strB p.fr ++ strB p.dst ++ p.heads.2 ++ p.data) := Lib.hid rfl
  rw [← hV]
  have HX0 := Lib.hid hx
  have HK0 := Lib.hid hK
  have hrg := hK.hd.range
  clear hV hK hD hx hy ho hge hid hf HRW
  generalize hw1 : w.alloc (.cells V.toArray 31) = w1 at *
  go_enter Try.func20, Try.ntmps20
  go_upto_region 1 with (fail)
  clear hw1
  go_wp2_with (refine wpList_load_mid rfl 31 _ rfl _ 0 rfl V _ hrg Try.underlying31 rfl HIv.out ?_)
  refine (HW.out _ HK0.out.2.1).mono ?_
  rintro e w2 ⟨rfl, b1⟩
  have HK1 := Lib.hid (HK0.out.below b1 (Nat.le_refl _))
  clear b1 HK0 hrg HW
  obtain ⟨i9, hi9, hz0, hz1, hz2⟩ := info_parts Try.infoInt
  have HI := Lib.hid hi9
  have H0 := Lib.hid hz0
  have H1 := Lib.hid hz1
  have H2 := Lib.hid hz2
  clear hi9 hz0 hz1 hz2
  go_wp2_with fail
  go_loopw [5, 6] (fun v i wr => ∃ k : Nat, k ≤ p.exts.length ∧ i = .int .i64 k ∧ wr.ownsRow (w.heap.size + 1) 3 1 v k (intV ((p.exts.take k).map (·.1))) ∧ Kp w w.heap.size [(w.heap.size, 31, V)] wr) (fun _ i _ => p.exts.length - (intOf i).toNat)
  case atStart => exact ⟨0, Nat.zero_le _, rfl, own_nil1 _ _ _ _ rfl, HK1.out⟩
  case round =>
    obtain ⟨k, hk, rfl, hown, hq⟩ := hrel
    have HOk := Lib.hid hown
    have HKk := Lib.hid hq
    clear hown hq
    have d35 := HKk.out.hd.at HV35.out
    by_cases hlt : k < p.exts.length
    · obtain ⟨b, ob, rfl, g1, g2⟩ := exs_cells (HX0.out.below HKk.out.2.1 (Nat.le_refl _)) k hlt
      have HSN := Lib.hid (intV_snoc p.exts k hlt)
      have hk2 : (k : Int) < (p.exts.length : Int) := by omega
      generalize p.exts[k] = x at *
      obtain ⟨kd, bd⟩ := x
      dsimp only at g1 g2 HSN
      generalize hLk : intV ((p.exts.take k).map (·.1)) = Lk at *
      have HX1 : Hid (k + 1 ≤ maxLen) := Lib.hid (by unfold maxLen; omega)
      have HX2 : Hid ((k + 1) * 8 ≤ 140737488355328) := Lib.hid (by omega)
      have HX3 : Hid (w.heap.size + 1 ≤ (wr.alloc (.cells #[.int .i64 kd] 3)).heap.size) := Lib.hid (by have := HKk.out.hd.lt; simp; omega)
      go_wp2_with (at_builtin; refine wpList_append_own _ rfl _ _ 88 rfl (w.heap.size + 1) 3 i9 (.int .i64 0) 1 8 Try.underlying88 HI.out H0.out H1.out H2.out rfl Nat.one_pos _ (k) (Lk) rfl (HOk.out.alloc _) ⟨wr.heap.size, 0, none⟩ 1 1 [.int .i64 kd] rfl rfl (World.news_of_block (cs := #[.int .i64 kd]) (t := 3) (fr := (0, 0)) (heap_alloc_new wr _)) (by simp [Value.oneCell']) HX1.out HX2.out HX3.out ?_; intro v1 w3 hown1 hgrow hnil)
      rw [HSN.out] at hown1
      have HO3 := Lib.hid hown1
      have HK3 := Lib.hid (kp_grow HKk.out _ hgrow (fun j hj => (HOk.out.lt j hj).1))
      clear hown1 hgrow hnil hLk
      go_wp2_with fail
      go_roundw
      case rel => exact ⟨k + 1, by omega, by go_num, HO3.out, HK3.out⟩
      case measure => simp [intOf]; omega
    · obtain rfl : k = p.exts.length := by omega
      clear hlt hk HK1
      have d36 := HKk.out.hd.at HV36.out
      have hOk := HOk.out
      rw [List.take_length] at hOk
      have HOk := Lib.hid hOk
      clear hOk
      have d40 := HKk.out.hd.at HV40.out.1
      have HX1 : Hid (p.exts.length + 1 ≤ maxLen) := Lib.hid (by unfold maxLen; omega)
      have HX2 : Hid ((p.exts.length + 1) * 8 ≤ 140737488355328) := Lib.hid (by omega)
      have HX3 : Hid (w.heap.size + 1 ≤ (wr.alloc (.cells #[.int .i64 p.proto] 3)).heap.size) := Lib.hid (by have := HKk.out.hd.lt; simp; omega)
      go_upto_region 12 with (at_builtin; refine wpList_append_own _ rfl _ _ 88 rfl (w.heap.size + 1) 3 i9 (.int .i64 0) 1 8 Try.underlying88 HI.out H0.out H1.out H2.out rfl Nat.one_pos _ (p.exts.length) (intV (p.exts.map (·.1))) rfl (HOk.out.alloc _) ⟨wr.heap.size, 0, none⟩ 1 1 [.int .i64 p.proto] rfl rfl (World.news_of_block (cs := #[.int .i64 p.proto]) (t := 3) (fr := (0, 0)) (heap_alloc_new wr _)) (by simp [Value.oneCell']) HX1.out HX2.out HX3.out ?_; intro v1 w3 hown1 hgrow hnil)
      have hown2 : w3.ownsRow (w.heap.size + 1) 3 1 v1 (p.exts.length + 1) (intV (p.exts.map (·.1) ++ [p.proto])) := by
        rw [← intV_cat, show intV [p.proto] = [.int .i64 p.proto] from rfl]
        exact hown1
      have HK5 := Lib.hid (kp_grow HKk.out _ hgrow (fun j hj => (HOk.out.lt j hj).1))
      obtain ⟨g, cap2, CV, rfl, hg, hbk, hcv⟩ := own_ints hown2 (by omega)
      have HCV : Hid (∀ k, k ≤ p.exts.length → CV[k]? = some (.int .i64 (p.hk k).1)) := Lib.hid (fun k hk => hcv k _ (nxs_at p [p.proto] (by unfold Pk6.st0; rw [HFr.out]; rfl) k hk))
      have HK6 := Lib.hid (kp_cons HK5.out hbk)
      obtain ⟨N, hN⟩ : ∃ N, N = p.exts.length + 1 := ⟨_, rfl⟩
      rw [← hN]
      have hN2 : p.exts.length < N := by omega
      clear hown1 hown2 hgrow hnil HX1 HX2 HX3 hg hbk hcv HK5 hN d40 HKk HOk d36 d35
      go_wp2_with fail
      go_loopw [7, 8] (fun t i wr => ∃ (k : Nat) (s : ByteArray), k ≤ p.exts.length ∧ i = .int .i64 k ∧ t = .string s ∧ s.size ≤ 2048 * k ∧ Hid (s ++ (p.hk k).2 = p.heads.2) ∧ Kp w w.heap.size [(g, 3, CV), (w.heap.size, 31, V)] wr) (fun _ i _ => p.exts.length - (intOf i).toNat)
      case atStart => exact ⟨0, ⟨#[]⟩, Nat.zero_le _, rfl, rfl, Nat.zero_le _, Lib.hid (ByteArray.empty_append), HK6.out⟩
      case round =>
        obtain ⟨k, s, hk, rfl, rfl, hsz, HJ, hq⟩ := hrel
        have HKr := Lib.hid hq
        clear hq
        have d35 := HKr.out.tl.hd.at HV35.out
        by_cases hlt : k < p.exts.length
        · obtain ⟨b, ob, rfl, g1, g2⟩ := exs_cells (HX0.out.below HKr.out.2.1 (Nat.le_refl _)) k hlt
          have HJ2 := Lib.hid (hk_join p k hlt s _ HJ.out)
          have hn := HKr.out.hd.at (HCV.out (k + 1) (by omega))
          obtain ⟨nr0, nr1⟩ := HRG.out (k + 1) (by omega)
          have hb := HGE.out _ (List.getElem_mem hlt)
          have hk2 : (k : Int) < (p.exts.length : Int) := by omega
          have hk3 : (k : Int) + 1 < (N : Int) := by omega
          have hk4 : IntKind.i64.wrap ((k : Int) + 1) = (k : Int) + 1 := IntWalk.i64_in _ (by omega)
          have hk5 : ((k : Int) + 1).toNat = k + 1 := by omega
          have hk6 : (0 : Int) ≤ (k : Int) + 1 := by omega
          obtain ⟨_, hb2, hb3⟩ := hb
          generalize p.heads.2 = HH at *
          generalize hnx : (p.hk (k + 1)).1 = nx at *
          generalize hnb : (p.hk (k + 1)).2 = nb at *
          generalize p.exts[k] = x at *
          obtain ⟨kd, bd⟩ := x
          dsimp only at g1 g2 hb2 hb3 HJ2
          have HNb := Lib.hid hnb
          have A1 := Lib.hid (fun W => pput1 nx nx W nr0 nr1 rfl)
          have A2 := Lib.hid (fun W => pput1 (((bd.size : Int) + 2) / 8 - 1) (((bd.size : Int) - 6) / 8) W (by omega) (by omega) (by omega))
          have k0 : IntKind.i64.wrap ((bd.size : Int) + 2) = (bd.size : Int) + 2 := IntWalk.i64_in _ (by omega)
          have k3 : ((bd.size : Int) + 2).tdiv 8 = ((bd.size : Int) + 2) / 8 := Int.tdiv_eq_ediv_of_nonneg (by omega)
          have k4 : IntKind.i64.wrap (((bd.size : Int) + 2) / 8) = ((bd.size : Int) + 2) / 8 := IntWalk.i64_in _ (by omega)
          have k5 : IntKind.i64.wrap (((bd.size : Int) + 2) / 8 - 1) = ((bd.size : Int) + 2) / 8 - 1 := IntWalk.i64_in _ (by omega)
          have zc := cat_len
          have zs := fun x : Int => (show (strOfNums [x]).size = 1 from rfl)
          have zo1 : ¬ 9223372036854775807 < s.size + 1 := by omega
          have zo2 : ¬ 9223372036854775807 < s.size + 1 + 1 := by omega
          have zo2b : ¬ 9223372036854775807 < s.size + 2 := by omega
          have zo3 : ¬ 9223372036854775807 < s.size + 1 + 1 + bd.size := by omega
          have zo3b : ¬ 9223372036854775807 < s.size + 2 + bd.size := by omega
          clear hnx hnb nr0 nr1 HJ
          go_upto_region 16 with (fail)
          refine wp_region_noPanic ?_
          refine wp_region_held_drew (S := fun w' => Kp w w.heap.size [(g, 3, CV), (w.heap.size, 31, V)] w' ∧ w'.cell? ⟨g, k + 1, none⟩ = some (.int .i64 nx) ∧ w'.cell? ⟨w.heap.size, 35, none⟩ = some (.slice (some ⟨b, ob, none⟩) p.exts.length cap) ∧ w'.cell? ⟨b, ob + k * 2 + 1, none⟩ = some (.string bd)) (by kernel_rfl) (⟨HKr.out.drew, hn, d35, g2⟩) (fun hHeld => ?_)
          refine wpAnyH_take (i := 0) (oi := { dst := some 51, op := Op.move (Operand.tmp 7), type := 9, pos := "ref.go:162", after := #[], guard := none }) (v := ?_) rfl (by kernel_rfl) (by kernel_rfl) (by kernel_rfl) (fun _ _ _ h => h) (Or.inl ⟨by rfl, ?_⟩) (by assumption) ?_
          rotate_left
          · (intro ww hSw; (try dsimp only at hSw); go_simp; try with_reducible rfl)
          (try simp only [Act.put, List.setIfInBounds_toArray, List.set_cons_zero, List.set_cons_succ])
          refine wpAnyH_take (i := 1) (oi := { dst := some 52, op := Op.move (Operand.tmp 5), type := 88, pos := "ref.go:162", after := #[], guard := none }) (v := ?_) rfl (by kernel_rfl) (by kernel_rfl) (by kernel_rfl) (fun _ _ _ h => h) (Or.inl ⟨by rfl, ?_⟩) (by assumption) ?_
          rotate_left
          · (intro ww hSw; (try dsimp only at hSw); go_simp; try with_reducible rfl)
          (try simp only [Act.put, List.setIfInBounds_toArray, List.set_cons_zero, List.set_cons_succ])
          refine wpAnyH_take (i := 2) (oi := { dst := some 53, op := Op.move (Operand.tmp 8), type := 3, pos := "ref.go:162", after := #[], guard := none }) (v := ?_) rfl (by kernel_rfl) (by kernel_rfl) (by kernel_rfl) (fun _ _ _ h => h) (Or.inl ⟨by rfl, ?_⟩) (by assumption) ?_
          rotate_left
          · (intro ww hSw; (try dsimp only at hSw); go_simp; try with_reducible rfl)
          (try simp only [Act.put, List.setIfInBounds_toArray, List.set_cons_zero, List.set_cons_succ])
          refine wpAnyH_take (i := 3) (oi := { dst := some 54, op := Op.binOp BinOp.add 3 (Operand.tmp 53) (Operand.const (Value.int IntKind.i64 1)) 3, type := 3, pos := "ref.go:162", after := #[{ on := 2, ground := Ground.data }], guard := none }) (v := ?_) rfl (by kernel_rfl) (by kernel_rfl) (by kernel_rfl) (fun _ _ _ h => h) (Or.inl ⟨by rfl, ?_⟩) (by assumption) ?_
          rotate_left
          · (intro ww hSw; (try dsimp only at hSw); go_simp; try with_reducible rfl)
          (try simp only [Act.put, List.setIfInBounds_toArray, List.set_cons_zero, List.set_cons_succ])
          refine wpAnyH_take (i := 4) (oi := { dst := some 55, op := Op.indexAddr 88 (Operand.tmp 52) (Operand.tmp 54), type := 0, pos := "ref.go:162", after := #[{ on := 1, ground := Ground.data }, { on := 3, ground := Ground.data }], guard := none }) (v := ?_) rfl (by kernel_rfl) (by kernel_rfl) (by kernel_rfl) (fun _ _ _ h => h) (Or.inl ⟨by rfl, ?_⟩) (by assumption) ?_
          rotate_left
          · (intro ww hSw; (try dsimp only at hSw); go_simp; try with_reducible rfl)
          (try simp only [Act.put, List.setIfInBounds_toArray, List.set_cons_zero, List.set_cons_succ])
          refine wpAnyH_take (i := 5) (oi := { dst := some 56, op := Op.load 3 (Operand.tmp 55), type := 3, pos := "ref.go:162", after := #[{ on := 4, ground := Ground.data }], guard := none }) (v := ?_) rfl (by kernel_rfl) (by kernel_rfl) (by kernel_rfl) (fun _ _ _ h => h) (Or.inl ⟨by rfl, ?_⟩) (by assumption) ?_
          rotate_left
          · (intro ww hSw; (try dsimp only at hSw); go_simp; try with_reducible rfl)
          (try simp only [Act.put, List.setIfInBounds_toArray, List.set_cons_zero, List.set_cons_succ])
          refine wpAnyH_take (i := 8) (oi := { dst := some 59, op := Op.fieldAddr 31 (Operand.tmp 1) 5, type := 0, pos := "ref.go:162", after := #[], guard := none }) (v := ?_) rfl (by kernel_rfl) (by kernel_rfl) (by kernel_rfl) (fun _ _ _ h => h) (Or.inl ⟨by rfl, ?_⟩) (by assumption) ?_
          rotate_left
          · (intro ww hSw; (try dsimp only at hSw); go_simp; try with_reducible rfl)
          (try simp only [Act.put, List.setIfInBounds_toArray, List.set_cons_zero, List.set_cons_succ])
          refine wpAnyH_take (i := 9) (oi := { dst := some 60, op := Op.load 22 (Operand.tmp 59), type := 22, pos := "ref.go:162", after := #[{ on := 8, ground := Ground.data }], guard := none }) (v := ?_) rfl (by kernel_rfl) (by kernel_rfl) (by kernel_rfl) (fun _ _ _ h => h) (Or.inl ⟨by rfl, ?_⟩) (by assumption) ?_
          rotate_left
          · (intro ww hSw; (try dsimp only at hSw); go_simp; try with_reducible rfl)
          (try simp only [Act.put, List.setIfInBounds_toArray, List.set_cons_zero, List.set_cons_succ])
          refine wpAnyH_take (i := 10) (oi := { dst := some 61, op := Op.move (Operand.tmp 8), type := 3, pos := "ref.go:162", after := #[], guard := none }) (v := ?_) rfl (by kernel_rfl) (by kernel_rfl) (by kernel_rfl) (fun _ _ _ h => h) (Or.inl ⟨by rfl, ?_⟩) (by assumption) ?_
          rotate_left
          · (intro ww hSw; (try dsimp only at hSw); go_simp; try with_reducible rfl)
          (try simp only [Act.put, List.setIfInBounds_toArray, List.set_cons_zero, List.set_cons_succ])
          refine wpAnyH_take (i := 11) (oi := { dst := some 62, op := Op.indexAddr 22 (Operand.tmp 60) (Operand.tmp 61), type := 0, pos := "ref.go:162", after := #[{ on := 9, ground := Ground.data }, { on := 10, ground := Ground.data }], guard := none }) (v := ?_) rfl (by kernel_rfl) (by kernel_rfl) (by kernel_rfl) (fun _ _ _ h => h) (Or.inl ⟨by rfl, ?_⟩) (by assumption) ?_
          rotate_left
          · (intro ww hSw; (try dsimp only at hSw); go_simp; try with_reducible rfl)
          (try simp only [Act.put, List.setIfInBounds_toArray, List.set_cons_zero, List.set_cons_succ])
          refine wpAnyH_take (i := 12) (oi := { dst := some 63, op := Op.fieldAddr 40 (Operand.tmp 62) 1, type := 0, pos := "ref.go:162", after := #[{ on := 11, ground := Ground.data }], guard := none }) (v := ?_) rfl (by kernel_rfl) (by kernel_rfl) (by kernel_rfl) (fun _ _ _ h => h) (Or.inl ⟨by rfl, ?_⟩) (by assumption) ?_
          rotate_left
          · (intro ww hSw; (try dsimp only at hSw); go_simp; try with_reducible rfl)
          (try simp only [Act.put, List.setIfInBounds_toArray, List.set_cons_zero, List.set_cons_succ])
          refine wpAnyH_take (i := 13) (oi := { dst := some 64, op := Op.load 9 (Operand.tmp 63), type := 9, pos := "ref.go:162", after := #[{ on := 12, ground := Ground.data }], guard := none }) (v := ?_) rfl (by kernel_rfl) (by kernel_rfl) (by kernel_rfl) (fun _ _ _ h => h) (Or.inl ⟨by rfl, ?_⟩) (by assumption) ?_
          rotate_left
          · (intro ww hSw; (try dsimp only at hSw); go_simp; try with_reducible rfl)
          (try simp only [Act.put, List.setIfInBounds_toArray, List.set_cons_zero, List.set_cons_succ])
          refine wpAnyH_take (i := 14) (oi := { dst := some 65, op := Op.call { callee := Callee.builtin Builtin.len, args := #[Operand.tmp 64], argTypes := #[9] }, type := 3, pos := "ref.go:162", after := #[{ on := 13, ground := Ground.data }], guard := none }) (v := ?_) rfl (by kernel_rfl) (by kernel_rfl) (by kernel_rfl) (fun _ _ _ h => h) (Or.inl ⟨by rfl, ?_⟩) (by assumption) ?_
          rotate_left
          · (intro ww hSw; (try dsimp only at hSw); go_simp; try with_reducible rfl)
          (try simp only [Act.put, List.setIfInBounds_toArray, List.set_cons_zero, List.set_cons_succ])
          refine wpAnyH_take (i := 15) (oi := { dst := some 66, op := Op.binOp BinOp.add 3 (Operand.tmp 65) (Operand.const (Value.int IntKind.i64 2)) 3, type := 3, pos := "ref.go:162", after := #[{ on := 14, ground := Ground.data }], guard := none }) (v := ?_) rfl (by kernel_rfl) (by kernel_rfl) (by kernel_rfl) (fun _ _ _ h => h) (Or.inl ⟨by rfl, ?_⟩) (by assumption) ?_
          rotate_left
          · (intro ww hSw; (try dsimp only at hSw); go_simp; try with_reducible rfl)
          (try simp only [Act.put, List.setIfInBounds_toArray, List.set_cons_zero, List.set_cons_succ])
          refine wpAnyH_take (i := 16) (oi := { dst := some 67, op := Op.binOp BinOp.quo 3 (Operand.tmp 66) (Operand.const (Value.int IntKind.i64 8)) 3, type := 3, pos := "ref.go:162", after := #[{ on := 15, ground := Ground.data }], guard := none }) (v := ?_) rfl (by kernel_rfl) (by kernel_rfl) (by kernel_rfl) (fun _ _ _ h => h) (Or.inl ⟨by rfl, ?_⟩) (by assumption) ?_
          rotate_left
          · (intro ww hSw; (try dsimp only at hSw); go_simp; try with_reducible rfl)
          (try simp only [Act.put, List.setIfInBounds_toArray, List.set_cons_zero, List.set_cons_succ])
          refine wpAnyH_take (i := 17) (oi := { dst := some 68, op := Op.binOp BinOp.sub 3 (Operand.tmp 67) (Operand.const (Value.int IntKind.i64 1)) 3, type := 3, pos := "ref.go:162", after := #[{ on := 16, ground := Ground.data }], guard := none }) (v := ?_) rfl (by kernel_rfl) (by kernel_rfl) (by kernel_rfl) (fun _ _ _ h => h) (Or.inl ⟨by rfl, ?_⟩) (by assumption) ?_
          rotate_left
          · (intro ww hSw; (try dsimp only at hSw); go_simp; try with_reducible rfl)
          (try simp only [Act.put, List.setIfInBounds_toArray, List.set_cons_zero, List.set_cons_succ])
          refine wpAnyH_take (i := 20) (oi := { dst := some 71, op := Op.fieldAddr 31 (Operand.tmp 1) 5, type := 0, pos := "ref.go:162", after := #[], guard := none }) (v := ?_) rfl (by kernel_rfl) (by kernel_rfl) (by kernel_rfl) (fun _ _ _ h => h) (Or.inl ⟨by rfl, ?_⟩) (by assumption) ?_
          rotate_left
          · (intro ww hSw; (try dsimp only at hSw); go_simp; try with_reducible rfl)
          (try simp only [Act.put, List.setIfInBounds_toArray, List.set_cons_zero, List.set_cons_succ])
          refine wpAnyH_take (i := 21) (oi := { dst := some 72, op := Op.load 22 (Operand.tmp 71), type := 22, pos := "ref.go:162", after := #[{ on := 20, ground := Ground.data }], guard := none }) (v := ?_) rfl (by kernel_rfl) (by kernel_rfl) (by kernel_rfl) (fun _ _ _ h => h) (Or.inl ⟨by rfl, ?_⟩) (by assumption) ?_
          rotate_left
          · (intro ww hSw; (try dsimp only at hSw); go_simp; try with_reducible rfl)
          (try simp only [Act.put, List.setIfInBounds_toArray, List.set_cons_zero, List.set_cons_succ])
          refine wpAnyH_take (i := 22) (oi := { dst := some 73, op := Op.move (Operand.tmp 8), type := 3, pos := "ref.go:162", after := #[], guard := none }) (v := ?_) rfl (by kernel_rfl) (by kernel_rfl) (by kernel_rfl) (fun _ _ _ h => h) (Or.inl ⟨by rfl, ?_⟩) (by assumption) ?_
          rotate_left
          · (intro ww hSw; (try dsimp only at hSw); go_simp; try with_reducible rfl)
          (try simp only [Act.put, List.setIfInBounds_toArray, List.set_cons_zero, List.set_cons_succ])
          refine wpAnyH_take (i := 23) (oi := { dst := some 74, op := Op.indexAddr 22 (Operand.tmp 72) (Operand.tmp 73), type := 0, pos := "ref.go:162", after := #[{ on := 21, ground := Ground.data }, { on := 22, ground := Ground.data }], guard := none }) (v := ?_) rfl (by kernel_rfl) (by kernel_rfl) (by kernel_rfl) (fun _ _ _ h => h) (Or.inl ⟨by rfl, ?_⟩) (by assumption) ?_
          rotate_left
          · (intro ww hSw; (try dsimp only at hSw); go_simp; try with_reducible rfl)
          (try simp only [Act.put, List.setIfInBounds_toArray, List.set_cons_zero, List.set_cons_succ])
          refine wpAnyH_take (i := 24) (oi := { dst := some 75, op := Op.fieldAddr 40 (Operand.tmp 74) 1, type := 0, pos := "ref.go:162", after := #[{ on := 23, ground := Ground.data }], guard := none }) (v := ?_) rfl (by kernel_rfl) (by kernel_rfl) (by kernel_rfl) (fun _ _ _ h => h) (Or.inl ⟨by rfl, ?_⟩) (by assumption) ?_
          rotate_left
          · (intro ww hSw; (try dsimp only at hSw); go_simp; try with_reducible rfl)
          (try simp only [Act.put, List.setIfInBounds_toArray, List.set_cons_zero, List.set_cons_succ])
          refine wpAnyH_take (i := 25) (oi := { dst := some 76, op := Op.load 9 (Operand.tmp 75), type := 9, pos := "ref.go:162", after := #[{ on := 24, ground := Ground.data }], guard := none }) (v := ?_) rfl (by kernel_rfl) (by kernel_rfl) (by kernel_rfl) (fun _ _ _ h => h) (Or.inl ⟨by rfl, ?_⟩) (by assumption) ?_
          rotate_left
          · (intro ww hSw; (try dsimp only at hSw); go_simp; try with_reducible rfl)
          (try simp only [Act.put, List.setIfInBounds_toArray, List.set_cons_zero, List.set_cons_succ])
          refine wpAnyH_ready (rs := [6]) (by kernel_rfl) (by simp) ?_
          refine AllReadyH.cons (o := { dst := some 57, op := Op.call { callee := Callee.value (Operand.func 42), args := #[Operand.tmp 56, Operand.const (Value.int IntKind.i64 1)], argTypes := #[3, 3] }, type := 9, pos := "ref.go:162", after := #[{ on := 5, ground := Ground.data }], guard := none }) rfl (fun K hK => ?_) AllReadyH.nil
          go_simp
          ((with_reducible refine (A1.out _).mono ?_); rintro e w9 ⟨rfl, hb9⟩)
          refine hK.out _ _ (⟨(And.left hHeld).below hb9 (Nat.le_refl _), cell_on hHeld.2.1 hb9, cell_on hHeld.2.2.1 hb9, cell_on hHeld.2.2.2 hb9⟩) (fun hHeld => ?_)
          clear hK K
          (try simp only [Act.put, List.setIfInBounds_toArray, List.set_cons_zero, List.set_cons_succ])
          refine wpAnyH_take (i := 7) (oi := { dst := some 58, op := Op.binOp BinOp.add 9 (Operand.tmp 51) (Operand.tmp 57) 9, type := 9, pos := "ref.go:162", after := #[{ on := 0, ground := Ground.data }, { on := 6, ground := Ground.data }], guard := none }) (v := ?_) rfl (by kernel_rfl) (by kernel_rfl) (by kernel_rfl) (fun _ _ _ h => h) (Or.inl ⟨by rfl, ?_⟩) (by assumption) ?_
          rotate_left
          · (intro ww hSw; (try dsimp only at hSw); go_simp; try with_reducible rfl)
          (try simp only [Act.put, List.setIfInBounds_toArray, List.set_cons_zero, List.set_cons_succ])
          refine wpAnyH_ready (rs := [18]) (by kernel_rfl) (by simp) ?_
          refine AllReadyH.cons (o := { dst := some 69, op := Op.call { callee := Callee.value (Operand.func 42), args := #[Operand.tmp 68, Operand.const (Value.int IntKind.i64 1)], argTypes := #[3, 3] }, type := 9, pos := "ref.go:162", after := #[{ on := 17, ground := Ground.data }, { on := 6, ground := Ground.chain }], guard := none }) rfl (fun K hK => ?_) AllReadyH.nil
          go_simp
          ((with_reducible refine (A2.out _).mono ?_); rintro e w9 ⟨rfl, hb9⟩)
          refine hK.out _ _ (⟨(And.left hHeld).below hb9 (Nat.le_refl _), cell_on hHeld.2.1 hb9, cell_on hHeld.2.2.1 hb9, cell_on hHeld.2.2.2 hb9⟩) (fun hHeld => ?_)
          clear hK K
          (try simp only [Act.put, List.setIfInBounds_toArray, List.set_cons_zero, List.set_cons_succ])
          refine wpAnyH_take (i := 19) (oi := { dst := some 70, op := Op.binOp BinOp.add 9 (Operand.tmp 58) (Operand.tmp 69) 9, type := 9, pos := "ref.go:162", after := #[{ on := 7, ground := Ground.data }, { on := 18, ground := Ground.data }], guard := none }) (v := ?_) rfl (by kernel_rfl) (by kernel_rfl) (by kernel_rfl) (fun _ _ _ h => h) (Or.inl ⟨by rfl, ?_⟩) (by assumption) ?_
          rotate_left
          · (intro ww hSw; (try dsimp only at hSw); go_simp; try with_reducible rfl)
          (try simp only [Act.put, List.setIfInBounds_toArray, List.set_cons_zero, List.set_cons_succ])
          refine wpAnyH_take (i := 26) (oi := { dst := some 77, op := Op.binOp BinOp.add 9 (Operand.tmp 70) (Operand.tmp 76) 9, type := 9, pos := "ref.go:162", after := #[{ on := 19, ground := Ground.data }, { on := 25, ground := Ground.data }], guard := none }) (v := ?_) rfl (by kernel_rfl) (by kernel_rfl) (by kernel_rfl) (fun _ _ _ h => h) (Or.inl ⟨by rfl, ?_⟩) (by assumption) ?_
          rotate_left
          · (intro ww hSw; (try dsimp only at hSw); go_simp; try with_reducible rfl)
          (try simp only [Act.put, List.setIfInBounds_toArray, List.set_cons_zero, List.set_cons_succ])
          refine wpAnyH_take (i := 27) (oi := { dst := some 7, op := Op.assign (Operand.tmp 77), type := 9, pos := "ref.go:162", after := #[{ on := 26, ground := Ground.data }, { on := 18, ground := Ground.chain }, { on := 0, ground := Ground.phase }, { on := 1, ground := Ground.phase }, { on := 2, ground := Ground.phase }, { on := 3, ground := Ground.phase }, { on := 4, ground := Ground.phase }, { on := 5, ground := Ground.phase }, { on := 6, ground := Ground.phase }, { on := 7, ground := Ground.phase }, { on := 8, ground := Ground.phase }, { on := 9, ground := Ground.phase }, { on := 10, ground := Ground.phase }, { on := 11, ground := Ground.phase }, { on := 12, ground := Ground.phase }, { on := 13, ground := Ground.phase }, { on := 14, ground := Ground.phase }, { on := 15, ground := Ground.phase }, { on := 16, ground := Ground.phase }, { on := 17, ground := Ground.phase }, { on := 18, ground := Ground.phase }, { on := 19, ground := Ground.phase }, { on := 20, ground := Ground.phase }, { on := 21, ground := Ground.phase }, { on := 22, ground := Ground.phase }, { on := 23, ground := Ground.phase }, { on := 24, ground := Ground.phase }, { on := 25, ground := Ground.phase }, { on := 26, ground := Ground.phase }], guard := none }) (v := ?_) rfl (by kernel_rfl) (by kernel_rfl) (by kernel_rfl) (fun _ _ _ h => h) (Or.inl ⟨by rfl, ?_⟩) (by assumption) ?_
          rotate_left
          · (intro ww hSw; (try dsimp only at hSw); go_simp; try with_reducible rfl)
          (try simp only [Act.put, List.setIfInBounds_toArray, List.set_cons_zero, List.set_cons_succ])
          refine wpAnyH_done (by kernel_rfl) ?_ _
          refine NoPanic.normal ?_
          have HKs := Lib.hid (And.left hHeld)
          clear hHeld A1 A2 k0 k3 k4 k5 hk3 hk4 hk5 hk6 zo1 zo2 zo2b zo3 zo3b hn g1 g2 d35
          have hYz : (s ++ strOfNums [nx] ++ strOfNums [((bd.size : Int) - 6) / 8] ++ bd).size ≤ 2048 * (k + 1) := by rw [zc, zc, zc, zs, zs]; omega
          generalize s ++ strOfNums [nx] ++ strOfNums [((bd.size : Int) - 6) / 8] ++ bd = Y at *
          clear zc zs
          go_wp2_with fail
          go_roundw
          case rel => exact ⟨k + 1, Y, by omega, by go_num, rfl, hYz, Lib.hid (by rw [HNb.out]; exact HJ2.out), HKs.out⟩
          case measure => simp [intOf]; omega
        · obtain rfl : k = p.exts.length := by omega
          clear hlt hk HK6
          have d36 := HKr.out.tl.hd.at HV36.out
          have hT := end_whole HFr.out HJ.out
          subst hT
          have HKt := HKr
          clear HJ hsz
          have hnx := HCV.out 0 (Nat.zero_le _)
          rw [hk_zero] at hnx
          have hrr := HRG.out 0 (Nat.zero_le _)
          rw [hk_zero] at hrr
          generalize p.heads.2 = HH at *
          generalize p.heads.1 = n0 at *
          have HKu := HKt
          clear HKt HKr
          have d41 := HKu.out.tl.hd.at HV40.out.2
          have zc := cat_len
          have zoH : ¬ 9223372036854775807 < HH.size + p.data.size := by omega
          go_upto_region 23 with (fail)
          have e0 := HKu.out.tl.hd.at HV0.out.1
          have e1 := HKu.out.tl.hd.at HV0.out.2.1
          have e2 := HKu.out.tl.hd.at HV0.out.2.2
          have e3 := HKu.out.hd.at hnx
          have B1 : Hid (∀ W, Calls Try.prog 42 #[.int .i64 (1610612736 + p.cls * 1048576 + p.flow), .int .i64 4] W fun e w' => e = .returned (.string (strOfNums [p.word / 16777216, p.word / 65536 % 256, p.word / 256 % 256, p.word % 256])) ∧ Below W.heap.size W w') := Lib.hid (fun W => pput4 (1610612736 + p.cls * 1048576 + p.flow) W (by omega) (by omega))
          have B2 := Lib.hid (fun W => pput2 ((HH.size : Int) + (p.data.size : Int)) W (by omega) (by omega))
          have B3 := Lib.hid (fun W => pput1 n0 n0 W hrr.1 hrr.2 rfl)
          have B4 := Lib.hid (fun W => pput1 p.hop p.hop W HHop.out.1 HHop.out.2 rfl)
          have ks : IntKind.i64.wrap (p.cls * 1048576) = p.cls * 1048576 := IntWalk.i64_in _ (by omega)
          have kt : IntKind.i64.wrap (1610612736 + p.cls * 1048576) = 1610612736 + p.cls * 1048576 := IntWalk.i64_in _ (by omega)
          have ku : IntKind.i64.wrap (1610612736 + p.cls * 1048576 + p.flow) = 1610612736 + p.cls * 1048576 + p.flow := IntWalk.i64_in _ (by omega)
          have zs := fun x : Int => (show (strOfNums [x]).size = 1 from rfl)
          have zd := fun x y : Int => (show (strOfNums [x, y]).size = 2 from rfl)
          have zq := fun x y z t : Int => (show (strOfNums [x, y, z, t]).size = 4 from rfl)
          have hN0 : (0 : Int) < (N : Int) := by omega
          have hN0b : 0 < N := by omega
          have HZZ := Lib.hid hzz
          clear hzz
          refine wp_region_noPanic ?_
          refine wp_region_held_drew (S := fun w' => Kp w w.heap.size [(g, 3, CV), (w.heap.size, 31, V)] w' ∧ w'.cell? ⟨w.heap.size, 0, none⟩ = some (.int .i64 p.cls) ∧ w'.cell? ⟨w.heap.size, 1, none⟩ = some (.int .i64 p.flow) ∧ w'.cell? ⟨w.heap.size, 2, none⟩ = some (.int .i64 p.hop) ∧ w'.cell? ⟨g, 0, none⟩ = some (.int .i64 n0)) (by kernel_rfl) (⟨HKu.out.drew, e0, e1, e2, e3⟩) (fun hHeld => ?_)
          refine wpAnyH_take (i := 0) (oi := { dst := some 105, op := Op.fieldAddr 31 (Operand.tmp 1) 0, type := 0, pos := "ref.go:172", after := #[], guard := none }) (v := ?_) rfl (by kernel_rfl) (by kernel_rfl) (by kernel_rfl) (fun _ _ _ h => h) (Or.inl ⟨by rfl, ?_⟩) (by assumption) ?_
          rotate_left
          · (intro ww hSw; (try dsimp only at hSw); go_simp; try with_reducible rfl)
          (try simp only [Act.put, List.setIfInBounds_toArray, List.set_cons_zero, List.set_cons_succ])
          refine wpAnyH_take (i := 1) (oi := { dst := some 106, op := Op.load 3 (Operand.tmp 105), type := 3, pos := "ref.go:172", after := #[{ on := 0, ground := Ground.data }], guard := none }) (v := ?_) rfl (by kernel_rfl) (by kernel_rfl) (by kernel_rfl) (fun _ _ _ h => h) (Or.inl ⟨by rfl, ?_⟩) (by assumption) ?_
          rotate_left
          · (intro ww hSw; (try dsimp only at hSw); go_simp; try with_reducible rfl)
          (try simp only [Act.put, List.setIfInBounds_toArray, List.set_cons_zero, List.set_cons_succ])
          refine wpAnyH_take (i := 2) (oi := { dst := some 107, op := Op.binOp BinOp.mul 3 (Operand.tmp 106) (Operand.const (Value.int IntKind.i64 1048576)) 3, type := 3, pos := "ref.go:172", after := #[{ on := 1, ground := Ground.data }], guard := none }) (v := ?_) rfl (by kernel_rfl) (by kernel_rfl) (by kernel_rfl) (fun _ _ _ h => h) (Or.inl ⟨by rfl, ?_⟩) (by assumption) ?_
          rotate_left
          · (intro ww hSw; (try dsimp only at hSw); go_simp; try with_reducible rfl)
          (try simp only [Act.put, List.setIfInBounds_toArray, List.set_cons_zero, List.set_cons_succ])
          refine wpAnyH_take (i := 3) (oi := { dst := some 108, op := Op.binOp BinOp.add 3 (Operand.const (Value.int IntKind.i64 1610612736)) (Operand.tmp 107) 3, type := 3, pos := "ref.go:172", after := #[{ on := 2, ground := Ground.data }], guard := none }) (v := ?_) rfl (by kernel_rfl) (by kernel_rfl) (by kernel_rfl) (fun _ _ _ h => h) (Or.inl ⟨by rfl, ?_⟩) (by assumption) ?_
          rotate_left
          · (intro ww hSw; (try dsimp only at hSw); go_simp; try with_reducible rfl)
          (try simp only [Act.put, List.setIfInBounds_toArray, List.set_cons_zero, List.set_cons_succ])
          refine wpAnyH_take (i := 4) (oi := { dst := some 109, op := Op.fieldAddr 31 (Operand.tmp 1) 1, type := 0, pos := "ref.go:172", after := #[], guard := none }) (v := ?_) rfl (by kernel_rfl) (by kernel_rfl) (by kernel_rfl) (fun _ _ _ h => h) (Or.inl ⟨by rfl, ?_⟩) (by assumption) ?_
          rotate_left
          · (intro ww hSw; (try dsimp only at hSw); go_simp; try with_reducible rfl)
          (try simp only [Act.put, List.setIfInBounds_toArray, List.set_cons_zero, List.set_cons_succ])
          refine wpAnyH_take (i := 5) (oi := { dst := some 110, op := Op.load 3 (Operand.tmp 109), type := 3, pos := "ref.go:172", after := #[{ on := 4, ground := Ground.data }], guard := none }) (v := ?_) rfl (by kernel_rfl) (by kernel_rfl) (by kernel_rfl) (fun _ _ _ h => h) (Or.inl ⟨by rfl, ?_⟩) (by assumption) ?_
          rotate_left
          · (intro ww hSw; (try dsimp only at hSw); go_simp; try with_reducible rfl)
          (try simp only [Act.put, List.setIfInBounds_toArray, List.set_cons_zero, List.set_cons_succ])
          refine wpAnyH_take (i := 6) (oi := { dst := some 111, op := Op.binOp BinOp.add 3 (Operand.tmp 108) (Operand.tmp 110) 3, type := 3, pos := "ref.go:172", after := #[{ on := 3, ground := Ground.data }, { on := 5, ground := Ground.data }], guard := none }) (v := ?_) rfl (by kernel_rfl) (by kernel_rfl) (by kernel_rfl) (fun _ _ _ h => h) (Or.inl ⟨by rfl, ?_⟩) (by assumption) ?_
          rotate_left
          · (intro ww hSw; (try dsimp only at hSw); go_simp; try with_reducible rfl)
          (try simp only [Act.put, List.setIfInBounds_toArray, List.set_cons_zero, List.set_cons_succ])
          refine wpAnyH_take (i := 8) (oi := { dst := some 113, op := Op.move (Operand.tmp 7), type := 9, pos := "ref.go:172", after := #[], guard := none }) (v := ?_) rfl (by kernel_rfl) (by kernel_rfl) (by kernel_rfl) (fun _ _ _ h => h) (Or.inl ⟨by rfl, ?_⟩) (by assumption) ?_
          rotate_left
          · (intro ww hSw; (try dsimp only at hSw); go_simp; try with_reducible rfl)
          (try simp only [Act.put, List.setIfInBounds_toArray, List.set_cons_zero, List.set_cons_succ])
          refine wpAnyH_take (i := 9) (oi := { dst := some 114, op := Op.call { callee := Callee.builtin Builtin.len, args := #[Operand.tmp 113], argTypes := #[9] }, type := 3, pos := "ref.go:172", after := #[{ on := 8, ground := Ground.data }], guard := none }) (v := ?_) rfl (by kernel_rfl) (by kernel_rfl) (by kernel_rfl) (fun _ _ _ h => h) (Or.inl ⟨by rfl, ?_⟩) (by assumption) ?_
          rotate_left
          · (intro ww hSw; (try dsimp only at hSw); go_simp; try with_reducible rfl)
          (try simp only [Act.put, List.setIfInBounds_toArray, List.set_cons_zero, List.set_cons_succ])
          refine wpAnyH_take (i := 12) (oi := { dst := some 117, op := Op.move (Operand.tmp 5), type := 88, pos := "ref.go:172", after := #[], guard := none }) (v := ?_) rfl (by kernel_rfl) (by kernel_rfl) (by kernel_rfl) (fun _ _ _ h => h) (Or.inl ⟨by rfl, ?_⟩) (by assumption) ?_
          rotate_left
          · (intro ww hSw; (try dsimp only at hSw); go_simp; try with_reducible rfl)
          (try simp only [Act.put, List.setIfInBounds_toArray, List.set_cons_zero, List.set_cons_succ])
          refine wpAnyH_take (i := 13) (oi := { dst := some 118, op := Op.indexAddr 88 (Operand.tmp 117) (Operand.const (Value.int IntKind.i64 0)), type := 0, pos := "ref.go:172", after := #[{ on := 12, ground := Ground.data }], guard := none }) (v := ?_) rfl (by kernel_rfl) (by kernel_rfl) (by kernel_rfl) (fun _ _ _ h => h) (Or.inl ⟨by rfl, ?_⟩) (by assumption) ?_
          rotate_left
          · (intro ww hSw; (try dsimp only at hSw); go_simp; try with_reducible rfl)
          (try simp only [Act.put, List.setIfInBounds_toArray, List.set_cons_zero, List.set_cons_succ])
          refine wpAnyH_take (i := 14) (oi := { dst := some 119, op := Op.load 3 (Operand.tmp 118), type := 3, pos := "ref.go:172", after := #[{ on := 13, ground := Ground.data }], guard := none }) (v := ?_) rfl (by kernel_rfl) (by kernel_rfl) (by kernel_rfl) (fun _ _ _ h => h) (Or.inl ⟨by rfl, ?_⟩) (by assumption) ?_
          rotate_left
          · (intro ww hSw; (try dsimp only at hSw); go_simp; try with_reducible rfl)
          (try simp only [Act.put, List.setIfInBounds_toArray, List.set_cons_zero, List.set_cons_succ])
          refine wpAnyH_take (i := 17) (oi := { dst := some 122, op := Op.fieldAddr 31 (Operand.tmp 1) 2, type := 0, pos := "ref.go:172", after := #[], guard := none }) (v := ?_) rfl (by kernel_rfl) (by kernel_rfl) (by kernel_rfl) (fun _ _ _ h => h) (Or.inl ⟨by rfl, ?_⟩) (by assumption) ?_
          rotate_left
          · (intro ww hSw; (try dsimp only at hSw); go_simp; try with_reducible rfl)
          (try simp only [Act.put, List.setIfInBounds_toArray, List.set_cons_zero, List.set_cons_succ])
          refine wpAnyH_take (i := 18) (oi := { dst := some 123, op := Op.load 3 (Operand.tmp 122), type := 3, pos := "ref.go:172", after := #[{ on := 17, ground := Ground.data }], guard := none }) (v := ?_) rfl (by kernel_rfl) (by kernel_rfl) (by kernel_rfl) (fun _ _ _ h => h) (Or.inl ⟨by rfl, ?_⟩) (by assumption) ?_
          rotate_left
          · (intro ww hSw; (try dsimp only at hSw); go_simp; try with_reducible rfl)
          (try simp only [Act.put, List.setIfInBounds_toArray, List.set_cons_zero, List.set_cons_succ])
          refine wpAnyH_ready (rs := [7]) (by kernel_rfl) (by simp) ?_
          refine AllReadyH.cons (o := { dst := some 112, op := Op.call { callee := Callee.value (Operand.func 42), args := #[Operand.tmp 111, Operand.const (Value.int IntKind.i64 4)], argTypes := #[3, 3] }, type := 9, pos := "ref.go:172", after := #[{ on := 6, ground := Ground.data }], guard := none }) rfl (fun K hK => ?_) AllReadyH.nil
          go_simp
          ((with_reducible refine (B1.out _).mono ?_); rintro e w9 ⟨rfl, hb9⟩)
          refine hK.out _ _ (⟨(And.left hHeld).below hb9 (Nat.le_refl _), cell_on hHeld.2.1 hb9, cell_on hHeld.2.2.1 hb9, cell_on hHeld.2.2.2.1 hb9, cell_on hHeld.2.2.2.2 hb9⟩) (fun hHeld => ?_)
          clear hK K
          (try simp only [Act.put, List.setIfInBounds_toArray, List.set_cons_zero, List.set_cons_succ])
          refine wpAnyH_ready (rs := [10]) (by kernel_rfl) (by simp) ?_
          refine AllReadyH.cons (o := { dst := some 115, op := Op.call { callee := Callee.value (Operand.func 42), args := #[Operand.tmp 114, Operand.const (Value.int IntKind.i64 2)], argTypes := #[3, 3] }, type := 9, pos := "ref.go:172", after := #[{ on := 9, ground := Ground.data }, { on := 7, ground := Ground.chain }], guard := none }) rfl (fun K hK => ?_) AllReadyH.nil
          go_simp
          ((with_reducible refine (B2.out _).mono ?_); rintro e w9 ⟨rfl, hb9⟩)
          refine hK.out _ _ (⟨(And.left hHeld).below hb9 (Nat.le_refl _), cell_on hHeld.2.1 hb9, cell_on hHeld.2.2.1 hb9, cell_on hHeld.2.2.2.1 hb9, cell_on hHeld.2.2.2.2 hb9⟩) (fun hHeld => ?_)
          clear hK K
          (try simp only [Act.put, List.setIfInBounds_toArray, List.set_cons_zero, List.set_cons_succ])
          refine wpAnyH_take (i := 11) (oi := { dst := some 116, op := Op.binOp BinOp.add 9 (Operand.tmp 112) (Operand.tmp 115) 9, type := 9, pos := "ref.go:172", after := #[{ on := 7, ground := Ground.data }, { on := 10, ground := Ground.data }], guard := none }) (v := ?_) rfl (by kernel_rfl) (by kernel_rfl) (by kernel_rfl) (fun _ _ _ h => h) (Or.inl ⟨by rfl, ?_⟩) (by assumption) ?_
          rotate_left
          · (intro ww hSw; (try dsimp only at hSw); go_simp; try with_reducible rfl)
          (try simp only [Act.put, List.setIfInBounds_toArray, List.set_cons_zero, List.set_cons_succ])
          refine wpAnyH_ready (rs := [15]) (by kernel_rfl) (by simp) ?_
          refine AllReadyH.cons (o := { dst := some 120, op := Op.call { callee := Callee.value (Operand.func 42), args := #[Operand.tmp 119, Operand.const (Value.int IntKind.i64 1)], argTypes := #[3, 3] }, type := 9, pos := "ref.go:172", after := #[{ on := 14, ground := Ground.data }, { on := 10, ground := Ground.chain }], guard := none }) rfl (fun K hK => ?_) AllReadyH.nil
          go_simp
          ((with_reducible refine (B3.out _).mono ?_); rintro e w9 ⟨rfl, hb9⟩)
          refine hK.out _ _ (⟨(And.left hHeld).below hb9 (Nat.le_refl _), cell_on hHeld.2.1 hb9, cell_on hHeld.2.2.1 hb9, cell_on hHeld.2.2.2.1 hb9, cell_on hHeld.2.2.2.2 hb9⟩) (fun hHeld => ?_)
          clear hK K
          (try simp only [Act.put, List.setIfInBounds_toArray, List.set_cons_zero, List.set_cons_succ])
          refine wpAnyH_take (i := 16) (oi := { dst := some 121, op := Op.binOp BinOp.add 9 (Operand.tmp 116) (Operand.tmp 120) 9, type := 9, pos := "ref.go:172", after := #[{ on := 11, ground := Ground.data }, { on := 15, ground := Ground.data }], guard := none }) (v := ?_) rfl (by kernel_rfl) (by kernel_rfl) (by kernel_rfl) (fun _ _ _ h => h) (Or.inl ⟨by rfl, ?_⟩) (by assumption) ?_
          rotate_left
          · (intro ww hSw; (try dsimp only at hSw); go_simp; try with_reducible rfl)
          (try simp only [Act.put, List.setIfInBounds_toArray, List.set_cons_zero, List.set_cons_succ])
          refine wpAnyH_ready (rs := [19]) (by kernel_rfl) (by simp) ?_
          refine AllReadyH.cons (o := { dst := some 124, op := Op.call { callee := Callee.value (Operand.func 42), args := #[Operand.tmp 123, Operand.const (Value.int IntKind.i64 1)], argTypes := #[3, 3] }, type := 9, pos := "ref.go:172", after := #[{ on := 18, ground := Ground.data }, { on := 15, ground := Ground.chain }], guard := none }) rfl (fun K hK => ?_) AllReadyH.nil
          go_simp
          ((with_reducible refine (B4.out _).mono ?_); rintro e w9 ⟨rfl, hb9⟩)
          refine hK.out _ _ (⟨(And.left hHeld).below hb9 (Nat.le_refl _), cell_on hHeld.2.1 hb9, cell_on hHeld.2.2.1 hb9, cell_on hHeld.2.2.2.1 hb9, cell_on hHeld.2.2.2.2 hb9⟩) (fun hHeld => ?_)
          clear hK K
          (try simp only [Act.put, List.setIfInBounds_toArray, List.set_cons_zero, List.set_cons_succ])
          refine wpAnyH_take (i := 20) (oi := { dst := some 125, op := Op.binOp BinOp.add 9 (Operand.tmp 121) (Operand.tmp 124) 9, type := 9, pos := "ref.go:172", after := #[{ on := 16, ground := Ground.data }, { on := 19, ground := Ground.data }], guard := none }) (v := ?_) rfl (by kernel_rfl) (by kernel_rfl) (by kernel_rfl) (fun _ _ _ h => h) (Or.inl ⟨by rfl, ?_⟩) (by assumption) ?_
          rotate_left
          · (intro ww hSw; (try dsimp only at hSw); go_simp; try with_reducible rfl)
          (try simp only [Act.put, List.setIfInBounds_toArray, List.set_cons_zero, List.set_cons_succ])
          refine wpAnyH_take (i := 21) (oi := { dst := some 10, op := Op.assign (Operand.tmp 125), type := 9, pos := "ref.go:172", after := #[{ on := 20, ground := Ground.data }, { on := 19, ground := Ground.chain }, { on := 0, ground := Ground.phase }, { on := 1, ground := Ground.phase }, { on := 2, ground := Ground.phase }, { on := 3, ground := Ground.phase }, { on := 4, ground := Ground.phase }, { on := 5, ground := Ground.phase }, { on := 6, ground := Ground.phase }, { on := 7, ground := Ground.phase }, { on := 8, ground := Ground.phase }, { on := 9, ground := Ground.phase }, { on := 10, ground := Ground.phase }, { on := 11, ground := Ground.phase }, { on := 12, ground := Ground.phase }, { on := 13, ground := Ground.phase }, { on := 14, ground := Ground.phase }, { on := 15, ground := Ground.phase }, { on := 16, ground := Ground.phase }, { on := 17, ground := Ground.phase }, { on := 18, ground := Ground.phase }, { on := 19, ground := Ground.phase }, { on := 20, ground := Ground.phase }], guard := none }) (v := ?_) rfl (by kernel_rfl) (by kernel_rfl) (by kernel_rfl) (fun _ _ _ h => h) (Or.inl ⟨by rfl, ?_⟩) (by assumption) ?_
          rotate_left
          · (intro ww hSw; (try dsimp only at hSw); go_simp; try with_reducible rfl)
          (try simp only [Act.put, List.setIfInBounds_toArray, List.set_cons_zero, List.set_cons_succ])
          refine wpAnyH_done (by kernel_rfl) ?_ _
          refine NoPanic.normal ?_
          have HKv := Lib.hid (And.left hHeld)
          clear hHeld B1 B2 B3 B4 ks kt ku e0 e1 e2 e3 d41 hN0 hN0b hnx hrr HKu
          have hT0 : (strOfNums [p.word / 16777216, p.word / 65536 % 256, p.word / 256 % 256, p.word % 256] ++ strOfNums [((HH.size : Int) + (p.data.size : Int)) / 256, ((HH.size : Int) + (p.data.size : Int)) % 256] ++ strOfNums [n0] ++ strOfNums [p.hop]).size = 8 := by rw [zc, zc, zc, zq, zd, zs, zs]
          generalize strOfNums [p.word / 16777216, p.word / 65536 % 256, p.word / 256 % 256, p.word % 256] ++ strOfNums [((HH.size : Int) + (p.data.size : Int)) / 256, ((HH.size : Int) + (p.data.size : Int)) % 256] ++ strOfNums [n0] ++ strOfNums [p.hop] = T0 at *
          clear zd zq
          have hzz := HZZ.out
          have hBody : (HH ++ p.data).size = HH.size + p.data.size := zc _ _
          generalize hBd : HH ++ p.data = Bd at *
          have HBd := Lib.hid hBd
          clear hBd
          have hcv := conv1At
          go_wp2_with fail
          go_loopw [10, 11] (fun t i wr => ∃ k : Nat, k ≤ 16 ∧ i = .int .i64 k ∧ t = .string (T0 ++ strB (p.fr.take k)) ∧ Kp w w.heap.size [(g, 3, CV), (w.heap.size, 31, V)] wr) (fun _ i _ => 16 - (intOf i).toNat)
          case atStart => exact ⟨0, by omega, rfl, by rw [List.take_zero, show strB [] = ⟨#[]⟩ from rfl, cat_empty], HKv.out⟩
          case round =>
            obtain ⟨k, hk, rfl, rfl, hq⟩ := hrel
            have HK10 := Lib.hid hq
            clear hq
            by_cases hlt : k < 16
            · have ck := HK10.out.tl.hd.at (HVF.out k hlt)
              have HSN := Lib.hid (strB_snoc T0 p.fr k (by rw [HF16.out.1]; exact hlt))
              have hlt2 : (k : Int) < 16 := by omega
              have hXz : (T0 ++ strB (p.fr.take k)).size ≤ 64 := by rw [zc, strB_size, List.length_take]; omega
              generalize p.fr.getD k 0 = cc at *
              generalize T0 ++ strB (p.fr.take k) = X at *
              have zo1 : ¬ 9223372036854775807 < X.size + 1 := by omega
              have HK9 := Lib.hid (HK10.out.alloc (.cells #[.int .u8 (cc.toNat : Int)] 5))
              go_wp2_with fail
              go_roundw
              case rel => exact ⟨k + 1, by omega, by go_num, by rw [← HSN.out], HK9.out⟩
              case measure => simp [intOf]; omega
            · obtain rfl : k = 16 := by omega
              clear hlt hk HKv
              rw [List.take_of_length_le (by rw [HF16.out.1]; exact Nat.le_refl _)]
              simp only [Int.cast_ofNat_Int]
              have hT1z : (T0 ++ strB p.fr).size = 24 := by rw [zc, strB_size, HF16.out.1, hT0]
              generalize hT1 : T0 ++ strB p.fr = T1 at *
              have HT1 := Lib.hid hT1
              clear hT1
              go_wp2_with fail
              go_loopw [10, 12] (fun t i wr => ∃ k : Nat, k ≤ 16 ∧ i = .int .i64 k ∧ t = .string (T1 ++ strB (p.dst.take k)) ∧ Kp w w.heap.size [(g, 3, CV), (w.heap.size, 31, V)] wr) (fun _ i _ => 16 - (intOf i).toNat)
              case atStart => exact ⟨0, by omega, rfl, by rw [List.take_zero, show strB [] = ⟨#[]⟩ from rfl, cat_empty], HK10.out⟩
              case round =>
                obtain ⟨k, hk, rfl, rfl, hq⟩ := hrel
                have HK11 := Lib.hid hq
                clear hq
                by_cases hlt : k < 16
                · have ck := HK11.out.tl.hd.at (HVD.out k hlt)
                  have HSN := Lib.hid (strB_snoc T1 p.dst k (by rw [HF16.out.2]; exact hlt))
                  have hlt2 : (k : Int) < 16 := by omega
                  have hXz : (T1 ++ strB (p.dst.take k)).size ≤ 64 := by rw [zc, strB_size, List.length_take]; omega
                  generalize p.dst.getD k 0 = cc at *
                  generalize T1 ++ strB (p.dst.take k) = X at *
                  have zo1 : ¬ 9223372036854775807 < X.size + 1 := by omega
                  have HK9 := Lib.hid (HK11.out.alloc (.cells #[.int .u8 (cc.toNat : Int)] 5))
                  go_wp2_with fail
                  go_roundw
                  case rel => exact ⟨k + 1, by omega, by go_num, by rw [← HSN.out], HK9.out⟩
                  case measure => simp [intOf]; omega
                · obtain rfl : k = 16 := by omega
                  clear hlt hk HK10
                  rw [List.take_of_length_le (by rw [HF16.out.2]; exact Nat.le_refl _)]
                  simp only [Int.cast_ofNat_Int]
                  have hT2z : (T1 ++ strB p.dst).size = 40 := by rw [zc, strB_size, HF16.out.2, hT1z]
                  generalize hT2 : T1 ++ strB p.dst = T2 at *
                  have HT2 := Lib.hid hT2
                  clear hT2
                  have zo2 : ¬ 9223372036854775807 < 40 + Bd.size := by omega
                  have zo3 : ¬ 9223372036854775807 < T2.size + Bd.size := by omega
                  have HFin : Hid (T2 ++ Bd = p.bytes) := Lib.hid (by rw [HBy.out, ← HT2.out, ← HT1.out, ← HBd.out]; simp only [ByteArray.append_assoc])
                  clear hcv zs
                  go_wp2_with fail
                  go_ret2
                  rw [HFin.out]
                  exact ⟨rfl, HK11.out.2.1⟩
end Go.Proofs.Ytphemimpkbjfoaa
