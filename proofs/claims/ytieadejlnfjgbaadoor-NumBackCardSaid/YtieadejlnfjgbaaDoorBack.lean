/-
  Proved here: the law NumBack answers true at every input, and leaves old memory as it was.
  Conditions: errors.errorType holds its type handle; the numbers and the sizes lie in old memory.
-/
import Derived.Test.YtieadejlnfjgbaaDoorBackParts
namespace Go.Proofs.YtieadejlnfjgbaaDoor
open Go.RowKit Go.Extern.Stop Go.Stop Go.Extern

/-- Each number's cell, and its bounds. -/
def NumsAt (w : World) (ao : Option Addr) (len : Nat) (k : IntKind) (lim : Int) (L : Nat → Int) : Prop :=
  ∀ i, i < len → (∃ ab o, ao = some ⟨ab, o, none⟩ ∧ w.cell? ⟨ab, o + i, none⟩ = some (.int k (L i))) ∧ 0 ≤ L i ∧ L i < lim

theorem Tryd.infoInt : (Tryd.prog.info? 3).map (fun i => (i.zero, i.size, i.bytes)) = some (some (.int .i64 0), 1, 8) := by kernel_rfl

/-- What the first loop has made. -/
def sizes (g : Nat → Nat) (k : Nat) : List Value := (List.range k).map fun i => .int .i64 (g i)
theorem sizes_succ (g : Nat → Nat) (k : Nat) : sizes g (k + 1) = sizes g k ++ [.int .i64 (g k)] := by
  simp [sizes, List.range_succ]

theorem sizes_at (g : Nat → Nat) (len k : Nat) (h : k < len) : (sizes g len)[k]? = some (.int .i64 (g k)) := by
  simp [sizes, h]
theorem posOf_mono (g : Nat → Nat) {a b : Nat} (h : a ≤ b) : posOf g a ≤ posOf g b := by
  induction h with
  | refl => exact Nat.le_refl _
  | step _ ih => exact Nat.le_trans ih (Nat.le_add_right _ _)

set_option maxRecDepth 100000 in
set_option maxHeartbeats 4000000 in
theorem numBack_walk (lo zo : Option Addr) (len lcap zlen zcap : Nat) (L Z : Nat → Int) (behind : ByteArray) (w : World) (hg : Held w) (hl : len ≤ 300) (hbe : behind.size ≤ 300)
    (hL : NumsAt w lo len .u32 4294967296 L) (hZ : NumsAt w zo zlen .u8 256 Z) :
    Calls Tryd.prog 8 #[.slice lo len lcap, .slice zo zlen zcap, .string behind] w fun e w' => e = .returned (.bool true) ∧ Below w.heap.size w w' := by
  obtain ⟨i0, hi, hz0, hz1, hz2⟩ := info_parts Tryd.infoInt
  obtain ⟨g, hgd⟩ : ∃ g : Nat → Nat, g = szOf zlen Z := ⟨_, rfl⟩
  obtain ⟨f, hfd⟩ : ∃ f : Nat → ByteArray, f = fun i => encN (g i) (xOf (g i) (L i)) := ⟨_, rfl⟩
  have HGD := Lib.hid hgd
  have HFD := Lib.hid hfd
  have HGS := Lib.hid (show ∀ i, IsSize (g i) by intro i; rw [hgd]; exact szOf_is _ _ _)
  have HFS := Lib.hid (show ∀ i, (f i).size = g i by intro i; rw [hfd]; exact encN_size (HGS.out i) _)
  have HG4 := Lib.hid (show ∀ i, g i ≤ 4 by intro i; rcases HGS.out i with h | h | h <;> omega)
  have HG := Lib.hid hg
  have HL := Lib.hid hL
  have HZ := Lib.hid hZ
  have HI := Lib.hid hi
  have HZ0 := Lib.hid hz0
  have HZ1 := Lib.hid hz1
  have HZ2 := Lib.hid hz2
  clear hgd hfd hL hZ hi hz0 hz1 hz2
  go_enter Tryd.func8, Tryd.ntmps8
  go_wp2_with fail
  refine (awake_true w hg).mono ?_
  rintro e w1 ⟨rfl, b1⟩
  have hB1 := Lib.hid b1
  clear b1 hg
  go_wp2_with fail
  go_loopw [7, 8, 9] (fun t v i wr => ∃ k : Nat, k ≤ len ∧ i = .int .i64 k ∧ t = .string (cat f k) ∧ wr.ownsRow w.heap.size 3 1 v k (sizes g k) ∧ Below w.heap.size w wr) (fun _ _ i _ => len - (intOf i).toNat)
  case atStart => exact ⟨0, Nat.zero_le _, rfl, rfl, World.ownsRow_nil _ _ _ _, hB1.out⟩
  case round =>
    obtain ⟨k, hk, rfl, rfl, hown, hB⟩ := hrel
    have HO := Lib.hid hown
    have HB := Lib.hid hB
    clear hown hB
    have hcs : (cat f k).size = posOf g k := cat_size HFS.out k
    have hps : posOf g k ≤ 4 * k := posOf_le HG4.out k
    by_cases hlt : k < len
    · obtain ⟨⟨ab, o, rfl, gl⟩, l0, l1⟩ := HL.out k hlt
      have d0 : wr.cell? ⟨ab, o + k, none⟩ = some (.int .u32 (L k)) := (HB.out.cell (lt_of_cell gl)).trans gl
      have HFK := Lib.hid (show f k = encN (g k) (xOf (g k) (L k)) by rw [HFD.out])
      have HGE := Lib.hid (show g k = szOf zlen Z k by rw [HGD.out])
      clear gl
      by_cases hz : k < zlen
      · obtain ⟨⟨zb, zq, rfl, gz⟩, z0, z1⟩ := HZ.out k hz
        have d1 : wr.cell? ⟨zb, zq + k, none⟩ = some (.int .u8 (Z k)) := (HB.out.cell (lt_of_cell gz)).trans gz
        clear gz
        have hm : Z k % 3 = 0 ∨ Z k % 3 = 1 ∨ Z k % 3 = 2 := by omega
        rcases hm with hm | hm | hm
        · have hgk : g k = 1 := by rw [HGE.out]; unfold szOf; rw [if_pos hz, if_pos hm]
          have HGK := Lib.hid hgk
          have hfs : (f k).size = 1 := (HFS.out k).trans hgk
          have hE : encN 1 (L k % 256) = f k := by rw [HFK.out, HGK.out]; rfl
          have HE := Lib.hid hE
          clear hgk hE
          go_wp2_with fail
          refine (big_all (n := 1) (.inl rfl) (L k % 256) (by omega) (show L k % 256 < 256 by omega) _).mono ?_
          rintro e w2 ⟨rfl, b2⟩
          rw [HE.out]
          have HO2 := Lib.hid (HO.out.kept (up_below (r := none) b2) (by cases u8.ownBlock <;> simp))
          have HB2 := Lib.hid (HB.out.trans (b2.mono HB.out.size))
          clear b2
          go_wp2_with (at_builtin; refine wpList_append_own _ rfl _ _ 62 rfl w.heap.size 3 i0 (.int .i64 0) 1 8 Tryd.underlying62 HI.out HZ0.out HZ1.out HZ2.out rfl (by decide) _ _ _ rfl (HO2.out.alloc _) ⟨w2.heap.size, 0, none⟩ 1 1 [.int .i64 1] rfl rfl ?c1 ?c2 ?c3 ?c4 ?c5 ?_)
          case c1 =>
            intro j u hj
            match j, hj with
            | 0, hj => simp at hj; subst hj; simp [Addr.add]
          case c2 => intro u hu; simp at hu; subst hu; rfl
          case c3 => unfold maxLen; omega
          case c4 => omega
          case c5 => have := HB2.out.size; simp; omega
          intro v' w3 hown' hgrow _
          have HO3 := Lib.hid hown'
          have HB3 := Lib.hid ((HB2.out.alloc HB2.out.size _).grown hgrow (by have := HB2.out.size; simp; omega) (fun j hj => (HO2.out.lt j hj).1))
          clear hown' hgrow
          go_wp2_with fail
          go_roundw
          case rel => exact ⟨k + 1, by omega, by go_num, rfl, by rw [sizes_succ, HGK.out]; exact HO3.out, HB3.out⟩
          case measure => simp [intOf]; omega
        · have hgk : g k = 2 := by rw [HGE.out]; unfold szOf; rw [if_pos hz, if_neg (by omega), if_pos hm]
          have HGK := Lib.hid hgk
          have hfs : (f k).size = 2 := (HFS.out k).trans hgk
          have hE : encN 2 (L k % 65536) = f k := by rw [HFK.out, HGK.out]; rfl
          have HE := Lib.hid hE
          clear hgk hE
          go_wp2_with fail
          refine (big_all (n := 2) (.inr (.inl rfl)) (L k % 65536) (by omega) (show L k % 65536 < 65536 by omega) _).mono ?_
          rintro e w2 ⟨rfl, b2⟩
          rw [HE.out]
          have HO2 := Lib.hid (HO.out.kept (up_below (r := none) b2) (by cases u8.ownBlock <;> simp))
          have HB2 := Lib.hid (HB.out.trans (b2.mono HB.out.size))
          clear b2
          go_wp2_with (at_builtin; refine wpList_append_own _ rfl _ _ 62 rfl w.heap.size 3 i0 (.int .i64 0) 1 8 Tryd.underlying62 HI.out HZ0.out HZ1.out HZ2.out rfl (by decide) _ _ _ rfl (HO2.out.alloc _) ⟨w2.heap.size, 0, none⟩ 1 1 [.int .i64 2] rfl rfl ?c1 ?c2 ?c3 ?c4 ?c5 ?_)
          case c1 =>
            intro j u hj
            match j, hj with
            | 0, hj => simp at hj; subst hj; simp [Addr.add]
          case c2 => intro u hu; simp at hu; subst hu; rfl
          case c3 => unfold maxLen; omega
          case c4 => omega
          case c5 => have := HB2.out.size; simp; omega
          intro v' w3 hown' hgrow _
          have HO3 := Lib.hid hown'
          have HB3 := Lib.hid ((HB2.out.alloc HB2.out.size _).grown hgrow (by have := HB2.out.size; simp; omega) (fun j hj => (HO2.out.lt j hj).1))
          clear hown' hgrow
          go_wp2_with fail
          go_roundw
          case rel => exact ⟨k + 1, by omega, by go_num, rfl, by rw [sizes_succ, HGK.out]; exact HO3.out, HB3.out⟩
          case measure => simp [intOf]; omega
        · have hgk : g k = 4 := by rw [HGE.out]; unfold szOf; rw [if_pos hz, if_neg (by omega), if_neg (by omega)]
          have HGK := Lib.hid hgk
          have hfs : (f k).size = 4 := (HFS.out k).trans hgk
          have hE : encN 4 (L k) = f k := by rw [HFK.out, HGK.out]; rfl
          have HE := Lib.hid hE
          clear hgk hE
          go_wp2_with fail
          refine (big_all (n := 4) (.inr (.inr rfl)) (L k) (by omega) (show L k < 4294967296 by omega) _).mono ?_
          rintro e w2 ⟨rfl, b2⟩
          rw [HE.out]
          have HO2 := Lib.hid (HO.out.kept (up_below (r := none) b2) (by cases u8.ownBlock <;> simp))
          have HB2 := Lib.hid (HB.out.trans (b2.mono HB.out.size))
          clear b2
          go_wp2_with (at_builtin; refine wpList_append_own _ rfl _ _ 62 rfl w.heap.size 3 i0 (.int .i64 0) 1 8 Tryd.underlying62 HI.out HZ0.out HZ1.out HZ2.out rfl (by decide) _ _ _ rfl (HO2.out.alloc _) ⟨w2.heap.size, 0, none⟩ 1 1 [.int .i64 4] rfl rfl ?c1 ?c2 ?c3 ?c4 ?c5 ?_)
          case c1 =>
            intro j u hj
            match j, hj with
            | 0, hj => simp at hj; subst hj; simp [Addr.add]
          case c2 => intro u hu; simp at hu; subst hu; rfl
          case c3 => unfold maxLen; omega
          case c4 => omega
          case c5 => have := HB2.out.size; simp; omega
          intro v' w3 hown' hgrow _
          have HO3 := Lib.hid hown'
          have HB3 := Lib.hid ((HB2.out.alloc HB2.out.size _).grown hgrow (by have := HB2.out.size; simp; omega) (fun j hj => (HO2.out.lt j hj).1))
          clear hown' hgrow
          go_wp2_with fail
          go_roundw
          case rel => exact ⟨k + 1, by omega, by go_num, rfl, by rw [sizes_succ, HGK.out]; exact HO3.out, HB3.out⟩
          case measure => simp [intOf]; omega
      · have hgk : g k = 4 := by rw [HGE.out]; unfold szOf; rw [if_neg hz]
        have HGK := Lib.hid hgk
        have hfs : (f k).size = 4 := (HFS.out k).trans hgk
        have hE : encN 4 (L k) = f k := by rw [HFK.out, HGK.out]; rfl
        have HE := Lib.hid hE
        clear hgk hE
        go_wp2_with fail
        refine (big_all (n := 4) (.inr (.inr rfl)) (L k) (by omega) (show L k < 4294967296 by omega) _).mono ?_
        rintro e w2 ⟨rfl, b2⟩
        rw [HE.out]
        have HO2 := Lib.hid (HO.out.kept (up_below (r := none) b2) (by cases u8.ownBlock <;> simp))
        have HB2 := Lib.hid (HB.out.trans (b2.mono HB.out.size))
        clear b2
        go_wp2_with (at_builtin; refine wpList_append_own _ rfl _ _ 62 rfl w.heap.size 3 i0 (.int .i64 0) 1 8 Tryd.underlying62 HI.out HZ0.out HZ1.out HZ2.out rfl (by decide) _ _ _ rfl (HO2.out.alloc _) ⟨w2.heap.size, 0, none⟩ 1 1 [.int .i64 4] rfl rfl ?c1 ?c2 ?c3 ?c4 ?c5 ?_)
        case c1 =>
          intro j u hj
          match j, hj with
          | 0, hj => simp at hj; subst hj; simp [Addr.add]
        case c2 => intro u hu; simp at hu; subst hu; rfl
        case c3 => unfold maxLen; omega
        case c4 => omega
        case c5 => have := HB2.out.size; simp; omega
        intro v' w3 hown' hgrow _
        have HO3 := Lib.hid hown'
        have HB3 := Lib.hid ((HB2.out.alloc HB2.out.size _).grown hgrow (by have := HB2.out.size; simp; omega) (fun j hj => (HO2.out.lt j hj).1))
        clear hown' hgrow
        go_wp2_with fail
        go_roundw
        case rel => exact ⟨k + 1, by omega, by go_num, rfl, by rw [sizes_succ, HGK.out]; exact HO3.out, HB3.out⟩
        case measure => simp [intOf]; omega
    · obtain rfl : len = k := by omega
      obtain ⟨T, hT⟩ : ∃ T, T = cat f len ++ behind := ⟨_, rfl⟩
      have HTD := Lib.hid hT
      have HTM := Lib.hid (show T.size ≤ maxLen by rw [hT, ByteArray.size_append, hcs]; unfold maxLen; omega)
      have HTZ := Lib.hid (show T.size = posOf g len + behind.size by rw [hT, ByteArray.size_append, hcs])
      clear hT
      go_wp2_with fail
      rw [← HTD.out]
      refine (new_any T _).mono ?_
      rintro e w2 ⟨rfl, hw2⟩
      have HR2 := Lib.hid (show Rd w2 wr.heap.size T 0 0 from hw2 ▸ Rd.new wr T)
      have HO2 := Lib.hid (show w2.ownsRow w.heap.size 3 1 u8 len (sizes g len) from hw2 ▸ HO.out.alloc _)
      have HB2 := Lib.hid (show Below w.heap.size w w2 from hw2 ▸ HB.out.alloc HB.out.size _)
      have HBR := Lib.hid (show w.heap.size ≤ wr.heap.size from HB.out.size)
      have HNV := Lib.hid (show ∀ j, u8.ownBlock = some j → j ≠ wr.heap.size from fun j hj => Nat.ne_of_lt (HO.out.lt j hj).2)
      obtain ⟨br, hbr⟩ : ∃ br, br = wr.heap.size := ⟨_, rfl⟩
      rw [← hbr] at HR2 HBR HNV ⊢
      clear hw2 HO HB hbr
      go_wp2_with fail
      go_loopw [15] (fun i wq => ∃ k : Nat, k ≤ len ∧ i = .int .i64 k ∧ Rd wq br T (posOf g k) 0 ∧ wq.ownsRow w.heap.size 3 1 u8 len (sizes g len) ∧ Below w.heap.size w wq) (fun i _ => len - (intOf i).toNat)
      case atStart => exact ⟨0, Nat.zero_le _, rfl, HR2.out, HO2.out, HB2.out⟩
      case round =>
        obtain ⟨k, hk, rfl, hRk, hOk, hBk⟩ := hrel
        have HRk := Lib.hid hRk
        have HOk := Lib.hid hOk
        have HBk := Lib.hid hBk
        clear hRk hOk hBk
        by_cases hlt : k < len
        · obtain ⟨⟨ab, o, rfl, gl⟩, l0, l1⟩ := HL.out k hlt
          have GL := Lib.hid gl
          have dl : wr.cell? ⟨ab, o + k, none⟩ = some (.int .u32 (L k)) := (HBk.out.cell (lt_of_cell gl)).trans gl
          clear gl
          obtain ⟨gb, vcap, rfl⟩ : ∃ gb vcap, u8 = .slice (some ⟨gb, 0, none⟩) len vcap := by
            rcases HOk.out.2 with ⟨_, h0⟩ | ⟨gb, vcap, cur, hv, _⟩
            · omega
            · exact ⟨gb, vcap, hv⟩
          have HNB := Lib.hid (show gb ≠ br from HNV.out gb rfl)
          have hgs := HGS.out k
          rcases hgs with hgk | hgk | hgk
          · have HGK := Lib.hid hgk
            have d0 : wr.cell? ⟨gb, k, none⟩ = some (.int .i64 1) := by rw [HOk.out.cellAt k (by omega), sizes_at g len k hlt, HGK.out]; rfl
            have hX : (numOf (T.extract (posOf g k) (posOf g k + 1)).data.toList : Int) = L k % 256 := by
              have h1 := cat_at HFS.out k len hlt behind
              rw [HGK.out] at h1
              rw [HTD.out, h1, HFD.out]
              simp only [HGK.out]
              exact numOf_enc (.inl rfl) (xOf_lt (.inl rfl) l0 l1).1 (xOf_lt (.inl rfl) l0 l1).2
            have HX := Lib.hid hX
            have hpk : posOf g k + 1 ≤ T.size := by
              have h1 := posOf_mono g (show k + 1 ≤ len by omega)
              have h2 : posOf g (k + 1) = posOf g k + g k := rfl
              have h3 := cat_size HFS.out len
              rw [HTD.out, ByteArray.size_append, h3]
              have h4 := HGK.out
              omega
            have HPK := Lib.hid hpk
            clear hgk hX hpk
            go_wp2_with fail
            refine (u8_of _ _ (number_ok HRk.out HTM.out 1 (by decide) HPK.out) two_read).mono ?_
            rintro e w3 ⟨rfl, R3, G3⟩
            have hO3 := HOk.out.kept G3 (.inr (by simp [Value.ownBlock]; exact HNB.out))
            have e0 : w3.cell? ⟨gb, k, none⟩ = some (.int .i64 1) := by rw [hO3.cellAt k (by omega), sizes_at g len k hlt, HGK.out]; rfl
            have hB3 := HBk.out.grown G3 HBk.out.size (fun j hj => by cases hj; exact HBR.out)
            have e1 : w3.cell? ⟨ab, o + k, none⟩ = some (.int .u32 (L k)) := (hB3.cell (lt_of_cell GL.out)).trans GL.out
            have HO3 := Lib.hid hO3
            have HB3 := Lib.hid hB3
            have HR3 := Lib.hid R3
            clear hO3 hB3 R3 G3 d0
            rw [HX.out]
            go_wp2_with fail
            go_roundw
            case rel => exact ⟨k + 1, by omega, by go_num, by rw [show posOf g (k + 1) = posOf g k + 1 by show posOf g k + g k = _; rw [HGK.out]]; exact HR3.out, HO3.out, HB3.out⟩
            case measure => simp [intOf]; omega
          · have HGK := Lib.hid hgk
            have d0 : wr.cell? ⟨gb, k, none⟩ = some (.int .i64 2) := by rw [HOk.out.cellAt k (by omega), sizes_at g len k hlt, HGK.out]; rfl
            have hX : (numOf (T.extract (posOf g k) (posOf g k + 2)).data.toList : Int) = L k % 65536 := by
              have h1 := cat_at HFS.out k len hlt behind
              rw [HGK.out] at h1
              rw [HTD.out, h1, HFD.out]
              simp only [HGK.out]
              exact numOf_enc (.inr (.inl rfl)) (xOf_lt (.inr (.inl rfl)) l0 l1).1 (xOf_lt (.inr (.inl rfl)) l0 l1).2
            have HX := Lib.hid hX
            have hpk : posOf g k + 2 ≤ T.size := by
              have h1 := posOf_mono g (show k + 1 ≤ len by omega)
              have h2 : posOf g (k + 1) = posOf g k + g k := rfl
              have h3 := cat_size HFS.out len
              rw [HTD.out, ByteArray.size_append, h3]
              have h4 := HGK.out
              omega
            have HPK := Lib.hid hpk
            clear hgk hX hpk
            go_wp2_with fail
            refine (u16_of _ _ (number_ok HRk.out HTM.out 2 (by decide) HPK.out) two_read).mono ?_
            rintro e w3 ⟨rfl, R3, G3⟩
            have hO3 := HOk.out.kept G3 (.inr (by simp [Value.ownBlock]; exact HNB.out))
            have e0 : w3.cell? ⟨gb, k, none⟩ = some (.int .i64 2) := by rw [hO3.cellAt k (by omega), sizes_at g len k hlt, HGK.out]; rfl
            have hB3 := HBk.out.grown G3 HBk.out.size (fun j hj => by cases hj; exact HBR.out)
            have e1 : w3.cell? ⟨ab, o + k, none⟩ = some (.int .u32 (L k)) := (hB3.cell (lt_of_cell GL.out)).trans GL.out
            have HO3 := Lib.hid hO3
            have HB3 := Lib.hid hB3
            have HR3 := Lib.hid R3
            clear hO3 hB3 R3 G3 d0
            rw [HX.out]
            go_wp2_with fail
            go_roundw
            case rel => exact ⟨k + 1, by omega, by go_num, by rw [show posOf g (k + 1) = posOf g k + 2 by show posOf g k + g k = _; rw [HGK.out]]; exact HR3.out, HO3.out, HB3.out⟩
            case measure => simp [intOf]; omega
          · have HGK := Lib.hid hgk
            have d0 : wr.cell? ⟨gb, k, none⟩ = some (.int .i64 4) := by rw [HOk.out.cellAt k (by omega), sizes_at g len k hlt, HGK.out]; rfl
            have hX : (numOf (T.extract (posOf g k) (posOf g k + 4)).data.toList : Int) = L k := by
              have h1 := cat_at HFS.out k len hlt behind
              rw [HGK.out] at h1
              rw [HTD.out, h1, HFD.out]
              simp only [HGK.out]
              exact numOf_enc (.inr (.inr rfl)) (xOf_lt (.inr (.inr rfl)) l0 l1).1 (xOf_lt (.inr (.inr rfl)) l0 l1).2
            have HX := Lib.hid hX
            have hpk : posOf g k + 4 ≤ T.size := by
              have h1 := posOf_mono g (show k + 1 ≤ len by omega)
              have h2 : posOf g (k + 1) = posOf g k + g k := rfl
              have h3 := cat_size HFS.out len
              rw [HTD.out, ByteArray.size_append, h3]
              have h4 := HGK.out
              omega
            have HPK := Lib.hid hpk
            clear hgk hX hpk
            go_wp2_with fail
            refine (u32_of _ _ (number_ok HRk.out HTM.out 4 (by decide) HPK.out) two_read).mono ?_
            rintro e w3 ⟨rfl, R3, G3⟩
            have hO3 := HOk.out.kept G3 (.inr (by simp [Value.ownBlock]; exact HNB.out))
            have e0 : w3.cell? ⟨gb, k, none⟩ = some (.int .i64 4) := by rw [hO3.cellAt k (by omega), sizes_at g len k hlt, HGK.out]; rfl
            have hB3 := HBk.out.grown G3 HBk.out.size (fun j hj => by cases hj; exact HBR.out)
            have e1 : w3.cell? ⟨ab, o + k, none⟩ = some (.int .u32 (L k)) := (hB3.cell (lt_of_cell GL.out)).trans GL.out
            have HO3 := Lib.hid hO3
            have HB3 := Lib.hid hB3
            have HR3 := Lib.hid R3
            clear hO3 hB3 R3 G3 d0
            rw [HX.out]
            go_wp2_with fail
            go_roundw
            case rel => exact ⟨k + 1, by omega, by go_num, by rw [show posOf g (k + 1) = posOf g k + 4 by show posOf g k + g k = _; rw [HGK.out]]; exact HR3.out, HO3.out, HB3.out⟩
            case measure => simp [intOf]; omega
        · obtain rfl : len = k := by omega
          have hP : posOf g len ≤ T.size := by rw [HTZ.out]; omega
          have hRest : T.extract (posOf g len) T.size = behind := by
            rw [HTD.out, ← cat_size HFS.out len]
            exact extract_end _ _
          have HRE := Lib.hid hRest
          have HP := Lib.hid hP
          clear hRest hP
          go_wp2_with fail
          refine (rest_ok HRk.out HP.out).mono ?_
          rintro e w3 ⟨rfl, R3, G3⟩
          rw [HRE.out]
          have HB3 := Lib.hid (HBk.out.grown G3 HBk.out.size (fun j hj => by cases hj; exact HBR.out))
          have HR3 := Lib.hid R3
          clear R3 G3
          go_wp2_with fail
          refine (left_any HR3.out (Nat.le_refl _) HTM.out).mono ?_
          rintro e w4 ⟨rfl, hw4⟩
          rw [Nat.sub_self]
          have HB4 := Lib.hid (show Below w.heap.size w w4 from hw4 ▸ HB3.out.drew)
          clear hw4
          go_wp2_with fail
          refine (new_any (cat f len) _).mono ?_
          rintro e w5 ⟨rfl, hw5⟩
          have HR5 := Lib.hid (show Rd w5 w4.heap.size (cat f len) 0 0 from hw5 ▸ Rd.new w4 _)
          have HB5 := Lib.hid (show Below w.heap.size w w5 from hw5 ▸ HB4.out.alloc HB4.out.size _)
          have HB4' := Lib.hid (show w.heap.size ≤ w4.heap.size from HB4.out.size)
          clear hw5
          obtain ⟨S, hS⟩ : ∃ S, S = cat f len := ⟨_, rfl⟩
          rw [← hS] at HR5 hcs ⊢
          have HSM := Lib.hid (show S.size ≤ maxLen by rw [hcs]; unfold maxLen; omega)
          have hS4 : S.size ≤ 1200 := by omega
          clear hS hcs hps
          go_wp2_with fail
          go_loopw [20] (fun i wq => ∃ k : Nat, k ≤ S.size ∧ i = .int .i64 k ∧ Rd wq w4.heap.size S k 0 ∧ Below w.heap.size w wq) (fun i _ => S.size - (intOf i).toNat)
          case atStart => exact ⟨0, Nat.zero_le _, rfl, HR5.out, HB5.out⟩
          case round =>
            obtain ⟨k, hk, rfl, hRk, hBk⟩ := hrel
            have HRk := Lib.hid hRk
            have HBk := Lib.hid hBk
            clear hRk hBk
            by_cases hlt : k < S.size
            · have HX := Lib.hid (one_at S k hlt)
              have h8 := S[k].toNat_lt
              go_wp2_with fail
              refine (u8_of _ _ (number_ok HRk.out HSM.out 1 (by decide) (by omega)) two_read).mono ?_
              rintro e w6 ⟨rfl, R6, G6⟩
              rw [HX.out]
              have HB6 := Lib.hid (HBk.out.grown G6 HBk.out.size (fun j hj => by cases hj; exact HB4'.out))
              have HR6 := Lib.hid R6
              clear R6 G6
              go_wp2_with fail
              go_roundw
              case rel => exact ⟨k + 1, by omega, by go_num, HR6.out, HB6.out⟩
              case measure => simp [intOf]; omega
            · go_wp2_with fail
              go_ret
              exact ⟨rfl, HBk.out⟩
end Go.Proofs.YtieadejlnfjgbaaDoor
