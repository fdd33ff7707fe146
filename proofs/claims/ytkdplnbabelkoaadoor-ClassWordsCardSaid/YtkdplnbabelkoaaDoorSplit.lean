/-
  Proved here: what the document's split answers.
  Conditions: a text of at most 70000 bytes.
-/
import Derived.Test.YtkdplnbabelkoaaDoorB8
namespace Go.Proofs.YtkdplnbabelkoaaDoor
open Go.RowKit

theorem Tryd.infoStr : (Tryd.prog.info? 9).map (fun i => (i.zero, i.size, i.bytes)) = some (some (.string ⟨#[]⟩), 1, 16) := by kernel_rfl
/-- A slice of texts that lies in memory made since. -/
def Strs (B : Nat) (l : List ByteArray) (v : Value) (w : World) : Prop := ∃ g cap, v = .slice (some ⟨g, 0, none⟩) l.length cap ∧ B ≤ g ∧ ∀ i (h : i < l.length), w.cell? ⟨g, i, none⟩ = some (.string l[i])
theorem Strs.below {B : Nat} {l : List ByteArray} {v : Value} {w w' : World} (h : Strs B l v w) (hb : Below w.heap.size w w') : Strs B l v w' := by
  obtain ⟨g, cap, e, hg, hc⟩ := h
  exact ⟨g, cap, e, hg, fun i hi => (hb.cell (World.block_lt_of_cell? w _ (hc i hi))).trans (hc i hi)⟩
/-- The parts of a text up to byte k, and where the next one begins. -/
def spl (s : ByteArray) (c : UInt8) : Nat → List ByteArray × Nat
  | 0 => ([], 0)
  | k + 1 => if s[k]? = some c then ((spl s c k).1 ++ [s.extract (spl s c k).2 k], k + 1) else spl s c k
theorem spl_le (s : ByteArray) (c : UInt8) (k : Nat) : (spl s c k).2 ≤ k ∧ (spl s c k).1.length ≤ k := by
  induction k with
  | zero => exact ⟨Nat.le_refl _, Nat.le_refl _⟩
  | succ k ih =>
    unfold spl
    split
    · exact ⟨Nat.le_refl _, by simp; omega⟩
    · exact ⟨by omega, by omega⟩
/-- A text's parts between a byte. -/
def parts (s : ByteArray) (c : UInt8) : List ByteArray := (spl s c s.size).1 ++ [s.extract (spl s c s.size).2 s.size]
theorem own_strs {B g n cap : Nat} {w : World} {l : List ByteArray} (h : w.ownsRow B 9 1 (.slice (some ⟨g, 0, none⟩) n cap) n (l.map Value.string)) (hn : l.length = n) (hg : B ≤ g) : Strs B l (.slice (some ⟨g, 0, none⟩) n cap) w :=
  ⟨g, cap, by rw [hn], hg, fun i hi => by
    have := h.cells (g := g) rfl i (.string l[i]) (by rw [List.getElem?_map, List.getElem?_eq_getElem hi]; rfl)
    simpa [Addr.add_mid] using this⟩
set_option maxRecDepth 100000 in
set_option maxHeartbeats 1000000 in
theorem rsplit_any (s : ByteArray) (c : UInt8) (w : World) (hs : s.size ≤ 70000) :
    Calls Tryd.prog 51 #[.string s, .int .u8 (c.toNat : Int)] w fun e w' => ∃ v, e = .returned v ∧ Strs w.heap.size (parts s c) v w' ∧ Below w.heap.size w w' := by
  obtain ⟨i0, hi0, hz0, hz1, hz2⟩ := info_parts Tryd.infoStr
  have HI := Lib.hid hi0
  have H0 := Lib.hid hz0
  have H1 := Lib.hid hz1
  have H2 := Lib.hid hz2
  clear hi0 hz0 hz1 hz2
  have gc := c.toNat_lt
  go_enter Tryd.func51, Tryd.ntmps51
  go_wp2_with fail
  go_loopw [5, 6, 7] (fun v a i wr => ∃ k : Nat, k ≤ s.size ∧ i = .int .i64 k ∧ a = .int .i64 (spl s c k).2 ∧ wr.ownsRow w.heap.size 9 1 v (spl s c k).1.length ((spl s c k).1.map Value.string) ∧ Below w.heap.size w wr) (fun _ _ i _ => s.size - (intOf i).toNat)
  case atStart => exact ⟨0, Nat.zero_le _, rfl, rfl, ⟨rfl, .inl ⟨rfl, rfl⟩⟩, Below.refl _ _⟩
  case round =>
    obtain ⟨k, hk, rfl, rfl, hO, hB⟩ := hrel
    have HO := Lib.hid hO
    have HB := Lib.hid hB
    clear hO hB
    obtain ⟨hle, hln⟩ := spl_le s c k
    by_cases hlt : k < s.size
    · have hnx : spl s c (k + 1) = if s[k]? = some c then ((spl s c k).1 ++ [s.extract (spl s c k).2 k], k + 1) else spl s c k := rfl
      have hk0 : s[k]? = some s[k] := getElem?_pos s k hlt
      rw [hk0] at hnx
      by_cases hc : s[k] = c
      · have hcb : ((s[k].toNat : Int) == (c.toNat : Int)) = true := by rw [hc]; exact beq_self_eq_true _
        have HN : Hid (spl s c (k + 1) = ((spl s c k).1 ++ [s.extract (spl s c k).2 k], k + 1)) := Lib.hid (by rw [hnx, hc, if_pos rfl])
        clear hnx hk0 hc
        generalize (spl s c k).1 = Ps at *
        generalize (spl s c k).2 = a at *
        have ja : (a : Int) ≤ (k : Int) := by omega
        have jk : (k : Int) ≤ (s.size : Int) := by omega
        have HX1 : Hid (Ps.length + 1 ≤ maxLen) := Lib.hid (by unfold maxLen; omega)
        have HX2 : Hid ((Ps.length + 1) * 16 ≤ 140737488355328) := Lib.hid (by omega)
        have HX3 : Hid (w.heap.size ≤ (wr.alloc (.cells #[.string (s.extract a k)] 9)).heap.size) := Lib.hid (by have := HB.out.size; simp; omega)
        have HLe := Lib.hid hle
        clear hle hln
        go_wp2_with (at_builtin; refine wpList_append_lies _ rfl _ _ _ rfl w.heap.size 9 i0 _ 1 16 Tryd.underlying64 HI.out H0.out H1.out H2.out rfl Nat.one_pos _ Ps.length (Ps.map Value.string) rfl (HO.out.alloc _) ⟨wr.heap.size, 0, none⟩ 1 1 [.string (s.extract a k)] rfl rfl (World.news_of_block (cs := #[.string (s.extract a k)]) (t := 9) (fr := (0, 0)) (heap_alloc_new wr _)) (by simp [Value.oneCell']) Nat.one_pos HX1.out HX2.out HX3.out (wr.heap.size + 1) (by simp) ?_; intro gg cap9 w2 hown2 hgrow hat hlt9)
        have HO2 : Hid (w2.ownsRow w.heap.size 9 1 (.slice (some ⟨gg, 0, none⟩) (Ps.length + 1) cap9) (spl s c (k + 1)).1.length ((spl s c (k + 1)).1.map Value.string)) := Lib.hid (by rw [HN.out]; simpa using hown2)
        have HA2 : Hid ((spl s c (k + 1)).2 = k + 1) := Lib.hid (by rw [HN.out])
        have HB2 := Lib.hid ((HB.out.alloc HB.out.size _).grown hgrow HX3.out (fun j hj => (HO.out.lt j hj).1))
        clear hown2 hgrow hat hlt9 HN
        go_wp2_with fail
        go_roundw
        case rel => exact ⟨k + 1, by omega, by go_num, by rw [HA2.out]; go_num, HO2.out, HB2.out⟩
        case measure => simp [intOf]; omega
      · have hcb : ((s[k].toNat : Int) == (c.toNat : Int)) = false := by
          rw [beq_eq_false_iff_ne]
          intro h
          exact hc (UInt8.toNat_inj.1 (by omega))
        have HN : Hid (spl s c (k + 1) = spl s c k) := Lib.hid (by rw [hnx, if_neg (fun h => hc (Option.some.inj h))])
        clear hnx hk0 hc hle hln
        go_wp2_with fail
        go_roundw
        case rel => exact ⟨k + 1, by omega, by go_num, by rw [HN.out], by rw [HN.out]; exact HO.out, HB.out⟩
        case measure => simp [intOf]; omega
    · obtain rfl : k = s.size := by omega
      have HN : Hid (parts s c = (spl s c s.size).1 ++ [s.extract (spl s c s.size).2 s.size]) := Lib.hid rfl
      generalize (spl s c s.size).1 = Ps at *
      generalize (spl s c s.size).2 = a at *
      have ja : (a : Int) ≤ (s.size : Int) := by omega
      have HX1 : Hid (Ps.length + 1 ≤ maxLen) := Lib.hid (by unfold maxLen; omega)
      have HX2 : Hid ((Ps.length + 1) * 16 ≤ 140737488355328) := Lib.hid (by omega)
      have HX3 : Hid (w.heap.size ≤ (wr.alloc (.cells #[.string (s.extract a s.size)] 9)).heap.size) := Lib.hid (by have := HB.out.size; simp; omega)
      clear hle hln
      go_wp2_with (at_builtin; refine wpList_append_lies _ rfl _ _ _ rfl w.heap.size 9 i0 _ 1 16 Tryd.underlying64 HI.out H0.out H1.out H2.out rfl Nat.one_pos _ Ps.length (Ps.map Value.string) rfl (HO.out.alloc _) ⟨wr.heap.size, 0, none⟩ 1 1 [.string (s.extract a s.size)] rfl rfl (World.news_of_block (cs := #[.string (s.extract a s.size)]) (t := 9) (fr := (0, 0)) (heap_alloc_new wr _)) (by simp [Value.oneCell']) Nat.one_pos HX1.out HX2.out HX3.out (wr.heap.size + 1) (by simp) ?_; intro gg cap9 w2 hown2 hgrow hat hlt9)
      have HS : Hid (Strs w.heap.size (parts s c) (.slice (some ⟨gg, 0, none⟩) (Ps.length + 1) cap9) w2) := Lib.hid (own_strs (by rw [HN.out]; simpa using hown2) (by rw [HN.out]; simp) (hown2.lt gg rfl).1)
      have HB2 := Lib.hid ((HB.out.alloc HB.out.size _).grown hgrow HX3.out (fun j hj => (HO.out.lt j hj).1))
      clear hown2 hgrow hat hlt9 HN
      go_wp2_with fail
      go_ret
      exact ⟨_, rfl, HS.out, HB2.out⟩
end Go.Proofs.YtkdplnbabelkoaaDoor
