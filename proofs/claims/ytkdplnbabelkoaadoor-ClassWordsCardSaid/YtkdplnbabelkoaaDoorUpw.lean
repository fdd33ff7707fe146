/-
  Proved here: what the law's own 'upper' answers.
  Conditions: none.
-/
import Derived.Test.YtkdplnbabelkoaaDoorWd
import Derived.Laws.BytesArg
import Derived.Laws.IdiomStrings
namespace Go.Proofs.YtkdplnbabelkoaaDoor
open Go.RowKit

/-- A row of bytes that may be written. -/
def Byt (w : World) (g : Nat) (l : List UInt8) : Prop := ∀ j (h : j < l.length), w.cell? ⟨g, j, none⟩ = some (.int .u8 (l[j].toNat : Int)) ∧ w.frozen? ⟨g, j, none⟩ = false
theorem bytes_new (s : ByteArray) (w : World) : ∃ g cap w', (convert 9 84 (.string s)).run Tryd.prog w = .ok (.slice (some ⟨g, 0, none⟩) s.size cap) w' ∧ (Byt w' g s.data.toList ∧ w.heap.size ≤ g) ∧ Below w.heap.size w w' := by
  refine ⟨_, _, _, run_bytes_of_string w 9 84 5 s Tryd.underlying9 Tryd.underlying84 Tryd.underlying5, ⟨fun j hj => ⟨?_, ?_⟩, Nat.le_refl _⟩, ?_⟩
  · rw [show w.heap.size = w.drew.heap.size from rfl, World.cell?_alloc_mark, bytesRow_at s _ j (by simpa using hj)]
    rfl
  · rw [show w.heap.size = w.drew.heap.size from rfl, World.frozen?_alloc_mark]
    have : j < (bytesRow s (grownCap w s.size 0 5)).size := by
      unfold bytesRow
      simp at hj ⊢
      omega
    simp
    omega
  · exact ((Below.refl w.heap.size w).drew).alloc (Nat.le_refl _) _
theorem Byt.set {w : World} {g : Nat} {l : List UInt8} (h : Byt w g l) (K : Nat) (hK : K < l.length) (y : UInt8) (v : Int) (hv : v = (y.toNat : Int)) : Byt (w.setCell ⟨g, K, none⟩ (.int .u8 v)) g (l.set K y) := by
  subst hv
  intro j hj
  have hj' : j < l.length := by simpa using hj
  refine ⟨?_, ?_⟩
  · rw [List.getElem_set]
    split
    · rename_i hkj
      subst hkj
      exact World.cell?_setCell_same w ⟨g, K, none⟩ _ (h K hK).1
    · rename_i hkj
      rw [World.cell?_setCell_other w _ _ _ (fun he => hkj (by injection he))]
      exact (h j hj').1
  · simp [(h j hj').2]
theorem Byt.str {w : World} {g : Nat} {l : List UInt8} (h : Byt w g l) (n cap : Nat) (hn : l.length = n) :
    (convert 84 9 (.slice (some ⟨g, 0, none⟩) n cap)).run Tryd.prog w = .ok (.string ⟨l.toArray⟩) w := by
  subst hn
  exact run_convert_bytes_back (P := Tryd.prog) w 84 9 5 ⟨g, 0, none⟩ cap l Tryd.underlying84 Tryd.underlying5 Tryd.underlying9 (fun j hj => by
    have e : (⟨g, 0, none⟩ : Addr).add j = ⟨g, j, none⟩ := by unfold Addr.add; split <;> simp_all
    rw [e]
    exact (h j hj).1)
/-- The first k signs made great. -/
def upk (l : List UInt8) (k : Nat) : List UInt8 := (l.take k).map up ++ l.drop k
theorem upk_len (l : List UInt8) (k : Nat) : (upk l k).length = l.length := by unfold upk; rw [List.length_append, List.length_map, ← List.length_append, List.take_append_drop]
theorem upk_at (l : List UInt8) (k : Nat) (h : k < l.length) : (upk l k)[k]'(by rw [upk_len]; exact h) = l[k] := by
  unfold upk
  rw [List.getElem_append_right (by simp; omega)]
  simp
  congr 1
  omega
theorem upk_next (l : List UInt8) (k : Nat) (h : k < l.length) : upk l (k + 1) = (l.take k).map up ++ (up l[k] :: l.drop (k + 1)) := by
  unfold upk
  rw [List.take_succ_eq_append_getElem h, List.map_append, List.append_assoc]
  rfl
theorem upk_set (l : List UInt8) (k : Nat) (h : k < l.length) : (upk l k).set k (up l[k]) = upk l (k + 1) := by
  rw [upk_next l k h]
  unfold upk
  have e2 : k - ((l.take k).map up).length = 0 := by rw [List.length_map, List.length_take]; omega
  rw [List.drop_eq_getElem_cons h, List.set_append_right _ _ (by rw [List.length_map, List.length_take]; omega), e2]
  rfl
theorem upk_same (l : List UInt8) (k : Nat) (h : k < l.length) (hu : up l[k] = l[k]) : upk l k = upk l (k + 1) := by
  rw [upk_next l k h, hu]
  unfold upk
  rw [List.drop_eq_getElem_cons h]
theorem upk_all (l : List UInt8) : upk l l.length = l.map up := by unfold upk; simp
set_option maxRecDepth 100000 in
set_option maxHeartbeats 8000000 in
theorem upper_any (s : ByteArray) (w : World) (hs : s.size ≤ 100) :
    Calls Tryd.prog 35 #[.string s] w fun e w' => e = .returned (.string ⟨((bl s).map up).toArray⟩) ∧ Below w.heap.size w w' := by
  obtain ⟨g, cap, w1, hr, ⟨hb, hg⟩, hbl⟩ := bytes_new s w
  have HL : Hid ((bl s).length = s.size) := Lib.hid (bl_len s)
  have HB1 : Hid (Byt w1 g (upk (bl s) 0)) := Lib.hid (by rw [show upk (bl s) 0 = s.data.toList from (by unfold upk; rw [List.take_zero, List.map_nil, List.nil_append, List.drop_zero]; rfl)]; exact hb)
  have HW1 := Lib.hid hbl
  have HG := Lib.hid hg
  clear hb hg hbl
  have HE : Hid (upk (bl s) s.size = (bl s).map up) := Lib.hid (by rw [← HL.out]; exact upk_all _)
  go_enter Tryd.func35, Tryd.ntmps35
  go_wp2_with fail
  go_loopw [4] (fun i wr => ∃ k : Nat, k ≤ s.size ∧ i = .int .i64 k ∧ Byt wr g (upk (bl s) k) ∧ Below w.heap.size w wr) (fun i _ => s.size - (intOf i).toNat)
  case atStart => exact ⟨0, Nat.zero_le _, rfl, HB1.out, HW1.out⟩
  case round =>
    obtain ⟨k, hk, rfl, hby, hbe⟩ := hrel
    have HBy := Lib.hid hby
    have HBe := Lib.hid hbe
    clear hby hbe HB1 HW1 hr
    by_cases hlt : k < s.size
    · have hk2 : (k : Int) < (s.size : Int) := by omega
      have hlb : k < (bl s).length := by rw [HL.out]; exact hlt
      obtain ⟨c, hc⟩ : ∃ c, c = (bl s)[k] := ⟨_, rfl⟩
      obtain ⟨hcell, hfr⟩ := HBy.out k (by rw [upk_len]; exact hlb)
      rw [upk_at _ k hlb, ← hc] at hcell
      have h256 := c.toNat_lt
      by_cases ha : 97 ≤ c.toNat
      · by_cases hz : c.toNat ≤ 102
        · have hu : up c = UInt8.ofNat (c.toNat - 32) := by unfold up; rw [if_pos ⟨ha, hz⟩]
          have hun : (((up c).toNat : Nat) : Int) = (c.toNat : Int) - 32 := by rw [hu, UInt8.toNat_ofNat', Nat.mod_eq_of_lt (by omega)]; omega
          have hset := HBy.out.set k (by rw [upk_len]; exact hlb) (up c) ((c.toNat : Int) - 32) hun.symm
          rw [hc, upk_set _ k hlb, ← hc] at hset
          have HS := Lib.hid hset
          have HSe : Hid (Below w.heap.size w (wr.setCell ⟨g, k, none⟩ (.int .u8 ((c.toNat : Int) - 32)))) := Lib.hid (HBe.out.setCell (show w.heap.size ≤ (⟨g, k, none⟩ : Addr).block from HG.out) _)
          have i1 : (97 : Int) ≤ (c.toNat : Int) := by omega
          have i2 : (c.toNat : Int) ≤ 102 := by omega
          have hwr : IntKind.u8.wrap ((c.toNat : Int) - 32) = (c.toNat : Int) - 32 := by unfold IntKind.wrap IntKind.bits IntKind.signed; simp; omega
          clear hset hu hun hc
          go_wp2_with fail
          go_roundw
          case rel => exact ⟨k + 1, hlt, by go_num, HS.out, HSe.out⟩
          case measure => simp [intOf]; omega
        · have hu : up c = c := by unfold up; rw [if_neg (by omega)]
          have HS : Hid (Byt wr g (upk (bl s) (k + 1))) := Lib.hid (by rw [← upk_same _ k hlb (by rw [← hc]; exact hu)]; exact HBy.out)
          have i1 : (97 : Int) ≤ (c.toNat : Int) := by omega
          have i2 : ¬ (c.toNat : Int) ≤ 102 := by omega
          clear hu hc
          go_wp2_with fail
          go_roundw
          case rel => exact ⟨k + 1, hlt, by go_num, HS.out, HBe.out⟩
          case measure => simp [intOf]; omega
      · have hu : up c = c := by unfold up; rw [if_neg (by omega)]
        have HS : Hid (Byt wr g (upk (bl s) (k + 1))) := Lib.hid (by rw [← upk_same _ k hlb (by rw [← hc]; exact hu)]; exact HBy.out)
        have i1 : ¬ (97 : Int) ≤ (c.toNat : Int) := by omega
        clear hu hc
        go_wp2_with fail
        go_roundw
        case rel => exact ⟨k + 1, hlt, by go_num, HS.out, HBe.out⟩
        case measure => simp [intOf]; omega
    · obtain rfl : k = s.size := by omega
      have hst := HBy.out.str s.size cap (by rw [upk_len]; exact HL.out)
      rw [HE.out] at hst
      go_wp2_with fail
      go_ret
      exact ⟨rfl, HBe.out⟩
end Go.Proofs.YtkdplnbabelkoaaDoor
