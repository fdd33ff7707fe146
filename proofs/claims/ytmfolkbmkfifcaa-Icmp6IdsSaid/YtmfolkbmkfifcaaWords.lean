/-
  Proved here: what the document's Words answers.
  Conditions: a text of at most 80000 bytes.
-/
import Derived.Test.YtmfolkbmkfifcaaWordsPlain
import Derived.Test.YtmfolkbmkfifcaaConv
import Derived.OwnWalk
import Derived.Laws.AppendOwn
import Derived.Deep.RegionHeld3
import Derived.Deep.AppendLies
import Derived.KernelRfl
import Derived.IntWalk
namespace Go.Proofs.Ytmfolkbmkfifcaa
open Go.RowKit

theorem Try.infoInt : (Try.prog.info? 3).map (fun i => (i.zero, i.size, i.bytes)) = some (some (.int .i64 0), 1, 8) := by kernel_rfl
theorem conv1 (a : Int) (w : World) : (convert 45 9 (.slice (some ⟨w.heap.size, 0, none⟩) 1 1)).run Try.prog (w.alloc (.cells #[.int .u8 a] 5)) = .ok (.string (strOfNums [a])) (w.alloc (.cells #[.int .u8 a] 5)) := by
  refine run_convert_bytes_arg _ 45 5 Try.underlying45 Try.underlying5 w.heap.size 0 1 1 [a] rfl (fun i hi => ?_) 9 Try.underlying9
  rw [World.cell?_alloc_new]
  rcases i with _ | i
  · rfl
  · omega

def ints (l : List Nat) : List Value := l.map fun x => .int .i64 (x : Nat)
/-- A slice of its own that holds these numbers. -/
def Made (w : World) (l : List Nat) (e : Ending) (w' : World) : Prop :=
  ∃ v, e = .returned v ∧ w'.ownsRow w.heap.size 3 1 v l.length (ints l) ∧ Below w.heap.size w w'
theorem ints_snoc (l : List Nat) (x : Nat) : ints (l ++ [x]) = ints l ++ [.int .i64 (x : Nat)] := by simp [ints]
theorem byte_at (s : ByteArray) (k : Nat) (h : k < s.size) : s.data.toList.getD k 0 = s[k] := by
  rw [List.getD_eq_getElem?_getD, List.getElem?_eq_getElem (by simpa using h)]; rfl

/-- A text with its last single byte brought to a word. -/
def Pad (s t : ByteArray) : Prop := t.size % 2 = 0 ∧ t.size / 2 = (s.size + 1) / 2 ∧ t.size ≤ s.size + 1 ∧ ∀ j, t.data.toList.getD j 0 = s.data.toList.getD j 0
theorem pad_even (s : ByteArray) (h : s.size % 2 = 0) : Pad s s := ⟨h, by omega, by omega, fun _ => rfl⟩
theorem pad_odd (s : ByteArray) (h : s.size % 2 = 1) : Pad s (s ++ strOfNums [0]) := by
  have e : (s ++ strOfNums [0]).size = s.size + 1 := by rw [ByteArray.size_append]; rfl
  refine ⟨by omega, by omega, by omega, fun j => ?_⟩
  have e2 : (s ++ strOfNums [0]).data.toList = s.data.toList ++ [0] := by simp [strOfNums]
  rw [e2]
  simp only [List.getD_eq_getElem?_getD, List.getElem?_append]
  split
  · rfl
  · rename_i hj
    rw [List.getElem?_eq_none (Nat.le_of_not_lt hj)]
    rcases hk : j - s.data.toList.length with _ | k <;> simp
theorem Pad.word {s t : ByteArray} (h : Pad s t) {m : Nat} (hm : m % 2 = 0) (hl : m + 1 < t.size) : wd s.data.toList (m / 2) = 256 * t[m].toNat + t[m + 1].toNat := by
  unfold wd
  rw [show 2 * (m / 2) = m by omega, ← h.2.2.2, ← h.2.2.2, byte_at t m (by omega), byte_at t (m + 1) hl]

theorem own_next {l : List UInt8} {m : Nat} {a b : Nat} {w w1 : World} {v : Value} (hw : wd l (m / 2) = 256 * a + b)
    (h : w1.ownsRow w.heap.size 3 1 v (m / 2 + 1) (ints ((List.range (m / 2)).map (wd l)) ++ [.int .i64 (256 * (a : Int) + (b : Int))])) :
    w1.ownsRow w.heap.size 3 1 v ((m + 2) / 2) (ints ((List.range ((m + 2) / 2)).map (wd l))) := by
  rw [show (m + 2) / 2 = m / 2 + 1 by omega, wds_take, ints_snoc, hw]
  exact h

set_option maxRecDepth 100000 in
set_option maxHeartbeats 2000000 in
theorem words_any (s : ByteArray) (w : World) (hs : s.size ≤ 80000) :
    Calls Try.prog 29 #[.string s] w (Made w (wds s.data.toList)) := by
  obtain ⟨i0, hi0, hz0, hz1, hz2⟩ := info_parts Try.infoInt
  have HI := Lib.hid hi0
  have H0 := Lib.hid hz0
  have H1 := Lib.hid hz1
  have H2 := Lib.hid hz2
  clear hi0 hz0 hz1 hz2
  have hcv := conv1
  have hsz0 := strOfNums_size
  rcases Nat.mod_two_eq_zero_or_one s.size with hp | hp
  · have HPad := Lib.hid (pad_even s hp)
    have h8 : ((s.size : Int) % 2 == 1) = false := by rw [show (s.size : Int) % 2 = 0 by omega]; rfl
    clear hp
    go_enter Try.func29, Try.ntmps29
    go_wp2_with fail
    clear hcv hsz0
    go_loopw [3, 4] (fun v i wr => ∃ m : Nat, m % 2 = 0 ∧ m ≤ s.size ∧ i = .int .i64 m ∧ wr.ownsRow w.heap.size 3 1 v (m / 2) (ints ((List.range (m / 2)).map (wd s.data.toList))) ∧ Below w.heap.size w wr) (fun _ i _ => s.size - (intOf i).toNat)
    case atStart => exact ⟨0, rfl, Nat.zero_le _, rfl, ⟨by simp [ints], .inl ⟨rfl, rfl⟩⟩, Below.refl _ _⟩
    case round =>
      obtain ⟨m, hm2, hm, rfl, hown, hbl⟩ := hrel
      have HO := Lib.hid hown
      have HB := Lib.hid hbl
      have HM2 := Lib.hid hm2
      clear hown hbl hm2
      by_cases hlt : m < s.size
      · have hlt2 : m + 1 < s.size := by have := HM2.out; have := HPad.out.1; omega
        have hq0 : (0 : Int) ≤ (m : Int) := Int.natCast_nonneg _
        have hq1 : (m : Int) < (s.size : Int) := by omega
        have hq2 : (m : Int) + 1 < (s.size : Int) := by omega
        have hq3 : (0 : Int) ≤ (m : Int) + 1 := by omega
        have g1 := s[m].toNat_lt
        have g2 := s[m + 1].toNat_lt
        have HW : Hid (wd s.data.toList (m / 2) = 256 * s[m].toNat + s[m + 1].toNat) := Lib.hid (HPad.out.word HM2.out hlt2)
        have hX1 : m / 2 + 1 ≤ maxLen := by unfold maxLen; omega
        have hX2 : (m / 2 + 1) * 8 ≤ 140737488355328 := by omega
        have hX3 : w.heap.size ≤ ((wr.alloc (.cells #[.int .i64 (256 * (s[m].toNat : Int) + (s[m + 1].toNat : Int))] 3)).drew).heap.size := by have := HB.out.size; simp; omega
        have HX1 := Lib.hid hX1
        have HX2 := Lib.hid hX2
        have HX3 := Lib.hid hX3
        clear hX1 hX2 hX3
        go_wp2_with fail
        have k1 : IntKind.i64.wrap ((m : Int) + 1) = (m : Int) + 1 := IntWalk.i64_in _ (by omega)
        have k2 : ((m : Int) + 1).toNat = m + 1 := by omega
        have k5 : IntKind.i64.wrap (s[m].toNat : Int) = (s[m].toNat : Int) := IntWalk.i64_in _ (by omega)
        have k6 : IntKind.i64.wrap (s[m + 1].toNat : Int) = (s[m + 1].toNat : Int) := IntWalk.i64_in _ (by omega)
        have k3 : IntKind.i64.wrap (256 * (s[m].toNat : Int)) = 256 * (s[m].toNat : Int) := IntWalk.i64_in _ (by omega)
        have k4 : IntKind.i64.wrap (256 * (s[m].toNat : Int) + (s[m + 1].toNat : Int)) = 256 * (s[m].toNat : Int) + (s[m + 1].toNat : Int) := IntWalk.i64_in _ (by omega)
        go_region_held3 (fun _ => True) (trivial)
          ((refine step_append_lies _ (by rfl) _ _ _ (by rfl) w.heap.size 3 i0 _ 1 8 Try.underlying64 HI.out H0.out H1.out H2.out rfl Nat.one_pos _ (m / 2) (ints ((List.range (m / 2)).map (wd s.data.toList))) (by rfl) ((HO.out.alloc _).drew)
                ⟨wr.heap.size, 0, none⟩ 1 1 [.int .i64 (256 * (s[m].toNat : Int) + (s[m + 1].toNat : Int))] (by rfl) (by rfl) (World.news_of_block (cs := #[.int .i64 (256 * (s[m].toNat : Int) + (s[m + 1].toNat : Int))]) (t := 3) (fr := (0, 0)) (heap_alloc_new wr _)) (by simp [Value.oneCell'])
                Nat.one_pos HX1.out HX2.out HX3.out (wr.heap.size + 1) (by simp) ?_; intro gg cap w1 hown1 hgrow hat hlt9))
        all_goals
          clear k1 k3 k4 k5 k6
          have HO1 := Lib.hid hown1
          have hb1 : Below w.heap.size w w1 := (HB.out.alloc HB.out.size _).drew.grown hgrow HX3.out (fun k hk => (HO.out.lt k hk).1)
          have HB1 := Lib.hid hb1
          clear hown1 hgrow hat hlt9 hb1
          go_wp2_with fail
          go_roundw
          case rel => exact ⟨m + 2, by have := HM2.out; omega, by omega, by go_num, own_next HW.out HO1.out, HB1.out⟩
          case measure => simp [intOf]; omega
      · go_wp2_with fail
        go_ret
        have hmm : m / 2 = (s.data.toList.length + 1) / 2 := by
          have h1 := HPad.out.2.1
          have h2 := HM2.out
          have h3 : s.data.toList.length = s.size := by simp
          rw [h3, ← h1]
          omega
        refine ⟨_, rfl, ?_, HB.out⟩
        have := HO.out
        rw [hmm] at this
        rw [wds_len]
        exact this
  · have HPad := Lib.hid (pad_odd s hp)
    have h8 : ((s.size : Int) % 2 == 1) = true := by rw [show (s.size : Int) % 2 = 1 by omega]; rfl
    clear hp
    go_enter Try.func29, Try.ntmps29
    go_wp2_with fail
    clear hcv hsz0
    have hz2 := HPad.out.2.2.1
    generalize s ++ strOfNums [0] = t at HPad hz2
    go_loopw [3, 4] (fun v i wr => ∃ m : Nat, m % 2 = 0 ∧ m ≤ t.size ∧ i = .int .i64 m ∧ wr.ownsRow w.heap.size 3 1 v (m / 2) (ints ((List.range (m / 2)).map (wd s.data.toList))) ∧ Below w.heap.size w wr) (fun _ i _ => t.size - (intOf i).toNat)
    case atStart => exact ⟨0, rfl, Nat.zero_le _, rfl, ⟨by simp [ints], .inl ⟨rfl, rfl⟩⟩, (Below.refl _ _).alloc (Nat.le_refl _) _⟩
    case round =>
      obtain ⟨m, hm2, hm, rfl, hown, hbl⟩ := hrel
      have HO := Lib.hid hown
      have HB := Lib.hid hbl
      have HM2 := Lib.hid hm2
      clear hown hbl hm2
      by_cases hlt : m < t.size
      · have hlt2 : m + 1 < t.size := by have := HM2.out; have := HPad.out.1; omega
        have hq0 : (0 : Int) ≤ (m : Int) := Int.natCast_nonneg _
        have hq1 : (m : Int) < (t.size : Int) := by omega
        have hq2 : (m : Int) + 1 < (t.size : Int) := by omega
        have hq3 : (0 : Int) ≤ (m : Int) + 1 := by omega
        have g1 := t[m].toNat_lt
        have g2 := t[m + 1].toNat_lt
        have HW : Hid (wd s.data.toList (m / 2) = 256 * t[m].toNat + t[m + 1].toNat) := Lib.hid (HPad.out.word HM2.out hlt2)
        have hX1 : m / 2 + 1 ≤ maxLen := by unfold maxLen; omega
        have hX2 : (m / 2 + 1) * 8 ≤ 140737488355328 := by omega
        have hX3 : w.heap.size ≤ ((wr.alloc (.cells #[.int .i64 (256 * (t[m].toNat : Int) + (t[m + 1].toNat : Int))] 3)).drew).heap.size := by have := HB.out.size; simp; omega
        have HX1 := Lib.hid hX1
        have HX2 := Lib.hid hX2
        have HX3 := Lib.hid hX3
        clear hX1 hX2 hX3
        go_wp2_with fail
        have k1 : IntKind.i64.wrap ((m : Int) + 1) = (m : Int) + 1 := IntWalk.i64_in _ (by omega)
        have k2 : ((m : Int) + 1).toNat = m + 1 := by omega
        have k5 : IntKind.i64.wrap (t[m].toNat : Int) = (t[m].toNat : Int) := IntWalk.i64_in _ (by omega)
        have k6 : IntKind.i64.wrap (t[m + 1].toNat : Int) = (t[m + 1].toNat : Int) := IntWalk.i64_in _ (by omega)
        have k3 : IntKind.i64.wrap (256 * (t[m].toNat : Int)) = 256 * (t[m].toNat : Int) := IntWalk.i64_in _ (by omega)
        have k4 : IntKind.i64.wrap (256 * (t[m].toNat : Int) + (t[m + 1].toNat : Int)) = 256 * (t[m].toNat : Int) + (t[m + 1].toNat : Int) := IntWalk.i64_in _ (by omega)
        go_region_held3 (fun _ => True) (trivial)
          ((refine step_append_lies _ (by rfl) _ _ _ (by rfl) w.heap.size 3 i0 _ 1 8 Try.underlying64 HI.out H0.out H1.out H2.out rfl Nat.one_pos _ (m / 2) (ints ((List.range (m / 2)).map (wd s.data.toList))) (by rfl) ((HO.out.alloc _).drew)
                ⟨wr.heap.size, 0, none⟩ 1 1 [.int .i64 (256 * (t[m].toNat : Int) + (t[m + 1].toNat : Int))] (by rfl) (by rfl) (World.news_of_block (cs := #[.int .i64 (256 * (t[m].toNat : Int) + (t[m + 1].toNat : Int))]) (t := 3) (fr := (0, 0)) (heap_alloc_new wr _)) (by simp [Value.oneCell'])
                Nat.one_pos HX1.out HX2.out HX3.out (wr.heap.size + 1) (by simp) ?_; intro gg cap w1 hown1 hgrow hat hlt9))
        all_goals
          clear k1 k3 k4 k5 k6
          have HO1 := Lib.hid hown1
          have hb1 : Below w.heap.size w w1 := (HB.out.alloc HB.out.size _).drew.grown hgrow HX3.out (fun k hk => (HO.out.lt k hk).1)
          have HB1 := Lib.hid hb1
          clear hown1 hgrow hat hlt9 hb1
          go_wp2_with fail
          go_roundw
          case rel => exact ⟨m + 2, by have := HM2.out; omega, by omega, by go_num, own_next HW.out HO1.out, HB1.out⟩
          case measure => simp [intOf]; omega
      · go_wp2_with fail
        go_ret
        have hmm : m / 2 = (s.data.toList.length + 1) / 2 := by
          have h1 := HPad.out.2.1
          have h2 := HM2.out
          have h3 : s.data.toList.length = s.size := by simp
          rw [h3, ← h1]
          omega
        refine ⟨_, rfl, ?_, HB.out⟩
        have := HO.out
        rw [hmm] at this
        rw [wds_len]
        exact this
end Go.Proofs.Ytmfolkbmkfifcaa
