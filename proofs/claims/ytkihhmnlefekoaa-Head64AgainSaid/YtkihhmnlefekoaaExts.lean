/-
  Proved here: plain facts on chains of extensions; what the document's Routed and Chain answer.
  Conditions: texts of at most 2^40 bytes; the slice's cells hold extensions.
-/
import Derived.Test.YtkihhmnlefekoaaBlocks
import Derived.Laws.AppendOwn
namespace Go.Proofs.Ytkihhmnlefekoaa
open Go.RowKit

/-- Extensions as cells. -/
def extV (l : List (Int × ByteArray)) : List Value := l.flatMap fun e => [.int .i64 e.1, .string e.2]
theorem extV_append (a b : List (Int × ByteArray)) : extV (a ++ b) = extV a ++ extV b := by unfold extV; rw [List.flatMap_append]
theorem extV_len (l : List (Int × ByteArray)) : (extV l).length = l.length * 2 := by
  induction l with
  | nil => rfl
  | cons e r ih =>
    show ([Value.int .i64 e.1, .string e.2] ++ extV r).length = _
    rw [List.length_append, ih]
    show 2 + r.length * 2 = (r.length + 1) * 2
    omega
theorem extV_at (l : List (Int × ByteArray)) : ∀ (i : Nat) (h : i < l.length), (extV l)[i * 2]? = some (.int .i64 l[i].1) ∧ (extV l)[i * 2 + 1]? = some (.string l[i].2) := by
  induction l with
  | nil => intro i h; cases h
  | cons e r ih =>
    intro i h
    match i, h with
    | 0, _ => exact ⟨rfl, rfl⟩
    | i + 1, h =>
      have := ih i (by simpa using h)
      rw [show (i + 1) * 2 = i * 2 + 2 by omega]
      exact this
/-- A slice that reads as these extensions. -/
def Exs (w : World) (v : Value) (l : List (Int × ByteArray)) : Prop :=
  ∃ ao cap, v = .slice ao l.length cap ∧ ∀ i (h : i < l.length), ∃ b o, ao = some ⟨b, o, none⟩ ∧ w.cell? ⟨b, o + i * 2, none⟩ = some (.int .i64 l[i].1) ∧ w.cell? ⟨b, o + i * 2 + 1, none⟩ = some (.string l[i].2)
theorem exs_own {w : World} {base : Nat} {v : Value} {l : List (Int × ByteArray)} (h : w.ownsRow base 38 2 v l.length (extV l)) : Exs w v l := by
  obtain ⟨_, ⟨rfl, h0⟩ | ⟨g, cap, cur, rfl, hb, hh, h3, h4, h5, h6⟩⟩ := h
  · exact ⟨none, 0, by rw [h0], fun i hi => by omega⟩
  · refine ⟨_, cap, rfl, fun i hi => ⟨g, 0, rfl, ?_, ?_⟩⟩
    all_goals
      have e : ∀ j, j < l.length * 2 → cur[j]? = (extV l)[j]? := fun j hj => by
        have e : (cur.toList.take (l.length * 2))[j]? = (extV l)[j]? := congrArg (fun x : List Value => x[j]?) h6
        rw [List.getElem?_take, if_pos hj] at e
        rw [← e]
        simp
      have e2 := extV_at l i hi
      have hk : Bk w g 38 cur := hh
      rw [Nat.zero_add]
    · exact hk.c _ _ (by rw [e _ (by omega), e2.1])
    · exact hk.c _ _ (by rw [e _ (by omega), e2.2])

theorem ret_bool {a b : Bool} (h : a = b) : Ending.returned (.bool a) = .returned (.bool b) := by rw [h]
/-- Is an extension a route that is not used up? -/
def rt1 (e : Int × ByteArray) : Bool := e.1 == 43 && (decide (2 ≤ e.2.size) && (e.2.data.toList.getD 1 0 != 0))
def rtd (l : List (Int × ByteArray)) : Bool := l.any rt1
theorem any_snoc (l : List (Int × ByteArray)) (k : Nat) (h : k < l.length) (f : Int × ByteArray → Bool) (h0 : (l.take k).any f = false) (h1 : f l[k] = false) : (l.take (k + 1)).any f = false := by
  rw [List.take_succ_eq_append_getElem h, List.any_append, h0, List.any_cons, h1]
  rfl
theorem any_yes (l : List (Int × ByteArray)) (k : Nat) (h : k < l.length) (f : Int × ByteArray → Bool) (h1 : f l[k] = true) : l.any f = true := List.any_eq_true.2 ⟨_, List.getElem_mem h, h1⟩
theorem byte_get (s : ByteArray) (i : Nat) (h : i < s.size) : s.data.toList.getD i 0 = s[i] := by
  rw [List.getD_eq_getElem?_getD, List.getElem?_eq_getElem (by simpa using h)]
  rfl
set_option maxRecDepth 100000 in
set_option maxHeartbeats 400000 in
theorem rrouted_any (v : Value) (l : List (Int × ByteArray)) (w : World) (h : Exs w v l) (hl : l.length ≤ 1099511627776) :
    Calls Try.prog 34 #[v] w fun e w' => e = .returned (.bool (rtd l)) ∧ w = w' := by
  obtain ⟨ao, cap, rfl, hc⟩ := h
  have HC := Lib.hid hc
  have HR := Lib.hid (show rtd l = l.any rt1 from rfl)
  clear hc
  go_enter Try.func34, Try.ntmps34
  go_wp2_with fail
  go_loop [3] (fun i => ∃ k : Nat, k ≤ l.length ∧ i = .int .i64 k ∧ Hid ((l.take k).any rt1 = false)) (fun i => l.length - (intOf i).toNat)
  case atStart => exact ⟨0, Nat.zero_le _, rfl, Lib.hid rfl⟩
  case round =>
    obtain ⟨k, hk, rfl, HA⟩ := hrel
    by_cases hlt : k < l.length
    · obtain ⟨b, o, rfl, c1, c2⟩ := HC.out k hlt
      have HY := Lib.hid (any_yes l k hlt rt1)
      have HN := Lib.hid (any_snoc l k hlt rt1 HA.out)
      have hk2 : (k : Int) < (l.length : Int) := by omega
      generalize l[k] = x at *
      obtain ⟨kd, bd⟩ := x
      by_cases h43 : kd = 43
      · subst h43
        by_cases h2 : 2 ≤ bd.size
        · have h21 : (1 : Int) < (bd.size : Int) := by omega
          have hg := byte_get bd 1 (by omega)
          have HG := Lib.hid hg
          clear hg
          generalize hx : bd[1] = x1 at *
          cases h1 : (((x1.toNat : Nat) : Int) != 0)
          · have HT : Hid (rt1 (43, bd) = false) := Lib.hid (by
              unfold rt1
              rw [HG.out]
              have : x1.toNat = 0 := by simpa using h1
              have : x1 = 0 := UInt8.toNat_inj.1 this
              rw [this]
              simp)
            go_wp2_with fail
            go_round
            case rel => exact ⟨k + 1, by omega, by go_num, Lib.hid (HN.out HT.out)⟩
            case measure => simp [intOf]; omega
          · have HT : Hid (rt1 (43, bd) = true) := Lib.hid (by
              unfold rt1
              rw [HG.out]
              have h3 : x1 ≠ 0 := fun he => by rw [he] at h1; exact absurd h1 (by decide)
              simp [h2, h3])
            go_wp2_with fail
            go_ret
            exact ⟨ret_bool (by rw [HR.out, HY.out HT.out]), rfl⟩
        · have HT : Hid (rt1 (43, bd) = false) := Lib.hid (by unfold rt1; simp [h2])
          go_wp2_with fail
          go_round
          case rel => exact ⟨k + 1, by omega, by go_num, Lib.hid (HN.out HT.out)⟩
          case measure => simp [intOf]; omega
      · have hk43 : (kd == 43) = false := by rw [beq_eq_false_iff_ne]; exact h43
        have HT : Hid (rt1 (kd, bd) = false) := Lib.hid (by unfold rt1; rw [show ((kd, bd).1 == 43) = false from hk43]; rfl)
        clear h43
        go_wp2_with fail
        go_round
        case rel => exact ⟨k + 1, by omega, by go_num, Lib.hid (HN.out HT.out)⟩
        case measure => simp [intOf]; omega
    · obtain rfl : k = l.length := by omega
      have HT : Hid (rtd l = false) := Lib.hid (by rw [HR.out]; have := HA.out; rwa [List.take_length] at this)
      go_wp2_with fail
      go_ret
      exact ⟨ret_bool HT.out.symm, rfl⟩
end Go.Proofs.Ytkihhmnlefekoaa
