/-
  Proved here: what the program's groups and fills answer.
  Conditions: none.
-/
import Derived.Test.YtkdplnbabelkoaaDoorRead
import Derived.Test.YtkdplnbabelkoaaDoorPw
namespace Go.Proofs.YtkdplnbabelkoaaDoor
open Go.RowKit

theorem H_vals : hexS.vals = #[.int .i32 58, .int .i64 16, .int .i64 4, .int .i64 65535, .bool true, .int .i64 8] := rfl
/-- A slice of numbers, or the one that is none. -/
def SlI (B : Nat) (v : Value) (ns : List Nat) (w : World) : Prop := (v = .slice none 0 0 ∧ ns = []) ∨ ∃ g cap, v = .slice (some ⟨g, 0, none⟩) ns.length cap ∧ B ≤ g ∧ IntC g (ints' ns) w ∧ ∀ n ∈ ns, n < 65536
def GrA (B : Nat) (R : Option (List Nat)) (v : Value) (ok : Bool) (w : World) : Prop := match R with
  | none => v = .slice none 0 0 ∧ ok = false
  | some ns => ok = true ∧ ns.length ≤ 8 ∧ SlI B v ns w
theorem SlI.below {B : Nat} {v : Value} {ns : List Nat} {w w' : World} (h : SlI B v ns w) (hb : Below w.heap.size w w') : SlI B v ns w' := by
  rcases h with h | ⟨g, cap, h1, h2, h3, h4⟩
  · exact .inl h
  · exact .inr ⟨g, cap, h1, h2, h3.below hb, h4⟩
set_option maxRecDepth 100000 in
set_option maxHeartbeats 4000000 in
theorem groups_any (s : ByteArray) (w : World) :
    Calls Tryd.prog 43 #[.string s] w fun e w' => ∃ v ok, e = .returned (.tuple #[v, .bool ok]) ∧ GrA w.heap.size (grs (bl s)) v ok w' ∧ Below w.heap.size w w' := by
  have CR := Lib.hid (fun W => read_any hexS s W (by decide) (by decide) (by decide) (by decide) (by decide))
  rw [H_vals] at CR
  have HG : Hid (grs (bl s) = if bl s = [] then some [] else rd hexS (bl s) [] 0 0) := Lib.hid rfl
  generalize rd hexS (bl s) [] 0 0 = R at *
  generalize grs (bl s) = G at *
  by_cases hs : bl s = []
  · have e0 : s = ⟨#[]⟩ := by apply ba_ext; exact hs
    subst e0
    have HX : Hid (G = some []) := Lib.hid (by rw [HG.out, if_pos hs])
    clear HG CR hs
    go_enter Tryd.func43, Tryd.ntmps43
    go_wp2_with fail
    go_ret2
    exact ⟨_, _, rfl, by rw [HX.out]; exact ⟨rfl, Nat.zero_le _, .inl ⟨rfl, rfl⟩⟩, Below.refl _ _⟩
  · have e0 : s.toList.isEmpty = false := by
      rw [ByteArray.toList_eq]
      show (bl s).isEmpty = false
      cases h : bl s with
      | nil => exact absurd h hs
      | cons a b => rfl
    have HX : Hid (G = R) := Lib.hid (by rw [HG.out, if_neg hs])
    clear HG
    go_enter Tryd.func43, Tryd.ntmps43
    go_wp2_with fail
    refine (CR.out w).mono ?_
    rintro e w2 ⟨v, ok1, rfl, hst, b2⟩
    have HB := Lib.hid b2
    have HS := Lib.hid hst
    clear b2 CR hst
    go_wp2_with fail
    go_ret2
    refine ⟨_, _, rfl, ?_, HB.out⟩
    rw [HX.out]
    have h := HS.out
    cases R with
    | none => exact h
    | some ns =>
      obtain ⟨h1, h2, _, g, cap, h3, h4, h5, h6⟩ := h
      exact ⟨h1, h2, .inr ⟨g, cap, h3, h4, h5, h6⟩⟩
theorem fills_any (n : Nat) (b : Bool) (w : World) : Calls Tryd.prog 44 #[.int .i64 (n : Int), .bool b] w fun e w' => e = .returned (.bool (if b = true then decide (n < 8) else decide (n = 8))) ∧ w' = w := by
  cases b
  · have HR : Hid ((if (false : Bool) = true then decide (n < 8) else decide (n = 8)) = decide (n = 8)) := Lib.hid rfl
    generalize (if (false : Bool) = true then decide (n < 8) else decide (n = 8)) = R at *
    by_cases h : n = 8
    · have i8 : ((n : Int) == 8) = true := by rw [beq_iff_eq]; omega
      have HX : Hid (R = true) := Lib.hid (by rw [HR.out]; exact decide_eq_true h)
      clear HR h
      go_enter Tryd.func44, Tryd.ntmps44
      go_wp2_with fail
      go_ret
      exact ⟨by rw [HX.out]; rfl, rfl⟩
    · have i8 : ((n : Int) == 8) = false := by rw [beq_eq_false_iff_ne]; omega
      have HX : Hid (R = false) := Lib.hid (by rw [HR.out]; exact decide_eq_false h)
      clear HR h
      go_enter Tryd.func44, Tryd.ntmps44
      go_wp2_with fail
      go_ret
      exact ⟨by rw [HX.out]; rfl, rfl⟩
  · have HR : Hid ((if (true : Bool) = true then decide (n < 8) else decide (n = 8)) = decide (n < 8)) := Lib.hid rfl
    generalize (if (true : Bool) = true then decide (n < 8) else decide (n = 8)) = R at *
    by_cases h : n < 8
    · have i8 : (n : Int) < 8 := by omega
      have HX : Hid (R = true) := Lib.hid (by rw [HR.out]; exact decide_eq_true h)
      have d8 := decide_eq_true i8
      clear HR h
      go_enter Tryd.func44, Tryd.ntmps44
      go_wp2_with fail
      go_ret
      exact ⟨by rw [HX.out]; rfl, rfl⟩
    · have i8 : ¬ (n : Int) < 8 := by omega
      have HX : Hid (R = false) := Lib.hid (by rw [HR.out]; exact decide_eq_false h)
      have d8 := decide_eq_false i8
      clear HR h
      go_enter Tryd.func44, Tryd.ntmps44
      go_wp2_with fail
      go_ret
      exact ⟨by rw [HX.out]; rfl, rfl⟩
end Go.Proofs.YtkdplnbabelkoaaDoor
