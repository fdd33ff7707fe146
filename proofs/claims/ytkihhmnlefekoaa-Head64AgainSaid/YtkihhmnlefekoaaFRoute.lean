/-
  Proved here: what ip4.isRoute, ip4.optionLength and ip4.Routed answer.
  Conditions: a text of at most 70000 bytes.
-/
import Derived.Test.YtkihhmnlefekoaaFNumber
namespace Go.Proofs.Ytkihhmnlefekoaa.P4
open Go.RowKit

/-- Is an option of that kind a source route? -/
def rte (a : Nat) : Bool := a == 131 || a == 137
def lb (l : List UInt8) (i : Nat) : Nat := (l.getD i 0).toNat
/-- May the option be so with which a list begins? -/
def rtOk (l : List UInt8) : Prop := lb l 0 = 1 ∨ (2 ≤ l.length ∧ (if rte (lb l 0) then 3 else 2) ≤ lb l 1 ∧ lb l 1 ≤ l.length)
instance (l : List UInt8) : Decidable (rtOk l) := by unfold rtOk; infer_instance
def rtLen (l : List UInt8) : Nat := if lb l 0 = 1 then 1 else lb l 1
def rtHit (l : List UInt8) : Bool := rte (lb l 0) && decide (lb l 2 ≤ lb l 1)
/-- Whether options have a source route that is not used up; none: they may not be. -/
def rt : Nat → List UInt8 → Bool → Option Bool
  | 0, _, a => some a
  | f + 1, l, a => if l.length = 0 ∨ lb l 0 = 0 then some a else if rtOk l then rt f (l.drop (rtLen l)) (a || rtHit l) else none
theorem rtLen_pos {l : List UInt8} (h : rtOk l) : 1 ≤ rtLen l := by
  unfold rtOk at h
  unfold rtLen
  split
  · omega
  · rcases h with h | ⟨_, h, _⟩
    · contradiction
    · split at h <;> omega
theorem rt_fuel : ∀ (f g : Nat) (l : List UInt8) (a : Bool), l.length ≤ f → l.length ≤ g → rt f l a = rt g l a := by
  intro f
  induction f with
  | zero =>
    intro g l a h _
    obtain rfl : l = [] := List.eq_nil_of_length_eq_zero (by omega)
    cases g <;> simp [rt]
  | succ f ih =>
    intro g l a hf hg
    cases g with
    | zero =>
      obtain rfl : l = [] := List.eq_nil_of_length_eq_zero (by omega)
      simp [rt]
    | succ g =>
      unfold rt
      by_cases h0 : l.length = 0 ∨ lb l 0 = 0
      · rw [if_pos h0, if_pos h0]
      · rw [if_neg h0, if_neg h0]
        by_cases h1 : rtOk l
        · have := rtLen_pos h1
          rw [if_pos h1, if_pos h1]
          exact ih g _ _ (by rw [List.length_drop]; omega) (by rw [List.length_drop]; omega)
        · rw [if_neg h1, if_neg h1]
def rtE (l : List UInt8) (a : Bool) : Option Bool := rt l.length l a
theorem rtE_end {l : List UInt8} (a : Bool) (h : l.length = 0 ∨ lb l 0 = 0) : rtE l a = some a := by
  unfold rtE
  rcases hl : l.length with _ | n
  · rfl
  · unfold rt; rw [if_pos h]
theorem rtE_bad {l : List UInt8} (a : Bool) (h : ¬ (l.length = 0 ∨ lb l 0 = 0)) (h1 : ¬ rtOk l) : rtE l a = none := by
  unfold rtE
  rcases hl : l.length with _ | n
  · omega
  · unfold rt; rw [if_neg h, if_neg h1]
theorem rtE_next {l : List UInt8} (a : Bool) (h : ¬ (l.length = 0 ∨ lb l 0 = 0)) (h1 : rtOk l) : rtE l a = rtE (l.drop (rtLen l)) (a || rtHit l) := by
  unfold rtE
  have := rtLen_pos h1
  rcases hl : l.length with _ | n
  · omega
  · rw [rt, if_neg h, if_pos h1]
    exact rt_fuel _ _ _ _ (by rw [List.length_drop]; omega) (Nat.le_refl _)

theorem isRoute_any (x : Nat) (w : World) :
    Calls Try.prog 65 #[.int .u8 x] w fun e w' => e = .returned (.bool (rte x)) ∧ w = w' := by
  unfold rte
  by_cases h : x = 131
  · have h1 : ((x : Int) == 131) = true := by rw [h]; rfl
    rw [show (x == 131) = true by rw [h]; rfl, Bool.true_or]
    clear h
    go_enter Try.func65, Try.ntmps65
    go_wp2_with fail
    go_ret
    exact ⟨rfl, rfl⟩
  · have h1 : ((x : Int) == 131) = false := by rw [beq_eq_false_iff_ne]; omega
    have h2 : (x == 131) = false := by rw [beq_eq_false_iff_ne]; exact h
    have h3 : (x == 137) = ((x : Int) == 137) := by
      by_cases h4 : x = 137
      · rw [h4]; rfl
      · rw [show (x == 137) = false by rw [beq_eq_false_iff_ne]; exact h4, show ((x : Int) == 137) = false by rw [beq_eq_false_iff_ne]; omega]
    rw [h2, h3, Bool.false_or]
    clear h h2 h3
    go_enter Try.func65, Try.ntmps65
    go_wp2_with fail
    go_ret
    exact ⟨rfl, rfl⟩
theorem isRoute_at (x : Nat) (b : Bool) (h : rte x = b) (w : World) :
    Calls Try.prog 65 #[.int .u8 x] w fun e w' => e = .returned (.bool b) ∧ w = w' := h ▸ isRoute_any x w

theorem ol_one (t : ByteArray) (w : World) (hz : 0 < t.size) (h1 : ((t[0].toNat : Int) == 1) = true) :
    Calls Try.prog 64 #[.string t] w fun e w' => e = .returned (.tuple #[.int .i64 1, .bool true]) ∧ w = w' := by
  go_enter Try.func64, Try.ntmps64
  go_wp2_with fail
  go_ret2
  exact ⟨rfl, rfl⟩
theorem ol_short (t : ByteArray) (w : World) (hz : 0 < t.size) (h1 : ((t[0].toNat : Int) == 1) = false) (h2 : t.size < 2) :
    Calls Try.prog 64 #[.string t] w fun e w' => e = .returned (.tuple #[.int .i64 0, .bool false]) ∧ w = w' := by
  go_enter Try.func64, Try.ntmps64
  go_wp2_with fail
  go_ret2
  exact ⟨rfl, rfl⟩
theorem ol_any (t : ByteArray) (w : World) (hz : 0 < t.size) (h1 : ((t[0].toNat : Int) == 1) = false) (h2 : 2 ≤ t.size) (r d : Bool) (hr : rte t[0].toNat = r) (hd : decide ((if r then 3 else 2) ≤ t[1].toNat ∧ t[1].toNat ≤ t.size) = d) :
    Calls Try.prog 64 #[.string t] w fun e w' => e = .returned (.tuple #[.int .i64 (t[1].toNat : Nat), .bool d]) ∧ w = w' := by
  have HR := Lib.hid (isRoute_at t[0].toNat r hr)
  have h8 := t[1].toNat_lt
  clear hr
  by_cases g1 : t[1].toNat < (if r then 3 else 2)
  · have HD : Hid (d = false) := Lib.hid (by rw [← hd]; simp; omega)
    clear hd
    cases r
    all_goals
      simp only [Bool.false_eq_true, if_false, if_true] at g1
      go_enter Try.func64, Try.ntmps64
      go_wp2_with fail
      refine (HR.out _).mono ?_
      rintro e w1 ⟨rfl, rfl⟩
      go_wp2_with fail
      go_ret2
      rw [HD.out]
      exact ⟨rfl, rfl⟩
  · by_cases g2 : t[1].toNat ≤ t.size
    · have HD : Hid (d = true) := Lib.hid (by rw [← hd]; simp; omega)
      clear hd
      cases r
      all_goals
        simp only [Bool.false_eq_true, if_false, if_true] at g1
        go_enter Try.func64, Try.ntmps64
        go_wp2_with fail
        refine (HR.out _).mono ?_
        rintro e w1 ⟨rfl, rfl⟩
        go_wp2_with fail
        go_ret2
        rw [HD.out]
        exact ⟨rfl, rfl⟩
    · have HD : Hid (d = false) := Lib.hid (by rw [← hd]; simp; omega)
      clear hd
      cases r
      all_goals
        simp only [Bool.false_eq_true, if_false, if_true] at g1
        go_enter Try.func64, Try.ntmps64
        go_wp2_with fail
        refine (HR.out _).mono ?_
        rintro e w1 ⟨rfl, rfl⟩
        go_wp2_with fail
        go_ret2
        rw [HD.out]
        exact ⟨rfl, rfl⟩
def szOf : Value → Nat
  | .string s => s.size
  | _ => 0
/-- What Routed answers. -/
def RtPost (R : Option Bool) (w : World) (e : Ending) (w' : World) : Prop :=
  match R with
  | some b => e = .returned (.tuple #[.bool b, .nilIface]) ∧ Below w.heap.size w w'
  | none => Bad (.bool false) 8 w e w'
theorem lb_at (t : ByteArray) (i : Nat) (h : i < t.size) : lb t.data.toList i = t[i].toNat := by
  unfold lb
  rw [List.getD_eq_getElem?_getD, List.getElem?_eq_getElem (by simpa using h)]
  rfl
theorem drop_ext (t : ByteArray) (n : Nat) : (t.extract n t.size).data.toList = t.data.toList.drop n := by
  rw [ByteArray.data_extract, Array.toList_extract, List.extract_eq_take_drop, List.take_of_length_le (by rw [List.length_drop]; simp)]
theorem sz_list (t : ByteArray) : t.data.toList.length = t.size := by simp

set_option maxRecDepth 100000 in
set_option maxHeartbeats 1000000 in
theorem routed_any (s : ByteArray) (w : World) :
    Calls Try.prog 42 #[.string s] w (RtPost (rtE s.data.toList false) w) := by
  obtain ⟨R, hR⟩ : ∃ R, R = rtE s.data.toList false := ⟨_, rfl⟩
  rw [← hR]
  have HR := Lib.hid hR
  clear hR
  go_enter Try.func42, Try.ntmps42
  go_wp2_with fail
  go_loop [4, 5] (fun r v => ∃ (t : ByteArray) (a : Bool), r = .bool a ∧ v = .string t ∧ Hid (R = rtE t.data.toList a)) (fun _ v => szOf v)
  case atStart => exact ⟨s, false, rfl, rfl, HR⟩
  case round =>
    obtain ⟨t, a, rfl, rfl, HT⟩ := hrel
    by_cases hz : t.size = 0
    · have HE : Hid (R = some a) := Lib.hid (by rw [HT.out]; exact rtE_end a (.inl (by rw [sz_list]; exact hz)))
      obtain rfl : t = ⟨#[]⟩ := by
        obtain ⟨⟨l⟩⟩ := t
        have : l = [] := List.eq_nil_of_length_eq_zero hz
        rw [this]
      clear hz HT
      go_wp2_with fail
      go_ret2
      rw [HE.out]
      exact ⟨rfl, Below.refl _ _⟩
    · have hz1 : 0 < t.size := by omega
      have hne1 : t.toList.isEmpty = false := by
        rw [ByteArray.toList_eq, List.isEmpty_eq_false_iff]
        intro h
        rw [← sz_list, h] at hz
        exact hz rfl
      have hne2 : ¬ t.toList = [] := by
        rw [ByteArray.toList_eq]
        intro h
        rw [← sz_list, h] at hz
        exact hz rfl
      have e0 := lb_at t 0 hz1
      by_cases h0 : t[0].toNat = 0
      · have HE : Hid (R = some a) := Lib.hid (by rw [HT.out]; exact rtE_end a (.inr (by rw [e0]; exact h0)))
        have h0b : ((t[0].toNat : Int) != 0) = false := by rw [h0]; rfl
        clear h0 HT e0 hz
        go_wp2_with fail
        go_ret2
        rw [HE.out]
        exact ⟨rfl, Below.refl _ _⟩
      · have h0b : ((t[0].toNat : Int) != 0) = true := by rw [bne_iff_ne]; omega
        have HN : Hid (¬ (t.data.toList.length = 0 ∨ lb t.data.toList 0 = 0)) := Lib.hid (by rw [sz_list, e0]; omega)
        by_cases h1 : t[0].toNat = 1
        · have h1b : ((t[0].toNat : Int) == 1) = true := by rw [h1]; rfl
          have HX : Hid (R = rtE (t.extract 1 t.size).data.toList a) := Lib.hid (by
            rw [HT.out, rtE_next a HN.out (.inl (by rw [e0]; exact h1)), drop_ext]
            have q1 : rtLen t.data.toList = 1 := by unfold rtLen; rw [e0, if_pos h1]
            have q2 : rtHit t.data.toList = false := by unfold rtHit; rw [e0, h1]; rfl
            rw [q1, q2, Bool.or_false])
          have HC := Lib.hid (ol_one t w hz1 h1b)
          have HI := Lib.hid (isRoute_at t[0].toNat false (by rw [h1]; rfl))
          clear h1 h1b h0 HT e0 hz HN
          go_wp2_with fail
          refine HC.out.mono ?_
          rintro e w1 ⟨rfl, rfl⟩
          go_wp2_with fail
          refine (HI.out _).mono ?_
          rintro e w1 ⟨rfl, rfl⟩
          go_wp2_with fail
          go_round
          case rel => exact ⟨_, a, rfl, rfl, HX⟩
          case measure => simp [szOf]; omega
        · have h1b : ((t[0].toNat : Int) == 1) = false := by rw [beq_eq_false_iff_ne]; omega
          by_cases h2 : t.size < 2
          · have HE : Hid (R = none) := Lib.hid (by
              rw [HT.out]
              refine rtE_bad a HN.out ?_
              unfold rtOk
              rw [e0, sz_list]
              omega)
            have HC := Lib.hid (ol_short t w hz1 h1b h2)
            clear h1 h1b h0 HT e0 hz HN h2
            go_wp2_with fail
            refine HC.out.mono ?_
            rintro e w1 ⟨rfl, rfl⟩
            go_wp2_with fail
            go_ret2
            rw [HE.out]
            exact ⟨_, rfl, Flt.new _ _ _, Nat.le_refl _, (Below.refl _ _).alloc (Nat.le_refl _) _⟩
          · have h2' : 2 ≤ t.size := by omega
            have e1 := lb_at t 1 (by omega)
            have HC := fun r d hr hd => Lib.hid (ol_any t w hz1 h1b h2' r d hr hd)
            cases hd : decide ((if rte t[0].toNat then 3 else 2) ≤ t[1].toNat ∧ t[1].toNat ≤ t.size)
            · have HE : Hid (R = none) := Lib.hid (by
                rw [HT.out]
                refine rtE_bad a HN.out ?_
                unfold rtOk
                rw [e0, e1, sz_list]
                have := of_decide_eq_false hd
                omega)
              have HC' := HC _ _ rfl hd
              clear h1 h1b h0 HT e0 hz HN h2 HC hd e1
              go_wp2_with fail
              refine HC'.out.mono ?_
              rintro e w1 ⟨rfl, rfl⟩
              go_wp2_with fail
              go_ret2
              rw [HE.out]
              exact ⟨_, rfl, Flt.new _ _ _, Nat.le_refl _, (Below.refl _ _).alloc (Nat.le_refl _) _⟩
            · have hk := of_decide_eq_true hd
              have hok : rtOk t.data.toList := by
                unfold rtOk
                rw [e0, e1, sz_list]
                exact .inr ⟨h2', hk⟩
              have q1 : rtLen t.data.toList = t[1].toNat := by unfold rtLen; rw [e0, if_neg h1, e1]
              have HX : Hid (R = rtE (t.extract t[1].toNat t.size).data.toList (a || rtHit t.data.toList)) := Lib.hid (by
                rw [HT.out, rtE_next a HN.out hok, drop_ext, q1])
              have HC' := HC _ _ rfl hd
              have hn2 := hk.2
              have h8 := t[1].toNat_lt
              cases hr : rte t[0].toNat
              · have q2 : rtHit t.data.toList = false := by unfold rtHit; rw [e0, hr]; rfl
                rw [q2, Bool.or_false] at HX
                have HI := Lib.hid (isRoute_at t[0].toNat false hr)
                have hn1 : 2 ≤ t[1].toNat := by have := hk.1; rw [hr] at this; simpa using this
                clear h1 h1b h0 HT e0 hz HN h2 HC hd e1 hk hok q1 q2 hr
                go_wp2_with fail
                refine HC'.out.mono ?_
                rintro e w1 ⟨rfl, rfl⟩
                go_wp2_with fail
                refine (HI.out _).mono ?_
                rintro e w1 ⟨rfl, rfl⟩
                go_wp2_with fail
                go_round
                case rel => exact ⟨_, a, rfl, rfl, HX⟩
                case measure => simp [szOf]; omega
              · have HI := Lib.hid (isRoute_at t[0].toNat true hr)
                have hn1 : 3 ≤ t[1].toNat := by have := hk.1; rw [hr] at this; simpa using this
                have hz3 : 2 < t.size := by omega
                have e2 := lb_at t 2 hz3
                have g8 := t[2].toNat_lt
                by_cases hle : t[2].toNat ≤ t[1].toNat
                · have q2 : rtHit t.data.toList = true := by unfold rtHit; rw [e0, hr, e1, e2]; simpa using hle
                  rw [q2, Bool.or_true] at HX
                  clear h1 h1b h0 HT e0 hz HN h2 HC hd e1 hk hok q1 q2 hr e2
                  go_wp2_with fail
                  refine HC'.out.mono ?_
                  rintro e w1 ⟨rfl, rfl⟩
                  go_wp2_with fail
                  refine (HI.out _).mono ?_
                  rintro e w1 ⟨rfl, rfl⟩
                  go_wp2_with fail
                  go_round
                  case rel => exact ⟨_, true, rfl, rfl, HX⟩
                  case measure => simp [szOf]; omega
                · have q2 : rtHit t.data.toList = false := by unfold rtHit; rw [e0, hr, e1, e2]; simpa using hle
                  rw [q2, Bool.or_false] at HX
                  clear h1 h1b h0 HT e0 hz HN h2 HC hd e1 hk hok q1 q2 hr e2
                  go_wp2_with fail
                  refine HC'.out.mono ?_
                  rintro e w1 ⟨rfl, rfl⟩
                  go_wp2_with fail
                  refine (HI.out _).mono ?_
                  rintro e w1 ⟨rfl, rfl⟩
                  go_wp2_with fail
                  go_round
                  case rel => exact ⟨_, a, rfl, rfl, HX⟩
                  case measure => simp [szOf]; omega
end Go.Proofs.Ytkihhmnlefekoaa.P4
