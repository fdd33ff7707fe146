/-
  Proved here: what ip6.Chain answers.
  Conditions: a text of at most 70000 bytes.
-/
import Derived.Test.YtphemimpkbjfoaaExt1
namespace Go.Proofs.Ytphemimpkbjfoaa
open Go.RowKit

/-- An error of a code: none, or a new fault at place 0. -/
def ErrV (B : Nat) (c : Int) (v : Value) (w : World) : Prop :=
  (c = 0 ∧ v = .nilIface) ∨ (c ≠ 0 ∧ ∃ f, v = .iface 83 (.pointer (some ⟨f, 0, none⟩)) ∧ Flt w f c 0 ∧ B ≤ f)
theorem ErrV.below {B C : Nat} {c : Int} {v : Value} {w w' : World} (h : ErrV B c v w) (hb : Below C w w') (hC : w.heap.size ≤ C) : ErrV B c v w' := by
  rcases h with h | ⟨h1, f, h2, h3, h4⟩
  · exact .inl h
  · exact .inr ⟨h1, f, h2, h3.below hb (Nat.lt_of_lt_of_le h3.lt hC), h4⟩
/-- What the program's Chain leaves. -/
def CChn (R : Chn) (w : World) (e : Ending) (w' : World) : Prop :=
  ∃ v x, e = .returned (.tuple #[v, .int .i64 R.proto, .string R.rest, x]) ∧ w'.ownsRow w.heap.size 40 2 v R.exts.length (extV R.exts) ∧ ErrV w.heap.size R.code x w' ∧ Below w.heap.size w w'
theorem ext_ext (s : ByteArray) (p a : Nat) : (s.extract p s.size).extract a (s.extract p s.size).size = s.extract (p + a) s.size := by
  apply ba_ext
  rw [ext_end, ext_end, ext_end, List.drop_drop]
theorem ext_in (s : ByteArray) (p a b : Nat) : (s.extract p s.size).extract a b = s.extract (p + a) (p + b) := by
  apply ba_ext
  rw [ext_list, ext_end, ext_list, List.take_drop, List.drop_drop]
theorem ext_all (s : ByteArray) : s.extract 0 s.size = s := by
  apply ba_ext
  rw [ext_end]
  rfl
theorem own_le {w : World} {B B' : Nat} {T : TypeId} {v : Value} {n : Nat} {l : List Value} (h : w.ownsRow B T 2 v n l) (hb : B' ≤ B) : w.ownsRow B' T 2 v n l := by
  obtain ⟨h0, h1 | ⟨g, cap, cur, e, hg, h⟩⟩ := h
  · exact ⟨h0, .inl h1⟩
  · exact ⟨h0, .inr ⟨g, cap, cur, e, by omega, h⟩⟩
theorem inPl_no {m : Int} {l : List (Int × ByteArray)} : inPl m l.length = false ↔ m = 0 ∧ l ≠ [] := by
  unfold inPl
  cases l <;> simp
  omega
def lenOf : Value → Nat
  | .slice _ n _ => n
  | _ => 0
/-- The loop's state. -/
structure St (w wr : World) (s : ByteArray) (R : Chn) (l : List (Int × ByteArray)) (m : Int) (v : Value) (p : Nat) : Prop where
  len : l.length ≤ 8
  pl : p ≤ s.size
  own : wr.ownsRow (w.heap.size + 1) 40 2 v l.length (extV l)
  bel : Below w.heap.size w wr
  rd : Rd wr w.heap.size s p 0
  eq : R = chnE l m (s.extract p s.size)
theorem St.ne {w wr : World} {s : ByteArray} {R : Chn} {l : List (Int × ByteArray)} {m : Int} {v : Value} {p : Nat} (h : St w wr s R l m v p) : v.ownBlock = none ∨ v.ownBlock ≠ some w.heap.size := by
  cases hv : v.ownBlock with
  | none => exact .inl rfl
  | some k =>
    have := (h.own.lt k hv).1
    exact .inr (fun e => by injection e with e; omega)
theorem grown_self {B : Nat} {w w1 w2 : World} (h : Below B w w1) (g : w1.grownBy w2 (some B)) (hB : B ≤ w1.heap.size) : Below B w w2 := h.grown g hB (fun k hk => by injection hk with hk; omega)
set_option maxRecDepth 100000 in
set_option maxHeartbeats 1000000 in
theorem chain_any (n : Int) (s : ByteArray) (w : World) (hs : s.size ≤ 70000) :
    Calls Try.prog 11 #[.int .i64 n, .string s] w (CChn (chnE [] n s) w) := by
  obtain ⟨R, hR⟩ : ∃ R, R = chnE [] n s := ⟨_, rfl⟩
  rw [← hR]
  have HR := Lib.hid hR
  clear hR
  obtain ⟨i9, hi9, hz0, hz1, hz2⟩ := info_parts Try.infoExt
  have HI := Lib.hid hi9
  have H0 := Lib.hid hz0
  have H1 := Lib.hid hz1
  have H2 := Lib.hid hz2
  clear hi9 hz0 hz1 hz2
  go_enter Try.func11, Try.ntmps11
  go_wp2_with fail
  refine (new_any s w).mono ?_
  rintro e w1 ⟨rfl, rfl⟩
  have HS : Hid (St w (w.alloc (.cells #[.string s, .int .i64 0, .int .i64 0] 91)) s R [] n (.slice none 0 0) 0) := Lib.hid ⟨by simp, by omega, own_nil _ _ _, (Below.refl _ _).alloc (Nat.le_refl _) _, Rd.new w s, by rw [ext_all]; exact HR.out⟩
  generalize w.alloc (.cells #[.string s, .int .i64 0, .int .i64 0] 91) = w1 at *
  go_wp2_with fail
  go_loopw [0, 4] (fun nx v wr => ∃ (l : List (Int × ByteArray)) (m : Int) (p : Nat), nx = .int .i64 m ∧ St w wr s R l m v p) (fun _ v _ => 9 - lenOf v)
  case atStart => exact ⟨[], n, 0, rfl, HS.out⟩
  case round =>
    obtain ⟨l, m, p, rfl, hst⟩ := hrel
    have HT := Lib.hid hst
    have hp := hst.pl
    have hl8 := hst.len
    obtain ⟨ao, cap, rfl, _⟩ := exs_own hst.own
    clear hst HS
    by_cases hx : isEx m
    · have HX := Lib.hid (fun W => isExt_yes m hx W)
      by_cases hok : inPl m l.length = true ∧ l.length ≠ 8 ∧ ¬ ((s.extract p s.size).size < 8 ∨ (s.extract p s.size).size < exN (s.extract p s.size))
      · obtain ⟨hf, h8, hz⟩ := hok
        have HE := Lib.hid (ext_ok m l.length hf (by rw [beq_eq_false_iff_ne]; omega) (by omega) HT.out.rd hz)
        have hq := chnE_next hl8 hx (fun hh => by rw [inPl_no.2 hh] at hf; cases hf) h8 hz
        rw [← HT.out.eq, ext_in, ext_ext] at hq
        have HQ := Lib.hid hq
        have hz2 : p + exN (s.extract p s.size) ≤ s.size := by rw [ext_size] at hz; omega
        have hl7 : l.length ≤ 7 := by omega
        have HX1 : Hid (l.length + 1 ≤ maxLen) := Lib.hid (by unfold maxLen; omega)
        have HX2 : Hid ((l.length + 1) * 24 ≤ 140737488355328) := Lib.hid (by omega)
        clear hf h8 hz hq hx
        generalize exN (s.extract p s.size) = N at *
        generalize byN (s.extract p s.size) 0 = nx at *
        generalize s.extract (p + 2) (p + N) = t at *
        go_wp2_with fail
        refine (HX.out _).mono ?_
        rintro e w2 ⟨rfl, rfl⟩
        go_wp2_with fail
        refine (HE.out).mono ?_
        rintro e w2 ⟨rfl, r1, g1⟩
        have HB2 := Lib.hid (grown_self HT.out.bel g1 HT.out.bel.size)
        have HO2 := Lib.hid (HT.out.own.kept g1 HT.out.ne)
        have HN := Lib.hid HT.out.ne
        have HR2 := Lib.hid r1
        clear g1 HX HE HT r1
        have HX3 : Hid (w.heap.size + 1 ≤ ((w2.alloc (.cells #[.int .i64 m, .string t] 40)).alloc (.cells #[.int .i64 m, .string t] 40)).heap.size) := Lib.hid (by have := HB2.out.size; simp; omega)
        have HS2 := Lib.hid HB2.out.size
        go_wp2_with (at_builtin; refine wpList_append_own _ rfl _ _ 22 rfl (w.heap.size + 1) 40 i9 (.agg #[.int .i64 0, .string ⟨#[]⟩]) 2 24 Try.underlying22 HI.out H0.out H1.out H2.out rfl (by decide) _ l.length (extV l) rfl ((HO2.out.alloc _).alloc _) ⟨w2.heap.size + 1, 0, none⟩ 1 1 [.int .i64 m, .string t] rfl rfl (World.news_of_block (cs := #[.int .i64 m, .string t]) (t := 40) (fr := (0, 0)) (by have := heap_alloc_new (w2.alloc (.cells #[.int .i64 m, .string t] 40)) (.cells #[.int .i64 m, .string t] 40); simpa using this)) (by simp [Value.oneCell']) HX1.out HX2.out HX3.out ?_; intro v1 w3 hown1 hgrow hnil)
        have HO3 : Hid (w3.ownsRow (w.heap.size + 1) 40 2 v1 (l ++ [(m, t)]).length (extV (l ++ [(m, t)]))) := Lib.hid (by rw [extV_append, List.length_append]; exact hown1)
        have HB3 := Lib.hid (((HB2.out.alloc HS2.out (.cells #[.int .i64 m, .string t] 40)).alloc (by simp; have := HS2.out; omega) (.cells #[.int .i64 m, .string t] 40)).grown hgrow (by have := HX3.out; omega) (fun k hk => by have := (HO2.out.lt k hk).1; omega))
        have hne : some w.heap.size ≠ (Value.slice ao l.length cap).ownBlock := by
          intro e
          rcases HN.out with h | h
          · rw [h] at e; cases e
          · exact h e.symm
        have HR3 : Hid (Rd w3 w.heap.size s (p + N) 0) := Lib.hid (((HR2.out.alloc _).alloc _).grown hgrow hne)
        clear hne
        clear hown1 hgrow hnil
        go_wp2_with fail
        go_roundw
        case rel => exact ⟨l ++ [(m, t)], nx, p + N, rfl, by rw [List.length_append]; show l.length + 1 ≤ 8; omega, hz2, HO3.out, HB3.out, HR3.out, HQ.out⟩
        case measure =>
          obtain ⟨ao3, cap3, rfl, _⟩ := exs_own HO3.out
          simp [lenOf]
          omega
      · have hbad : ∃ c : Int, (c != 0) = true ∧ R = bad c ∧ Calls Try.prog 27 #[.pointer (some ⟨w.heap.size, 0, none⟩), .int .i64 m, .int .i64 l.length] wr (RExt w.heap.size 0 ⟨#[]⟩ 0 c wr) := by
          by_cases hf : inPl m l.length = false
          · exact ⟨8, rfl, by rw [HT.out.eq]; exact chnE_form _ hl8 hx (inPl_no.1 hf), ext_form w.heap.size m l.length wr hf⟩
          · have hf2 : inPl m l.length = true := by simpa using hf
            by_cases h8 : l.length = 8
            · refine ⟨3, rfl, by rw [HT.out.eq]; exact chnE_long _ hx (fun hh => hf (inPl_no.2 hh)) h8, ?_⟩
              rw [h8] at hf2 ⊢
              exact ext_long w.heap.size m wr hf2
            · have hz : (s.extract p s.size).size < 8 ∨ (s.extract p s.size).size < exN (s.extract p s.size) := by
                rcases Classical.em ((s.extract p s.size).size < 8 ∨ (s.extract p s.size).size < exN (s.extract p s.size)) with h | h
                · exact h
                · exact absurd ⟨hf2, h8, h⟩ hok
              exact ⟨7, rfl, by rw [HT.out.eq]; exact chnE_short hl8 hx (fun hh => hf (inPl_no.2 hh)) h8 hz, ext_short m l.length hp hf2 (by rw [beq_eq_false_iff_ne]; omega) (by omega) HT.out.rd hz⟩
        obtain ⟨c, hc, hq, he⟩ := hbad
        have HE := Lib.hid he
        have HQ := Lib.hid hq
        clear hx hok he hq
        go_wp2_with fail
        refine (HX.out _).mono ?_
        rintro e w2 ⟨rfl, rfl⟩
        go_wp2_with fail
        refine (HE.out).mono ?_
        rintro e w2 ⟨rfl, g1⟩
        have HB2 := Lib.hid (grown_self HT.out.bel g1 HT.out.bel.size)
        clear g1 HX HE HT
        go_wp2_with fail
        refine (fault_any _ _).mono ?_
        rintro e w3 ⟨rfl, rfl⟩
        go_wp2_with fail
        refine bodyPost_ret (v := .tuple #[.slice none 0 0, .int .i64 0, .string ⟨#[]⟩, .iface 83 (.pointer (some ⟨w2.heap.size + 1, 0, none⟩))]) (by simp [results, Try.results11, go_sem]) rfl ?_
        have hQ := HQ.out
        subst hQ
        have hsz := HB2.out.size
        exact ⟨_, _, rfl, own_nil _ _ _, .inr ⟨bne_iff_ne.1 hc, _, rfl, Flt.newAt _ _ _ _ (by simp), by omega⟩, (HB2.out.alloc hsz _).alloc (by simp; omega) _⟩
    · have HX := Lib.hid (fun W => isExt_no m hx W)
      have HQ : Hid (R = ⟨l, m, s.extract p s.size, 0⟩) := Lib.hid (by rw [HT.out.eq]; exact chnE_end _ hl8 hx)
      have HY := Lib.hid (rest_ok HT.out.rd hp)
      clear hx
      go_wp2_with fail
      refine (HX.out _).mono ?_
      rintro e w2 ⟨rfl, rfl⟩
      go_wp2_with fail
      refine (HY.out).mono ?_
      rintro e w2 ⟨rfl, r1, g1⟩
      have HB2 := Lib.hid (grown_self HT.out.bel g1 HT.out.bel.size)
      have HO2 := Lib.hid (HT.out.own.kept g1 HT.out.ne)
      clear g1 HX HT r1 HY
      go_wp2_with fail
      refine bodyPost_ret (v := .tuple #[.slice ao l.length cap, .int .i64 m, .string (s.extract p s.size), .nilIface]) (by simp [results, Try.results11, go_sem]) rfl ?_
      have hQ := HQ.out
      subst hQ
      exact ⟨_, _, rfl, own_le HO2.out (by omega), .inl ⟨rfl, rfl⟩, HB2.out⟩
end Go.Proofs.Ytphemimpkbjfoaa
