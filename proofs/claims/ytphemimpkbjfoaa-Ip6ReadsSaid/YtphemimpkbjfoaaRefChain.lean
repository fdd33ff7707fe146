/-
  Proved here: what the document's Chain answers.
  Conditions: a text of at most 70000 bytes.
-/
import Derived.Test.YtphemimpkbjfoaaExts
import Derived.IntWalk
import Derived.Deep.AppendLies
namespace Go.Proofs.Ytphemimpkbjfoaa
open Go.RowKit

/-- A chain's end: its extensions, the protocol, what is left, and a code. -/
structure Chn where
  exts : List (Int × ByteArray)
  proto : Int
  rest : ByteArray
  code : Int
def bad (c : Int) : Chn := ⟨[], 0, ⟨#[]⟩, c⟩
/-- Byte i of a text. -/
def byN (s : ByteArray) (i : Nat) : Nat := (s.data.toList.getD i 0).toNat
theorem byN_lt (s : ByteArray) (i : Nat) : byN s i < 256 := UInt8.toNat_lt _
theorem byN_at (s : ByteArray) (i : Nat) (h : i < s.size) : byN s i = s[i].toNat := by
  unfold byN
  rw [byte_get s i h]
/-- How many bytes the extension has with which a text begins. -/
def exN (t : ByteArray) : Nat := 8 * (1 + byN t 1)
/-- Is a next an extension's? -/
def isEx (n : Int) : Prop := n = 0 ∨ n = 43 ∨ n = 60
instance (n : Int) : Decidable (isEx n) := by unfold isEx; exact inferInstance
/-- A chain, gone through from where it stands; f: how many steps there are at most. -/
def chn : Nat → List (Int × ByteArray) → Int → ByteArray → Chn
  | 0, _, _, _ => bad 3
  | f + 1, l, n, t =>
    if isEx n then
      if n = 0 ∧ l ≠ [] then bad 8
      else if l.length = 8 then bad 3
      else if t.size < 8 ∨ t.size < exN t then bad 7
      else chn f (l ++ [(n, t.extract 2 (exN t))]) (byN t 0) (t.extract (exN t) t.size)
    else ⟨l, n, t, 0⟩
def chnE (l : List (Int × ByteArray)) (n : Int) (t : ByteArray) : Chn := chn (9 - l.length) l n t
theorem chnE_end {l : List (Int × ByteArray)} {n : Int} (t : ByteArray) (hl : l.length ≤ 8) (h : ¬ isEx n) : chnE l n t = ⟨l, n, t, 0⟩ := by
  unfold chnE
  obtain ⟨f, hf⟩ : ∃ f, 9 - l.length = f + 1 := ⟨8 - l.length, by omega⟩
  rw [hf]
  unfold chn
  rw [if_neg h]
theorem chnE_form {l : List (Int × ByteArray)} {n : Int} (t : ByteArray) (hl : l.length ≤ 8) (h : isEx n) (h1 : n = 0 ∧ l ≠ []) : chnE l n t = bad 8 := by
  unfold chnE
  obtain ⟨f, hf⟩ : ∃ f, 9 - l.length = f + 1 := ⟨8 - l.length, by omega⟩
  rw [hf]
  unfold chn
  rw [if_pos h, if_pos h1]
theorem chnE_long {l : List (Int × ByteArray)} {n : Int} (t : ByteArray) (h : isEx n) (h1 : ¬ (n = 0 ∧ l ≠ [])) (h2 : l.length = 8) : chnE l n t = bad 3 := by
  unfold chnE
  rw [h2, show 9 - 8 = 0 + 1 from rfl]
  unfold chn
  rw [if_pos h, if_neg h1, if_pos h2]
theorem chnE_short {l : List (Int × ByteArray)} {n : Int} {t : ByteArray} (hl : l.length ≤ 8) (h : isEx n) (h1 : ¬ (n = 0 ∧ l ≠ [])) (h2 : l.length ≠ 8) (h3 : t.size < 8 ∨ t.size < exN t) : chnE l n t = bad 7 := by
  unfold chnE
  obtain ⟨f, hf⟩ : ∃ f, 9 - l.length = f + 1 := ⟨8 - l.length, by omega⟩
  rw [hf]
  unfold chn
  rw [if_pos h, if_neg h1, if_neg h2, if_pos h3]
theorem chnE_next {l : List (Int × ByteArray)} {n : Int} {t : ByteArray} (hl : l.length ≤ 8) (h : isEx n) (h1 : ¬ (n = 0 ∧ l ≠ [])) (h2 : l.length ≠ 8) (h3 : ¬ (t.size < 8 ∨ t.size < exN t)) :
    chnE l n t = chnE (l ++ [(n, t.extract 2 (exN t))]) (byN t 0) (t.extract (exN t) t.size) := by
  unfold chnE
  obtain ⟨f, hf⟩ : ∃ f, 9 - l.length = f + 1 := ⟨8 - l.length, by omega⟩
  rw [hf, List.length_append, List.length_singleton, show 9 - (l.length + 1) = f by omega]
  conv => lhs; unfold chn
  rw [if_pos h, if_neg h1, if_neg h2, if_neg h3]
/-- What the document's Chain leaves. -/
def RChn (R : Chn) (w : World) (e : Ending) (w' : World) : Prop :=
  ∃ v, e = .returned (.tuple #[v, .int .i64 R.proto, .string R.rest, .int .i64 R.code]) ∧ w'.ownsRow w.heap.size 40 2 v R.exts.length (extV R.exts) ∧ Below w.heap.size w w'
theorem own_nil (w : World) (base : Nat) (T : TypeId) : w.ownsRow base T 2 (.slice none 0 0) 0 [] := ⟨rfl, .inl ⟨rfl, rfl⟩⟩
theorem Try.infoExt : (Try.prog.info? 40).map (fun i => (i.zero, i.size, i.bytes)) = some (some (.agg #[.int .i64 0, .string ⟨#[]⟩]), 2, 24) := by kernel_rfl
/-- A value's text's size. -/
def szOf : Value → Nat
  | .string s => s.size
  | _ => 0
theorem isEx_of (n : Int) : isEx n ↔ (n == 0 || (n == 43 || n == 60)) = true := by
  unfold isEx
  simp
set_option maxRecDepth 100000 in
set_option maxHeartbeats 1000000 in
theorem rchain_any (n : Int) (s : ByteArray) (w : World) (hs : s.size ≤ 70000) :
    Calls Try.prog 24 #[.int .i64 n, .string s] w (RChn (chnE [] n s) w) := by
  obtain ⟨R, hR⟩ : ∃ R, R = chnE [] n s := ⟨_, rfl⟩
  rw [← hR]
  have HR := Lib.hid hR
  clear hR
  obtain ⟨i9, hi9, hz0, hz1, hz2⟩ := info_parts Try.infoExt
  have HI := Lib.hid hi9
  have H0 := Lib.hid hz0
  have H1 := Lib.hid hz1
  have H2 := Lib.hid hz2
  clear hi9 hz0 hz1 hz2
  go_enter Try.func24, Try.ntmps24
  go_wp2_with fail
  go_loopw [0, 1, 8] (fun nx t v wr => ∃ (l : List (Int × ByteArray)) (m : Int) (q : ByteArray), nx = .int .i64 m ∧ t = .string q ∧ l.length ≤ 8 ∧ q.size ≤ 70000 ∧ wr.ownsRow w.heap.size 40 2 v l.length (extV l) ∧ Below w.heap.size w wr ∧ Hid (R = chnE l m q)) (fun _ t _ _ => szOf t)
  case atStart => exact ⟨[], n, s, rfl, rfl, by show 0 ≤ 8; omega, hs, own_nil _ _ _, Below.refl _ _, HR⟩
  case round =>
    obtain ⟨l, m, q, rfl, rfl, hl8, hq, hown, hbl, HE⟩ := hrel
    have HO := Lib.hid hown
    have HB := Lib.hid hbl
    clear hown hbl
    obtain ⟨ao, cap, rfl, _⟩ := exs_own HO.out
    by_cases hx : isEx m
    · rcases hx with rfl | rfl | rfl
      · by_cases hl0 : l.length = 0
        · have k0 : decide ((0 : Int) < (l.length : Int)) = false := decide_eq_false (by omega)
          have k0b : decide (0 < l.length) = false := decide_eq_false (by omega)
          have k0c : ¬ 0 < l.length := by omega
          have h2 : l.length ≠ 8 := by omega
          have HL0 := Lib.hid hl0
          clear hl0
          have k8 : ((l.length : Int) == 8) = false := by rw [beq_eq_false_iff_ne]; omega
          by_cases h3 : q.size < 8
          · have HE2 : Hid (R = bad 7) := Lib.hid (by rw [HE.out]; exact chnE_short hl8 (.inl rfl) (fun h => h.2 (List.eq_nil_of_length_eq_zero HL0.out)) h2 (.inl h3))
            clear h2
            go_wp2_with fail
            refine bodyPost_ret (v := .tuple #[.slice none 0 0, .int .i64 0, .string ⟨#[]⟩, .int .i64 7]) (by simp [results, Try.results24, go_sem]) rfl ?_
            have hE := HE2.out
            subst hE
            exact ⟨_, rfl, own_nil _ _ _, HB.out⟩
          · have hq1 : 1 < q.size := by omega
            have hq0 : 0 < q.size := by omega
            have hNe : exN q = 8 * (1 + q[1].toNat) := by unfold exN; rw [byN_at q 1 hq1]
            have i1 : (1 : Int) < (q.size : Int) := by omega
            have i0 : (0 : Int) < (q.size : Int) := by omega
            have u1 := q[1].toNat_lt
            have u0 := q[0].toNat_lt
            by_cases h4 : q.size < exN q
            · have HE2 : Hid (R = bad 7) := Lib.hid (by rw [HE.out]; exact chnE_short hl8 (.inl rfl) (fun h => h.2 (List.eq_nil_of_length_eq_zero HL0.out)) h2 (.inr h4))
              rw [hNe] at h4
              have k4 : decide ((q.size : Int) < 8 * (1 + (q[1].toNat : Int))) = true := decide_eq_true (by omega)
              have k5 : (q.size : Int) < 8 * (1 + (q[1].toNat : Int)) := by omega
              clear h2 hNe
              go_wp2_with fail
              refine bodyPost_ret (v := .tuple #[.slice none 0 0, .int .i64 0, .string ⟨#[]⟩, .int .i64 7]) (by simp [results, Try.results24, go_sem]) rfl ?_
              have hE := HE2.out
              subst hE
              exact ⟨_, rfl, own_nil _ _ _, HB.out⟩
            · have HE2 : Hid (R = chnE (l ++ [((0 : Int), q.extract 2 (exN q))]) (byN q 0) (q.extract (exN q) q.size)) := Lib.hid (by rw [HE.out]; exact chnE_next hl8 (.inl rfl) (fun h => h.2 (List.eq_nil_of_length_eq_zero HL0.out)) h2 (by omega))
              rw [hNe] at HE2 h4
              have k4 : decide ((q.size : Int) < 8 * (1 + (q[1].toNat : Int))) = false := decide_eq_false (by omega)
              have k5 : ¬ (q.size : Int) < 8 * (1 + (q[1].toNat : Int)) := by omega
              clear hNe
              have HB0 := Lib.hid (byN_at q 0 hq0)
              have hX1 : l.length + 1 ≤ maxLen := by unfold maxLen; omega
              have HX1 := Lib.hid hX1
              have HX2 : Hid ((l.length + 1) * 24 ≤ 140737488355328) := Lib.hid (by omega)
              have HX3 : Hid (w.heap.size ≤ (wr.alloc (.cells #[.int .i64 0, .string (q.extract 2 (8 * (1 + q[1].toNat)))] 40)).heap.size) := Lib.hid (by have := HB.out.size; simp; omega)
              have HL7 := Lib.hid (show l.length + 1 ≤ 8 by omega)
              have j1 : (2 : Int) ≤ (8 : Int) * (1 + (q[1].toNat : Int)) := by omega
              have j2 : (8 : Int) * (1 + (q[1].toNat : Int)) ≤ (q.size : Int) := by omega
              have j3 : (0 : Int) ≤ (8 : Int) * (1 + (q[1].toNat : Int)) := by omega
              clear h2 hX1
              go_wp2_with (at_builtin; refine wpList_append_own _ rfl _ _ 22 rfl w.heap.size 40 i9 (.agg #[.int .i64 0, .string ⟨#[]⟩]) 2 24 Try.underlying22 HI.out H0.out H1.out H2.out rfl (by decide) _ l.length (extV l) rfl (HO.out.alloc _) ⟨wr.heap.size, 0, none⟩ 1 1 [.int .i64 0, .string (q.extract 2 (8 * (1 + q[1].toNat)))] rfl rfl (World.news_of_block (cs := #[.int .i64 0, .string (q.extract 2 (8 * (1 + q[1].toNat)))]) (t := 40) (fr := (0, 0)) (heap_alloc_new wr _)) (by simp [Value.oneCell']) HX1.out HX2.out HX3.out ?_; intro v1 w3 hown1 hgrow hnil)
              have HO3 : Hid (w3.ownsRow w.heap.size 40 2 v1 (l ++ [((0 : Int), q.extract 2 (8 * (1 + q[1].toNat)))]).length (extV (l ++ [((0 : Int), q.extract 2 (8 * (1 + q[1].toNat)))]))) := Lib.hid (by rw [extV_append, List.length_append]; exact hown1)
              have HB3 := Lib.hid ((HB.out.alloc HB.out.size (.cells #[.int .i64 0, .string (q.extract 2 (8 * (1 + q[1].toNat)))] 40)).grown hgrow HX3.out (fun k hk => (HO.out.lt k hk).1))
              clear hown1 hgrow hnil
              go_wp2_with fail
              go_roundw
              case rel => exact ⟨l ++ [((0 : Int), q.extract 2 (8 * (1 + q[1].toNat)))], (byN q 0 : Nat), q.extract (8 * (1 + q[1].toNat)) q.size, by rw [HB0.out], rfl, by rw [List.length_append]; exact HL7.out, by simp; omega, HO3.out, HB3.out, HE2⟩
              case measure => simp [szOf]; omega
        · have k0 : decide ((0 : Int) < (l.length : Int)) = true := decide_eq_true (by omega)
          have k0b : decide (0 < l.length) = true := decide_eq_true (by omega)
          have k0c : 0 < l.length := by omega
          have HE2 : Hid (R = bad 8) := Lib.hid (by rw [HE.out]; exact chnE_form q hl8 (.inl rfl) ⟨rfl, fun h => hl0 (by rw [h]; rfl)⟩)
          clear hl0
          go_wp2_with fail
          refine bodyPost_ret (v := .tuple #[.slice none 0 0, .int .i64 0, .string ⟨#[]⟩, .int .i64 8]) (by simp [results, Try.results24, go_sem]) rfl ?_
          have hE := HE2.out
          subst hE
          exact ⟨_, rfl, own_nil _ _ _, HB.out⟩
      · by_cases h2 : l.length = 8
        · have HE2 : Hid (R = bad 3) := Lib.hid (by rw [HE.out]; exact chnE_long q (.inr (.inl rfl)) (fun h => absurd h.1 (by decide)) h2)
          have k8 : ((l.length : Int) == 8) = true := by rw [h2]; rfl
          clear h2
          go_wp2_with fail
          refine bodyPost_ret (v := .tuple #[.slice none 0 0, .int .i64 0, .string ⟨#[]⟩, .int .i64 3]) (by simp [results, Try.results24, go_sem]) rfl ?_
          have hE := HE2.out
          subst hE
          exact ⟨_, rfl, own_nil _ _ _, HB.out⟩
        · have k8 : ((l.length : Int) == 8) = false := by rw [beq_eq_false_iff_ne]; omega
          by_cases h3 : q.size < 8
          · have HE2 : Hid (R = bad 7) := Lib.hid (by rw [HE.out]; exact chnE_short hl8 (.inr (.inl rfl)) (fun h => absurd h.1 (by decide)) h2 (.inl h3))
            clear h2
            go_wp2_with fail
            refine bodyPost_ret (v := .tuple #[.slice none 0 0, .int .i64 0, .string ⟨#[]⟩, .int .i64 7]) (by simp [results, Try.results24, go_sem]) rfl ?_
            have hE := HE2.out
            subst hE
            exact ⟨_, rfl, own_nil _ _ _, HB.out⟩
          · have hq1 : 1 < q.size := by omega
            have hq0 : 0 < q.size := by omega
            have hNe : exN q = 8 * (1 + q[1].toNat) := by unfold exN; rw [byN_at q 1 hq1]
            have i1 : (1 : Int) < (q.size : Int) := by omega
            have i0 : (0 : Int) < (q.size : Int) := by omega
            have u1 := q[1].toNat_lt
            have u0 := q[0].toNat_lt
            by_cases h4 : q.size < exN q
            · have HE2 : Hid (R = bad 7) := Lib.hid (by rw [HE.out]; exact chnE_short hl8 (.inr (.inl rfl)) (fun h => absurd h.1 (by decide)) h2 (.inr h4))
              rw [hNe] at h4
              have k4 : decide ((q.size : Int) < 8 * (1 + (q[1].toNat : Int))) = true := decide_eq_true (by omega)
              have k5 : (q.size : Int) < 8 * (1 + (q[1].toNat : Int)) := by omega
              clear h2 hNe
              go_wp2_with fail
              refine bodyPost_ret (v := .tuple #[.slice none 0 0, .int .i64 0, .string ⟨#[]⟩, .int .i64 7]) (by simp [results, Try.results24, go_sem]) rfl ?_
              have hE := HE2.out
              subst hE
              exact ⟨_, rfl, own_nil _ _ _, HB.out⟩
            · have HE2 : Hid (R = chnE (l ++ [((43 : Int), q.extract 2 (exN q))]) (byN q 0) (q.extract (exN q) q.size)) := Lib.hid (by rw [HE.out]; exact chnE_next hl8 (.inr (.inl rfl)) (fun h => absurd h.1 (by decide)) h2 (by omega))
              rw [hNe] at HE2 h4
              have k4 : decide ((q.size : Int) < 8 * (1 + (q[1].toNat : Int))) = false := decide_eq_false (by omega)
              have k5 : ¬ (q.size : Int) < 8 * (1 + (q[1].toNat : Int)) := by omega
              clear hNe
              have HB0 := Lib.hid (byN_at q 0 hq0)
              have hX1 : l.length + 1 ≤ maxLen := by unfold maxLen; omega
              have HX1 := Lib.hid hX1
              have HX2 : Hid ((l.length + 1) * 24 ≤ 140737488355328) := Lib.hid (by omega)
              have HX3 : Hid (w.heap.size ≤ (wr.alloc (.cells #[.int .i64 43, .string (q.extract 2 (8 * (1 + q[1].toNat)))] 40)).heap.size) := Lib.hid (by have := HB.out.size; simp; omega)
              have HL7 := Lib.hid (show l.length + 1 ≤ 8 by omega)
              have j1 : (2 : Int) ≤ (8 : Int) * (1 + (q[1].toNat : Int)) := by omega
              have j2 : (8 : Int) * (1 + (q[1].toNat : Int)) ≤ (q.size : Int) := by omega
              have j3 : (0 : Int) ≤ (8 : Int) * (1 + (q[1].toNat : Int)) := by omega
              clear h2 hX1
              go_wp2_with (at_builtin; refine wpList_append_own _ rfl _ _ 22 rfl w.heap.size 40 i9 (.agg #[.int .i64 0, .string ⟨#[]⟩]) 2 24 Try.underlying22 HI.out H0.out H1.out H2.out rfl (by decide) _ l.length (extV l) rfl (HO.out.alloc _) ⟨wr.heap.size, 0, none⟩ 1 1 [.int .i64 43, .string (q.extract 2 (8 * (1 + q[1].toNat)))] rfl rfl (World.news_of_block (cs := #[.int .i64 43, .string (q.extract 2 (8 * (1 + q[1].toNat)))]) (t := 40) (fr := (0, 0)) (heap_alloc_new wr _)) (by simp [Value.oneCell']) HX1.out HX2.out HX3.out ?_; intro v1 w3 hown1 hgrow hnil)
              have HO3 : Hid (w3.ownsRow w.heap.size 40 2 v1 (l ++ [((43 : Int), q.extract 2 (8 * (1 + q[1].toNat)))]).length (extV (l ++ [((43 : Int), q.extract 2 (8 * (1 + q[1].toNat)))]))) := Lib.hid (by rw [extV_append, List.length_append]; exact hown1)
              have HB3 := Lib.hid ((HB.out.alloc HB.out.size (.cells #[.int .i64 43, .string (q.extract 2 (8 * (1 + q[1].toNat)))] 40)).grown hgrow HX3.out (fun k hk => (HO.out.lt k hk).1))
              clear hown1 hgrow hnil
              go_wp2_with fail
              go_roundw
              case rel => exact ⟨l ++ [((43 : Int), q.extract 2 (8 * (1 + q[1].toNat)))], (byN q 0 : Nat), q.extract (8 * (1 + q[1].toNat)) q.size, by rw [HB0.out], rfl, by rw [List.length_append]; exact HL7.out, by simp; omega, HO3.out, HB3.out, HE2⟩
              case measure => simp [szOf]; omega
      · by_cases h2 : l.length = 8
        · have HE2 : Hid (R = bad 3) := Lib.hid (by rw [HE.out]; exact chnE_long q (.inr (.inr rfl)) (fun h => absurd h.1 (by decide)) h2)
          have k8 : ((l.length : Int) == 8) = true := by rw [h2]; rfl
          clear h2
          go_wp2_with fail
          refine bodyPost_ret (v := .tuple #[.slice none 0 0, .int .i64 0, .string ⟨#[]⟩, .int .i64 3]) (by simp [results, Try.results24, go_sem]) rfl ?_
          have hE := HE2.out
          subst hE
          exact ⟨_, rfl, own_nil _ _ _, HB.out⟩
        · have k8 : ((l.length : Int) == 8) = false := by rw [beq_eq_false_iff_ne]; omega
          by_cases h3 : q.size < 8
          · have HE2 : Hid (R = bad 7) := Lib.hid (by rw [HE.out]; exact chnE_short hl8 (.inr (.inr rfl)) (fun h => absurd h.1 (by decide)) h2 (.inl h3))
            clear h2
            go_wp2_with fail
            refine bodyPost_ret (v := .tuple #[.slice none 0 0, .int .i64 0, .string ⟨#[]⟩, .int .i64 7]) (by simp [results, Try.results24, go_sem]) rfl ?_
            have hE := HE2.out
            subst hE
            exact ⟨_, rfl, own_nil _ _ _, HB.out⟩
          · have hq1 : 1 < q.size := by omega
            have hq0 : 0 < q.size := by omega
            have hNe : exN q = 8 * (1 + q[1].toNat) := by unfold exN; rw [byN_at q 1 hq1]
            have i1 : (1 : Int) < (q.size : Int) := by omega
            have i0 : (0 : Int) < (q.size : Int) := by omega
            have u1 := q[1].toNat_lt
            have u0 := q[0].toNat_lt
            by_cases h4 : q.size < exN q
            · have HE2 : Hid (R = bad 7) := Lib.hid (by rw [HE.out]; exact chnE_short hl8 (.inr (.inr rfl)) (fun h => absurd h.1 (by decide)) h2 (.inr h4))
              rw [hNe] at h4
              have k4 : decide ((q.size : Int) < 8 * (1 + (q[1].toNat : Int))) = true := decide_eq_true (by omega)
              have k5 : (q.size : Int) < 8 * (1 + (q[1].toNat : Int)) := by omega
              clear h2 hNe
              go_wp2_with fail
              refine bodyPost_ret (v := .tuple #[.slice none 0 0, .int .i64 0, .string ⟨#[]⟩, .int .i64 7]) (by simp [results, Try.results24, go_sem]) rfl ?_
              have hE := HE2.out
              subst hE
              exact ⟨_, rfl, own_nil _ _ _, HB.out⟩
            · have HE2 : Hid (R = chnE (l ++ [((60 : Int), q.extract 2 (exN q))]) (byN q 0) (q.extract (exN q) q.size)) := Lib.hid (by rw [HE.out]; exact chnE_next hl8 (.inr (.inr rfl)) (fun h => absurd h.1 (by decide)) h2 (by omega))
              rw [hNe] at HE2 h4
              have k4 : decide ((q.size : Int) < 8 * (1 + (q[1].toNat : Int))) = false := decide_eq_false (by omega)
              have k5 : ¬ (q.size : Int) < 8 * (1 + (q[1].toNat : Int)) := by omega
              clear hNe
              have HB0 := Lib.hid (byN_at q 0 hq0)
              have hX1 : l.length + 1 ≤ maxLen := by unfold maxLen; omega
              have HX1 := Lib.hid hX1
              have HX2 : Hid ((l.length + 1) * 24 ≤ 140737488355328) := Lib.hid (by omega)
              have HX3 : Hid (w.heap.size ≤ (wr.alloc (.cells #[.int .i64 60, .string (q.extract 2 (8 * (1 + q[1].toNat)))] 40)).heap.size) := Lib.hid (by have := HB.out.size; simp; omega)
              have HL7 := Lib.hid (show l.length + 1 ≤ 8 by omega)
              have j1 : (2 : Int) ≤ (8 : Int) * (1 + (q[1].toNat : Int)) := by omega
              have j2 : (8 : Int) * (1 + (q[1].toNat : Int)) ≤ (q.size : Int) := by omega
              have j3 : (0 : Int) ≤ (8 : Int) * (1 + (q[1].toNat : Int)) := by omega
              clear h2 hX1
              go_wp2_with (at_builtin; refine wpList_append_own _ rfl _ _ 22 rfl w.heap.size 40 i9 (.agg #[.int .i64 0, .string ⟨#[]⟩]) 2 24 Try.underlying22 HI.out H0.out H1.out H2.out rfl (by decide) _ l.length (extV l) rfl (HO.out.alloc _) ⟨wr.heap.size, 0, none⟩ 1 1 [.int .i64 60, .string (q.extract 2 (8 * (1 + q[1].toNat)))] rfl rfl (World.news_of_block (cs := #[.int .i64 60, .string (q.extract 2 (8 * (1 + q[1].toNat)))]) (t := 40) (fr := (0, 0)) (heap_alloc_new wr _)) (by simp [Value.oneCell']) HX1.out HX2.out HX3.out ?_; intro v1 w3 hown1 hgrow hnil)
              have HO3 : Hid (w3.ownsRow w.heap.size 40 2 v1 (l ++ [((60 : Int), q.extract 2 (8 * (1 + q[1].toNat)))]).length (extV (l ++ [((60 : Int), q.extract 2 (8 * (1 + q[1].toNat)))]))) := Lib.hid (by rw [extV_append, List.length_append]; exact hown1)
              have HB3 := Lib.hid ((HB.out.alloc HB.out.size (.cells #[.int .i64 60, .string (q.extract 2 (8 * (1 + q[1].toNat)))] 40)).grown hgrow HX3.out (fun k hk => (HO.out.lt k hk).1))
              clear hown1 hgrow hnil
              go_wp2_with fail
              go_roundw
              case rel => exact ⟨l ++ [((60 : Int), q.extract 2 (8 * (1 + q[1].toNat)))], (byN q 0 : Nat), q.extract (8 * (1 + q[1].toNat)) q.size, by rw [HB0.out], rfl, by rw [List.length_append]; exact HL7.out, by simp; omega, HO3.out, HB3.out, HE2⟩
              case measure => simp [szOf]; omega
    · have HE2 : Hid (R = ⟨l, m, q, 0⟩) := Lib.hid (by rw [HE.out]; exact chnE_end q hl8 hx)
      have k1 : (m == 0) = false := by rw [beq_eq_false_iff_ne]; exact fun h => hx (.inl h)
      have k2 : (m == 43) = false := by rw [beq_eq_false_iff_ne]; exact fun h => hx (.inr (.inl h))
      have k3 : (m == 60) = false := by rw [beq_eq_false_iff_ne]; exact fun h => hx (.inr (.inr h))
      clear hx
      go_wp2_with fail
      refine bodyPost_ret (v := .tuple #[.slice ao l.length cap, .int .i64 m, .string q, .int .i64 0]) (by simp [results, Try.results24, go_sem]) rfl ?_
      have hE := HE2.out
      subst hE
      exact ⟨_, rfl, HO.out, HB.out⟩
end Go.Proofs.Ytphemimpkbjfoaa
