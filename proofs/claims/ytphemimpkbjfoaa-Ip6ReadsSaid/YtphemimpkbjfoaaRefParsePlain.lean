/-
  Proved here: plain facts on what the document's Parse makes of a text; what it answers, as a predicate.
  Conditions: as each fact says.
-/
import Derived.Test.YtphemimpkbjfoaaParsed
import Derived.Test.YtphemimpkbjfoaaRefNumber
import Derived.Test.YtphemimpkbjfoaaRefChain
namespace Go.Proofs.Ytphemimpkbjfoaa
open Go.RowKit

/-- What the document's Parse leaves. -/
def RPar (p : Pk6) (c : Int) (w : World) (e : Ending) (w' : World) : Prop :=
  ∃ v, e = .returned (.tuple #[.agg (p.vals v).toArray, .int .i64 c]) ∧ w'.ownsRow w.heap.size 40 2 v p.exts.length (extV p.exts) ∧ Below w.heap.size w w'
/-- The first k bytes of a text, and noughts behind. -/
def mix (k : Nat) (l : List UInt8) : List UInt8 := (List.range 16).map fun i => if i < k then l.getD i 0 else 0
theorem mix_len (k : Nat) (l : List UInt8) : (mix k l).length = 16 := by simp [mix]
theorem mix_at (k : Nat) (l : List UInt8) (i : Nat) (h : i < 16) : (mix k l)[i]? = some (if i < k then l.getD i 0 else 0) := by
  unfold mix
  rw [List.getElem?_map, List.getElem?_range h]
  rfl
theorem mix_step (k : Nat) (l : List UInt8) (h : k < 16) : (mix k l).set k (l.getD k 0) = mix (k + 1) l := by
  apply List.ext_getElem?
  intro i
  rw [List.getElem?_set]
  rcases Nat.lt_or_ge i 16 with hi | hi
  · rw [mix_at (k + 1) l i hi, mix_at k l i hi, mix_len]
    by_cases hk : k = i
    · subst hk
      rw [if_pos rfl, if_pos h, if_pos (Nat.lt_succ_self _)]
    · rw [if_neg hk]
      by_cases h2 : i < k
      · rw [if_pos h2, if_pos (by omega)]
      · rw [if_neg h2, if_neg (by omega)]
  · rw [if_neg (by omega), List.getElem?_eq_none (by rw [mix_len]; exact hi), List.getElem?_eq_none (by rw [mix_len]; exact hi)]
theorem mix_zero (l : List UInt8) : mix 0 l = List.replicate 16 0 := rfl
theorem mix_all (l : List UInt8) (h : l.length = 16) : mix 16 l = l := by
  apply List.ext_getElem?
  intro i
  rcases Nat.lt_or_ge i 16 with hi | hi
  · rw [mix_at 16 l i hi, if_pos hi, List.getD_eq_getElem?_getD, List.getElem?_eq_getElem (by omega)]
    rfl
  · rw [List.getElem?_eq_none (by rw [mix_len]; exact hi), List.getElem?_eq_none (by omega)]
/-- The packet behind k rounds of the addresses' loop. -/
def pkL (s : ByteArray) (k : Nat) : Pk6 where
  cls := (hdW s : Int) / 1048576 % 256
  flow := (hdW s : Int) % 1048576
  hop := (byN s 7 : Nat)
  fr := mix k (adr s 8)
  dst := mix k (adr s 24)
  exts := []
  frag := false
  id := 0
  pl := 0
  more := false
  proto := 0
  data := ⟨#[]⟩
  hfr := mix_len _ _
  hdst := mix_len _ _
theorem bytV_set (l : List UInt8) (k : Nat) (c : UInt8) : (bytV l).set k (.int .u8 (c.toNat : Int)) = bytV (l.set k c) := by
  unfold bytV
  rw [List.map_set]
theorem vals_parts (p : Pk6) (v : Value) : p.vals v = [.int .i64 p.cls, .int .i64 p.flow, .int .i64 p.hop] ++ (bytV p.fr ++ (bytV p.dst ++ p.tail v)) := rfl
theorem vals_set_fr (p : Pk6) (v : Value) (k : Nat) (hk : k < 16) (c : UInt8) (q : Pk6) (h1 : q.fr = p.fr.set k c) (h2 : q.cls = p.cls ∧ q.flow = p.flow ∧ q.hop = p.hop) (h3 : q.dst = p.dst) (h4 : q.tail v = p.tail v) :
    (p.vals v).set (3 + k) (.int .u8 (c.toNat : Int)) = q.vals v := by
  rw [vals_parts, vals_parts, List.set_append_right _ _ (by show 3 ≤ _; omega)]
  rw [show 3 + k - [Value.int IntKind.i64 p.cls, Value.int IntKind.i64 p.flow, Value.int IntKind.i64 p.hop].length = k by show 3 + k - 3 = k; omega]
  rw [List.set_append_left _ _ (by rw [bytV_len, p.hfr]; exact hk), bytV_set, h1, h2.1, h2.2.1, h2.2.2, h3, h4]
theorem vals_set_dst (p : Pk6) (v : Value) (k : Nat) (hk : k < 16) (c : UInt8) (q : Pk6) (h1 : q.dst = p.dst.set k c) (h2 : q.cls = p.cls ∧ q.flow = p.flow ∧ q.hop = p.hop) (h3 : q.fr = p.fr) (h4 : q.tail v = p.tail v) :
    (p.vals v).set (19 + k) (.int .u8 (c.toNat : Int)) = q.vals v := by
  have hf := (bytV_len p.fr).trans p.hfr
  rw [vals_parts, vals_parts, List.set_append_right _ _ (by show 3 ≤ _; omega)]
  rw [show 19 + k - [Value.int IntKind.i64 p.cls, Value.int IntKind.i64 p.flow, Value.int IntKind.i64 p.hop].length = 16 + k by show 19 + k - 3 = 16 + k; omega]
  rw [List.set_append_right _ _ (by rw [hf]; omega), hf, Nat.add_sub_cancel_left, List.set_append_left _ _ (by rw [bytV_len, p.hdst]; exact hk), bytV_set, h1, h2.1, h2.2.1, h2.2.2, h3, h4]
theorem adr_get (s : ByteArray) (p k : Nat) (hk : k < 16) (h : p + 16 ≤ s.size) : (adr s p).getD k 0 = s[p + k]'(by omega) := by
  unfold adr
  rw [List.getD_eq_getElem?_getD, ext_list, List.getElem?_drop, List.getElem?_take, if_pos (by omega), List.getElem?_eq_getElem (by simpa using (show p + k < s.size by omega))]
  rfl
theorem pkL_step (s : ByteArray) (k : Nat) (hk : k < 16) (h40 : 40 ≤ s.size) :
    (((pkL s k).vals (.slice none 0 0)).set (3 + k) (.int .u8 ((s[8 + k]'(by omega)).toNat : Int))).set (19 + k) (.int .u8 ((s[24 + k]'(by omega)).toNat : Int)) = (pkL s (k + 1)).vals (.slice none 0 0) := by
  rw [vals_set_fr (pkL s k) (.slice none 0 0) k hk _ ({ pkL s k with fr := mix (k + 1) (adr s 8), hfr := mix_len _ _ } : Pk6) (by rw [← adr_get s 8 k hk (by omega)]; exact (mix_step k (adr s 8) hk).symm) ⟨rfl, rfl, rfl⟩ rfl rfl]
  exact vals_set_dst _ (.slice none 0 0) k hk _ (pkL s (k + 1)) (by rw [← adr_get s 24 k hk (by omega)]; exact (mix_step k (adr s 24) hk).symm) ⟨rfl, rfl, rfl⟩ rfl rfl
theorem pkL_end (s : ByteArray) (h40 : 40 ≤ s.size) : (pkL s 16).vals (.slice none 0 0) = (hdP s h40).vals (.slice none 0 0) := by
  rw [vals_parts, vals_parts]
  show [Value.int IntKind.i64 _, .int .i64 _, .int .i64 _] ++ (bytV (mix 16 (adr s 8)) ++ (bytV (mix 16 (adr s 24)) ++ _)) = _
  rw [mix_all _ (adr_len s 8 (by omega)), mix_all _ (adr_len s 24 (by omega))]
  rfl
theorem vals_some (p : Pk6) (v : Value) (i : Nat) (h : i < 42) : ∃ x, (p.vals v)[i]? = some x := ⟨_, List.getElem?_eq_getElem (by rw [vals_len]; exact h)⟩
theorem numOf_cons' (a b c d : UInt8) : (numOf [a, b, c, d] : Nat) = a.toNat * 16777216 + b.toNat * 65536 + c.toNat * 256 + d.toNat := by
  simp [numOf]
  omega
theorem first_nib (s : ByteArray) (h : 0 < s.size) (h4 : 4 ≤ s.size) : ((s[0].toNat : Nat) : Int) / 16 = (hdW s : Int) / 268435456 := by
  have e : (s.extract 0 (0 + 4)).data.toList = [s[0], s[1], s[2], s[3]] := by
    rw [ext_list, List.drop_zero]
    apply List.ext_getElem
    · simp; omega
    · intro i h1 h2
      have hi : i < 4 := h2
      rw [List.getElem_take]
      match i, hi with
      | 0, _ => rfl
      | 1, _ => rfl
      | 2, _ => rfl
      | 3, _ => rfl
  have u0 := s[0].toNat_lt
  have u1 := s[1].toNat_lt
  have u2 := s[2].toNat_lt
  have u3 := s[3].toNat_lt
  unfold hdW
  rw [e, numOf_cons']
  omega
theorem place_odd (d : ByteArray) (h : 8 ≤ d.size) : (((d[3]'(by omega)).toNat : Nat) : Int) % 2 = (frW d : Int) % 2 := by
  have e : (d.extract 2 (2 + 2)).data.toList = [d[2], d[3]] := by
    rw [ext_list]
    apply List.ext_getElem
    · simp; omega
    · intro i h1 h2
      have hi : i < 2 := h2
      rw [List.getElem_drop, List.getElem_take]
      match i, hi with
      | 0, _ => rfl
      | 1, _ => rfl
  have e2 : numOf [d[2], d[3]] = d[2].toNat * 256 + d[3].toNat := by simp [numOf]
  unfold frW
  rw [e, e2]
  omega
theorem own_set {w : World} {B : Nat} {T : TypeId} {v : Value} {n : Nat} {l : List Value} {c : Nat} (h : w.ownsRow B T 2 v n l) (hc : c < B) (i : Nat) (x : Value) : (w.setCell ⟨c, i, none⟩ x).ownsRow B T 2 v n l := own_sets h hc [x] i
theorem Try.execB6 (a : Act) (t0 t1 t2 : Nat) (x y z : Int) (d : Option Tmp) (ty : TypeId) (ps : String) (af : Array Edge) (w : World) (h0 : a.eval (.tmp t0) = .int .i64 x) (h1 : a.eval (.tmp t1) = .int .i64 y) (h2 : a.eval (.tmp t2) = .int .i64 z) :
    (execOp a.eval { dst := d, op := .build 31 #[(0, .tmp t0), (1, .tmp t1), (2, .tmp t2)], type := ty, pos := ps, after := af, guard := none }).run Try.prog w = .ok (.value (.agg (({ pk0 with cls := x, flow := y, hop := z } : Pk6).vals (.slice none 0 0)).toArray)) w := by
  unfold execOp
  simp only [Sem.run_bind, List.map_toArray, List.map_cons, List.map_nil, h0, h1, h2]
  show Result.andThen ((Instr.build 31 #[(0, .int .i64 x), (1, .int .i64 y), (2, .int .i64 z)]).run Try.prog w) _ = _
  rw [show (Instr.build 31 #[(0, .int .i64 x), (1, .int .i64 y), (2, .int .i64 z)]).run Try.prog w = .ok (.agg (({ pk0 with cls := x, flow := y, hop := z } : Pk6).vals (.slice none 0 0)).toArray) w by kernel_rfl]
  rfl
theorem byte_wrap (c : UInt8) : wrap64 ((c.toNat : Nat) : Int) = ((c.toNat : Nat) : Int) := by
  have := c.toNat_lt
  unfold wrap64
  omega
theorem byte_i64 (c : UInt8) : IntKind.i64.wrap ((c.toNat : Nat) : Int) = ((c.toNat : Nat) : Int) := by
  have := c.toNat_lt
  exact IntWalk.i64_in _ (by omega)
theorem odd_bit (x : Int) : (x % 2 == 1) = (x % 2 != 0) := by
  rcases (show x % 2 = 0 ∨ x % 2 = 1 by omega) with e | e <;> rw [e] <;> rfl
theorem div_facts (x : Nat) (h : x < 65536) : (x : Int).tdiv 8 = (x : Int) / 8 ∧ IntKind.i64.wrap ((x : Int) / 8) = (x : Int) / 8 ∧ IntKind.i64.wrap ((x : Int) / 8 * 8) = (x : Int) / 8 * 8 ∧ IntKind.u8.wrap ((x : Int) % 2) = (x : Int) % 2 :=
  ⟨Int.tdiv_eq_ediv_of_nonneg (by omega), IntWalk.i64_in _ (by omega), IntWalk.i64_in _ (by omega), IntWalk.u8_in _ (by omega)⟩
theorem odd_rem (d : ByteArray) (h : 8 ≤ d.size) : (((d[3]'(by omega)).toNat : Nat) : Int).tmod 2 = (frW d : Int) % 2 := by
  rw [Int.tmod_eq_emod_of_nonneg (by omega)]
  exact place_odd d h
theorem u32_wrap (x : Nat) (h : x < 4294967296) : IntKind.u32.wrap (x : Int) = (x : Int) := IntWalk.u32_in _ (by omega)
theorem fr_bad {P : Pk6} (hd : (frP P).piece = false ∨ (frP P).rch = false) (hm : (frP P).more = false) : ¬ (frP P).pl + ((frP P).data.size : Int) ≤ 65535 := by
  intro h
  rcases hd with h1 | h1
  · unfold Pk6.piece at h1
    rw [show (frP P).frag = true from rfl, hm] at h1
    cases h1
  · unfold Pk6.rch at h1
    rw [decide_eq_true h] at h1
    cases h1
end Go.Proofs.Ytphemimpkbjfoaa
