/-
  Proved here: what the document's Chain answers.
  Conditions: a text of at most 70000 bytes.
-/
import Derived.Test.YtdljjcnihajchaaExts
import Derived.IntWalk
import Derived.Deep.AppendLies
namespace Go.Proofs.Ytdljjcnihajchaa
open Go.RowKit

/-- A chain's end: its extensions, the protocol, what is left, and a code. -/
structure Chn where
  exts : List (Int × ByteArray)
  proto : Int
  rest : ByteArray
  code : Int
def bad (c : Int) : Chn := ⟨[], 0, ⟨#[]⟩, c⟩
/-- Byte i of a text. -/
def byN (s : ByteArray) (i : Nat) : Nat := (s.data.toList.getD i 0).toNat
theorem byN_lt (s : ByteArray) (i : Nat) : byN s i < 256 := UInt8.toNat_lt _
theorem byN_at (s : ByteArray) (i : Nat) (h : i < s.size) : byN s i = s[i].toNat := by
  unfold byN
  rw [byte_get s i h]
/-- How many bytes the extension has with which a text begins. -/
def exN (t : ByteArray) : Nat := 8 * (1 + byN t 1)
/-- Is a next an extension's? -/
def isEx (n : Int) : Prop := n = 0 ∨ n = 43 ∨ n = 60
instance (n : Int) : Decidable (isEx n) := by unfold isEx; exact inferInstance
/-- A chain, gone through from where it stands; f: how many steps there are at most. -/
def chn : Nat → List (Int × ByteArray) → Int → ByteArray → Chn
  | 0, _, _, _ => bad 3
  | f + 1, l, n, t =>
    if isEx n then
      if n = 0 ∧ l ≠ [] then bad 8
      else if l.length = 8 then bad 3
      else if t.size < 8 ∨ t.size < exN t then bad 7
      else chn f (l ++ [(n, t.extract 2 (exN t))]) (byN t 0) (t.extract (exN t) t.size)
    else ⟨l, n, t, 0⟩
def chnE (l : List (Int × ByteArray)) (n : Int) (t : ByteArray) : Chn := chn (9 - l.length) l n t
theorem chnE_end {l : List (Int × ByteArray)} {n : Int} (t : ByteArray) (hl : l.length ≤ 8) (h : ¬ isEx n) : chnE l n t = ⟨l, n, t, 0⟩ := by
  unfold chnE
  obtain ⟨f, hf⟩ : ∃ f, 9 - l.length = f + 1 := ⟨8 - l.length, by omega⟩
  rw [hf]
  unfold chn
  rw [if_neg h]
theorem chnE_form {l : List (Int × ByteArray)} {n : Int} (t : ByteArray) (hl : l.length ≤ 8) (h : isEx n) (h1 : n = 0 ∧ l ≠ []) : chnE l n t = bad 8 := by
  unfold chnE
  obtain ⟨f, hf⟩ : ∃ f, 9 - l.length = f + 1 := ⟨8 - l.length, by omega⟩
  rw [hf]
  unfold chn
  rw [if_pos h, if_pos h1]
theorem chnE_long {l : List (Int × ByteArray)} {n : Int} (t : ByteArray) (h : isEx n) (h1 : ¬ (n = 0 ∧ l ≠ [])) (h2 : l.length = 8) : chnE l n t = bad 3 := by
  unfold chnE
  rw [h2, show 9 - 8 = 0 + 1 from rfl]
  unfold chn
  rw [if_pos h, if_neg h1, if_pos h2]
theorem chnE_short {l : List (Int × ByteArray)} {n : Int} {t : ByteArray} (hl : l.length ≤ 8) (h : isEx n) (h1 : ¬ (n = 0 ∧ l ≠ [])) (h2 : l.length ≠ 8) (h3 : t.size < 8 ∨ t.size < exN t) : chnE l n t = bad 7 := by
  unfold chnE
  obtain ⟨f, hf⟩ : ∃ f, 9 - l.length = f + 1 := ⟨8 - l.length, by omega⟩
  rw [hf]
  unfold chn
  rw [if_pos h, if_neg h1, if_neg h2, if_pos h3]
theorem chnE_next {l : List (Int × ByteArray)} {n : Int} {t : ByteArray} (hl : l.length ≤ 8) (h : isEx n) (h1 : ¬ (n = 0 ∧ l ≠ [])) (h2 : l.length ≠ 8) (h3 : ¬ (t.size < 8 ∨ t.size < exN t)) :
    chnE l n t = chnE (l ++ [(n, t.extract 2 (exN t))]) (byN t 0) (t.extract (exN t) t.size) := by
  unfold chnE
  obtain ⟨f, hf⟩ : ∃ f, 9 - l.length = f + 1 := ⟨8 - l.length, by omega⟩
  rw [hf, List.length_append, List.length_singleton, show 9 - (l.length + 1) = f by omega]
  conv => lhs; unfold chn
  rw [if_pos h, if_neg h1, if_neg h2, if_neg h3]
theorem own_nil (w : World) (base : Nat) (T : TypeId) : w.ownsRow base T 2 (.slice none 0 0) 0 [] := ⟨rfl, .inl ⟨rfl, rfl⟩⟩
theorem Try.infoExt : (Try.prog.info? 57).map (fun i => (i.zero, i.size, i.bytes)) = some (some (.agg #[.int .i64 0, .string ⟨#[]⟩]), 2, 24) := by kernel_rfl
/-- A value's text's size. -/
def szOf : Value → Nat
  | .string s => s.size
  | _ => 0
theorem isEx_of (n : Int) : isEx n ↔ (n == 0 || (n == 43 || n == 60)) = true := by
  unfold isEx
  simp
end Go.Proofs.Ytdljjcnihajchaa
