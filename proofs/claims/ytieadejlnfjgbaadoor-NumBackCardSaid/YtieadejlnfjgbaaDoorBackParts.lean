/-
  Proved here: plain facts on numbers as bytes, one behind the other; and num.Big for every size, in one contract.
  Conditions: none.
-/
import Derived.Test.YtieadejlnfjgbaaDoorBig
import Derived.Lib.IndexBytes
import Derived.Lib.RabinKarpLaws
namespace Go.Proofs.YtieadejlnfjgbaaDoor
open Go.RowKit Go.Extern.Stop Go.Stop Go.Extern

/-- The size that NumBack takes for number i. -/
def szOf (zlen : Nat) (Z : Nat → Int) (i : Nat) : Nat := if i < zlen then (if Z i % 3 = 0 then 1 else if Z i % 3 = 1 then 2 else 4) else 4
/-- The number that it writes. -/
def xOf (n : Nat) (x : Int) : Int := if n = 1 then x % 256 else if n = 2 then x % 65536 else x
/-- Its bytes. -/
def encN (n : Nat) (x : Int) : ByteArray :=
  if n = 1 then strOfNums [x] else if n = 2 then strOfNums [x / 256, x % 256] else strOfNums [x / 16777216, x / 65536 % 256, x / 256 % 256, x % 256]
def limOf (n : Nat) : Int := if n = 1 then 256 else if n = 2 then 65536 else 4294967296
def IsSize (n : Nat) : Prop := n = 1 ∨ n = 2 ∨ n = 4

theorem szOf_is (zlen : Nat) (Z : Nat → Int) (i : Nat) : IsSize (szOf zlen Z i) := by
  unfold szOf IsSize
  split
  · split
    · exact .inl rfl
    · split
      · exact .inr (.inl rfl)
      · exact .inr (.inr rfl)
  · exact .inr (.inr rfl)
theorem xOf_lt {n : Nat} (hn : IsSize n) {x : Int} (h0 : 0 ≤ x) (h1 : x < 4294967296) : 0 ≤ xOf n x ∧ xOf n x < limOf n := by
  rcases hn with rfl | rfl | rfl
  · exact ⟨show 0 ≤ x % 256 by omega, show x % 256 < 256 by omega⟩
  · exact ⟨show 0 ≤ x % 65536 by omega, show x % 65536 < 65536 by omega⟩
  · exact ⟨h0, h1⟩
theorem encN_size {n : Nat} (hn : IsSize n) (x : Int) : (encN n x).size = n := by
  rcases hn with rfl | rfl | rfl <;> rfl
theorem u8_of_int {x : Int} (h0 : 0 ≤ x) (h1 : x < 256) : (UInt8.ofNat x.toNat).toNat = x.toNat := by
  rw [UInt8.toNat_ofNat']
  omega
theorem numOf_enc {n : Nat} (hn : IsSize n) {x : Int} (h0 : 0 ≤ x) (h1 : x < limOf n) : (numOf (encN n x).data.toList : Int) = x := by
  rcases hn with rfl | rfl | rfl
  · have h1' : x < 256 := h1
    show ((0 * 256 + (UInt8.ofNat x.toNat).toNat : Nat) : Int) = x
    rw [u8_of_int h0 h1']
    omega
  · have h1' : x < 65536 := h1
    show (((0 * 256 + (UInt8.ofNat (x / 256).toNat).toNat) * 256 + (UInt8.ofNat (x % 256).toNat).toNat : Nat) : Int) = x
    rw [u8_of_int (by omega) (by omega), u8_of_int (by omega) (by omega)]
    omega
  · have h1' : x < 4294967296 := h1
    show (((((0 * 256 + (UInt8.ofNat (x / 16777216).toNat).toNat) * 256 + (UInt8.ofNat (x / 65536 % 256).toNat).toNat) * 256 + (UInt8.ofNat (x / 256 % 256).toNat).toNat) * 256 + (UInt8.ofNat (x % 256).toNat).toNat : Nat) : Int) = x
    rw [u8_of_int (by omega) (by omega), u8_of_int (by omega) (by omega), u8_of_int (by omega) (by omega), u8_of_int (by omega) (by omega)]
    omega

theorem noHigh (x k : Int) (h0 : 0 ≤ x) (h : x < k) : (x / k != 0) = false := by
  rw [Int.ediv_eq_zero_of_lt h0 h]; rfl
theorem big_all {n : Nat} (hn : IsSize n) (x : Int) (h0 : 0 ≤ x) (h1 : x < limOf n) (w : World) :
    Calls Tryd.prog 13 #[.int .i64 x, .int .i64 n] w fun e w' => e = .returned (.tuple #[.string (encN n x), .nilIface]) ∧ Below w.heap.size w w' := by
  rcases hn with rfl | rfl | rfl
  · exact big_ok1 x w h0 h1 (noHigh _ _ h0 h1)
  · exact big_ok2 x w h0 h1 (noHigh _ _ h0 h1)
  · exact big_ok4 x w h0 h1 (noHigh _ _ h0 h1)

/-- Texts, one behind the other. -/
def cat (f : Nat → ByteArray) : Nat → ByteArray
  | 0 => ⟨#[]⟩
  | k + 1 => cat f k ++ f k
/-- Where each begins. -/
def posOf (g : Nat → Nat) : Nat → Nat
  | 0 => 0
  | k + 1 => posOf g k + g k
theorem cat_size {f : Nat → ByteArray} {g : Nat → Nat} (h : ∀ i, (f i).size = g i) : ∀ k, (cat f k).size = posOf g k
  | 0 => rfl
  | k + 1 => by simp [cat, posOf, ByteArray.size_append, cat_size h k, h k]
theorem posOf_le {g : Nat → Nat} (h : ∀ i, g i ≤ 4) : ∀ k, posOf g k ≤ 4 * k
  | 0 => Nat.le_refl _
  | k + 1 => by have := posOf_le h k; have := h k; simp [posOf]; omega
theorem cat_more (f : Nat → ByteArray) (k : Nat) : ∀ m, ∃ r, cat f (k + m) = cat f k ++ r
  | 0 => ⟨⟨#[]⟩, by apply ByteArray.ext; simp⟩
  | m + 1 => by
    obtain ⟨r, hr⟩ := cat_more f k m
    refine ⟨r ++ f (k + m), ?_⟩
    show cat f (k + m) ++ f (k + m) = _
    rw [hr]
    apply ByteArray.ext
    simp
theorem size_list (a : ByteArray) : a.size = a.data.toList.length := by simp
theorem extract_mid (a b c : ByteArray) : ((a ++ b) ++ c).extract a.size (a.size + b.size) = b := by
  apply ByteArray.ext
  apply Array.toList_inj.1
  have e : ((a ++ b) ++ c).data.toList = a.data.toList ++ (b.data.toList ++ c.data.toList) := by simp
  rw [Lib.extract_data, e, Nat.add_sub_cancel_left, size_list a, size_list b, List.drop_left, List.take_left]
theorem extract_end (a b : ByteArray) : (a ++ b).extract a.size (a ++ b).size = b := by
  apply ByteArray.ext
  apply Array.toList_inj.1
  have e : (a ++ b).data.toList = a.data.toList ++ b.data.toList := by simp
  rw [Lib.extract_to_end, e, size_list a, List.drop_left]
theorem cat_at {f : Nat → ByteArray} {g : Nat → Nat} (h : ∀ i, (f i).size = g i) (k len : Nat) (hk : k < len) (t : ByteArray) :
    (cat f len ++ t).extract (posOf g k) (posOf g k + g k) = f k := by
  obtain ⟨m, rfl⟩ : ∃ m, len = k + 1 + m := ⟨len - (k + 1), by omega⟩
  obtain ⟨r, hr⟩ := cat_more f (k + 1) m
  rw [hr, ← cat_size h k, ← h k]
  have e : cat f (k + 1) ++ r ++ t = (cat f k ++ f k) ++ (r ++ t) := by
    apply ByteArray.ext
    simp [cat]
  rw [e]
  exact extract_mid _ _ _
theorem one_at (s : ByteArray) (k : Nat) (h : k < s.size) : numOf (s.extract k (k + 1)).data.toList = s[k].toNat := by
  have h' : k < s.data.toList.length := by simpa using h
  rw [Lib.extract_data, List.drop_eq_getElem_cons h', Nat.add_sub_cancel_left, List.take_one, byte_at' s k h h']
  simp [numOf]
end Go.Proofs.YtieadejlnfjgbaaDoor
