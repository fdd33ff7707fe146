/-
  Proved here: what another hop, turned addresses and a fragment change in a packet's bytes (plain facts).
  Conditions: none.
-/
import Derived.Test.YtphemimpkbjfoaaBack
namespace Go.Proofs.Ytphemimpkbjfoaa
open Go.RowKit

/-- A packet with another hop, its addresses turned about. -/
def Pk6.turn (p : Pk6) (h : Int) : Pk6 := { p with hop := h, fr := p.dst, dst := p.fr, hfr := p.hdst, hdst := p.hfr }
/-- The same as a fragment. -/
def Pk6.cut6 (p : Pk6) (h : Int) (i : Int) : Pk6 := { p.turn h with frag := true, id := i }
theorem turn_bnd {p : Pk6} (h : Int) (h0 : 0 ≤ h) (h1 : h ≤ 255) (hb : p.bnd = true) : (p.turn h).bnd = true := by
  obtain ⟨c0, c1, f0, f1, _, _, r0, r1, p0, p1, p8⟩ := bnd_pl hb
  unfold Pk6.bnd
  simp only [Bool.and_eq_true, inB_iff, beq_iff_eq]
  exact ⟨⟨c0, c1⟩, ⟨f0, f1⟩, ⟨h0, h1⟩, ⟨r0, r1⟩, ⟨p0, p1⟩, p8⟩
theorem turn_why {p : Pk6} (h : Int) (h0 : 0 ≤ h) (h1 : h ≤ 255) (hw : p.why = 0) : (p.turn h).why = 0 := by
  have ho := why_ok hw
  exact why_of ⟨turn_bnd h h0 h1 ho.bnd, ho.kinds, ho.form, ho.piece, ho.len, ho.rch, ho.behind⟩
theorem cut6_behind {p : Pk6} (h i : Int) (hf : p.frag = false) : (p.cut6 h i).behind = p.behind + 8 := by
  unfold Pk6.behind
  rw [hf]
  show p.data.size + 8 + esum p.exts = p.data.size + 0 + esum p.exts + 8
  omega
theorem cut6_piece {p : Pk6} (h i : Int) (hf : p.frag = false) (hp : p.piece = true) : (p.cut6 h i).piece = true := by
  unfold Pk6.piece at hp
  rw [hf] at hp
  simp at hp
  unfold Pk6.piece
  show (!p.more || _) = true
  rw [hp.2.2]
  rfl
theorem cut6_kinds {p : Pk6} (h i : Int) (hk : p.kinds = true) : (p.cut6 h i).kinds = true := by
  unfold Pk6.kinds at hk ⊢
  rw [Bool.and_eq_true] at hk ⊢
  exact ⟨hk.1, rfl⟩
theorem cut6_good {p : Pk6} (h i : Int) (h0 : 0 ≤ h) (h1 : h ≤ 255) (hf : p.frag = false) (hw : p.why = 0) (hb : p.behind + 8 ≤ 65535) : (p.cut6 h i).why = 0 := by
  have ho := why_ok hw
  exact why_of ⟨turn_bnd (p := p) h h0 h1 ho.bnd, cut6_kinds h i ho.kinds, ho.form, cut6_piece h i hf ho.piece, ho.len, ho.rch, by rw [cut6_behind h i hf]; exact hb⟩
theorem cut6_long {p : Pk6} (h i : Int) (hf : p.frag = false) (hb : ¬ p.behind + 8 ≤ 65535) : (p.cut6 h i).why ≠ 0 := by
  intro hw
  have ho := (why_ok hw).behind
  rw [cut6_behind h i hf] at ho
  exact hb ho
theorem h8_len (p : Pk6) : p.h8.length = 8 := rfl
theorem turn_first (p : Pk6) (h : Int) : p.bytes.extract 0 7 = (p.turn h).bytes.extract 0 7 := by
  apply ba_ext
  rw [ext_list, ext_list, bytes_list, bytes_list]
  rfl
theorem by7 (p : Pk6) : byN p.bytes 7 = (u8i p.hop).toNat := by
  unfold byN
  rw [bytes_list]
  rfl
theorem fr_mid (p : Pk6) : (p.bytes.extract 8 24).data.toList = p.fr := mid_list (bytes_list p) (by rw [h8_len]) (by rw [h8_len, p.hfr])
theorem dst_mid (p : Pk6) : (p.bytes.extract 24 40).data.toList = p.dst :=
  mid_list (A := p.h8 ++ p.fr) (by rw [bytes_list, List.append_assoc]) (by rw [List.length_append, h8_len, p.hfr]) (by rw [List.length_append, h8_len, p.hfr, p.hdst])
theorem turn_fr (p : Pk6) (h : Int) : p.bytes.extract 8 24 = (p.turn h).bytes.extract 24 40 := by
  apply ba_ext
  rw [fr_mid, dst_mid]
  rfl
theorem turn_dst (p : Pk6) (h : Int) : p.bytes.extract 24 40 = (p.turn h).bytes.extract 8 24 := by
  apply ba_ext
  rw [fr_mid, dst_mid]
  rfl
theorem behind_list (p : Pk6) : (p.bytes.extract 40 p.bytes.size).data.toList = p.heads.2.data.toList ++ p.data.data.toList := by
  rw [ext_end, bytes_list, ← List.append_assoc, ← List.append_assoc, List.drop_left' (by rw [List.length_append, List.length_append, h8_len, p.hfr, p.hdst])]
theorem turn_size (p : Pk6) (h : Int) : (p.turn h).bytes.size = p.bytes.size := by
  rw [bytes_size, bytes_size]
  rfl
theorem turn_rest (p : Pk6) (h : Int) : p.bytes.extract 40 p.bytes.size = (p.turn h).bytes.extract 40 (p.turn h).bytes.size := by
  apply ba_ext
  rw [behind_list, behind_list]
  rfl
theorem cut6_size {p : Pk6} (h i : Int) (hf : p.frag = false) : (p.cut6 h i).bytes.size = p.bytes.size + 8 := by
  rw [bytes_size, bytes_size, cut6_behind h i hf]
  omega
theorem cut6_four (p : Pk6) (h i : Int) : (p.cut6 h i).bytes.extract 0 4 = (p.turn h).bytes.extract 0 4 := by
  apply ba_ext
  rw [ext_list, ext_list, bytes_list, bytes_list]
  rfl
theorem seven_mid (p : Pk6) : (p.bytes.extract 7 40).data.toList = u8i p.hop :: (p.fr ++ p.dst) :=
  mid_list (A := p.h8.take 7) (C := p.heads.2.data.toList ++ p.data.data.toList) (by
    rw [bytes_list, List.cons_append, List.append_assoc]
    rfl) rfl (by rw [List.length_cons, List.length_append, p.hfr, p.hdst]; rfl)
theorem cut6_mid (p : Pk6) (h i : Int) : (p.cut6 h i).bytes.extract 7 40 = (p.turn h).bytes.extract 7 40 := by
  apply ba_ext
  rw [seven_mid, seven_mid]
  rfl
theorem heads_end (s0 : Int × ByteArray) (l : List (Int × ByteArray)) : ∃ X : ByteArray, (l.foldr (fun e st => hstep st e) s0).2 = X ++ s0.2 ∧ X.size = esum l := by
  induction l with
  | nil => exact ⟨⟨#[]⟩, by apply ba_ext; simp, rfl⟩
  | cons e r ih =>
    obtain ⟨X, h1, h2⟩ := ih
    refine ⟨strOfNums [(r.foldr (fun e st => hstep st e) s0).1] ++ strOfNums [((e.2.size : Int) - 6) / 8] ++ e.2 ++ X, ?_, ?_⟩
    · rw [List.foldr_cons]
      show strOfNums _ ++ strOfNums _ ++ e.2 ++ (r.foldr (fun e st => hstep st e) s0).2 = _
      rw [h1]
      apply ba_ext
      simp only [ByteArray.data_append, Array.toList_append, List.append_assoc]
    · simp only [ByteArray.size_append, strOfNums_size, List.length_cons, List.length_nil, h2]
      unfold esum
      rw [List.map_cons, List.sum_cons]
/-- Where the fragment's head begins, the protocol stands. -/
theorem cut6_proto {p : Pk6} (h i : Int) (hf : p.frag = false) : byN (p.cut6 h i).bytes (p.bytes.size - p.data.size) = (u8i p.proto).toNat := by
  obtain ⟨X, h1, h2⟩ := heads_end (p.cut6 h i).st0 p.exts
  have hh : (p.cut6 h i).heads.2 = X ++ (p.cut6 h i).fragB := h1
  have hk : p.bytes.size - p.data.size = 40 + X.size := by
    rw [bytes_size, h2]
    unfold Pk6.behind
    rw [hf]
    show 40 + (p.data.size + 0 + esum p.exts) - p.data.size = _
    omega
  unfold byN
  rw [hk, bytes_list, hh, List.getD_eq_getElem?_getD, ← List.append_assoc, ← List.append_assoc]
  have hl : ((p.cut6 h i).h8 ++ (p.cut6 h i).fr ++ (p.cut6 h i).dst).length = 40 := by rw [List.length_append, List.length_append, h8_len, (p.cut6 h i).hfr, (p.cut6 h i).hdst]
  rw [List.getElem?_append_right (by omega), hl, Nat.add_sub_cancel_left, ByteArray.data_append, Array.toList_append, List.append_assoc, List.getElem?_append_right (by rw [ba_size]; exact Nat.le_refl _), ba_size, Nat.sub_self]
  unfold Pk6.fragB
  simp only [ByteArray.data_append, Array.toList_append, nums_list]
  rfl
theorem cut6_data {p : Pk6} (h i : Int) (hf : p.frag = false) : (p.cut6 h i).bytes.extract (p.bytes.size - p.data.size + 8) (p.cut6 h i).bytes.size = p.data := by
  have h1 := last_data (p.cut6 h i)
  have h2 := cut6_size h i hf
  have h3 : (p.cut6 h i).data = p.data := rfl
  have h4 : p.data.size ≤ p.bytes.size := by rw [bytes_size]; unfold Pk6.behind; omega
  rw [h3] at h1
  rw [show p.bytes.size - p.data.size + 8 = (p.cut6 h i).bytes.size - p.data.size by omega]
  exact h1
end Go.Proofs.Ytphemimpkbjfoaa
