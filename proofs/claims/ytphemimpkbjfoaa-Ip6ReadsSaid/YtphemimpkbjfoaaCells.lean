/-
  Proved here: what ip6.address answers; how a packet's cells are changed one by one.
  Conditions: the reader's block is whole, and has the bytes.
-/
import Derived.Test.YtphemimpkbjfoaaBytes
namespace Go.Proofs.Ytphemimpkbjfoaa
open Go.RowKit

theorem up_sets {w : World} {r : Option Nat} {c : Nat} (vs : List Value) (hc : w.heap.size ≤ c) : ∀ (o : Nat) (w' : World), w.grownBy w' r → w.grownBy (w'.setCells c o vs) r := by
  induction vs with
  | nil => intro o w' h; exact h
  | cons v t ih => intro o w' h; exact ih (o + 1) _ (up_setNew h hc o v)
theorem all_oneCell_toArray' {l : List Value} (h : ∀ v ∈ l, v.oneCell' = true) : l.toArray.all (·.oneCell') = true := by
  rw [List.all_toArray, List.all_eq_true]
  exact h
theorem Try.sizeByte (w : World) : (Go.sizeOf 5).run Try.prog w = .ok 1 w := by kernel_rfl
/-- Sixteen bytes of a text. -/
def adr (s : ByteArray) (p : Nat) : List UInt8 := (s.extract p (p + 16)).data.toList
theorem adr_len (s : ByteArray) (p : Nat) (h : p + 16 ≤ s.size) : (adr s p).length = 16 := by
  unfold adr
  rw [ba_size]
  simp
  omega
theorem Rd.sets_other {w : World} {r b : Nat} {s : ByteArray} {p : Nat} {c : Int} (h : Rd w r s p c) (hne : r ≠ b) (o : Nat) (vs : List Value) : Rd (w.setCells b o vs) r s p c := (heap_sets vs hne o w).trans h
theorem Rd.set_other {w : World} {r b : Nat} {s : ByteArray} {p : Nat} {c : Int} (h : Rd w r s p c) (hne : r ≠ b) (o : Nat) (v : Value) : Rd (w.setCell ⟨b, o, none⟩ v) r s p c := (Below.heap_setCell _ _ _ _ hne).trans h
set_option maxRecDepth 100000 in
set_option maxHeartbeats 400000 in
theorem address_any {w : World} {r : Nat} {s : ByteArray} {p : Nat} (h : Rd w r s p 0) (hs : s.size ≤ maxLen) (hl : p + 16 ≤ s.size) :
    Calls Try.prog 49 #[.pointer (some ⟨r, 0, none⟩)] w fun e w' => e = .returned (.agg (bytV (adr s p)).toArray) ∧ Rd w' r s (p + 16) 0 ∧ w.grownBy w' (some r) := by
  have hr0 := h.alloc (.cells (#[.int .u8 0, .int .u8 0, .int .u8 0, .int .u8 0, .int .u8 0, .int .u8 0, .int .u8 0, .int .u8 0, .int .u8 0, .int .u8 0, .int .u8 0, .int .u8 0, .int .u8 0, .int .u8 0, .int .u8 0, .int .u8 0] : Array Value) 28)
  have hk0 := bk_new w 28 (#[.int .u8 0, .int .u8 0, .int .u8 0, .int .u8 0, .int .u8 0, .int .u8 0, .int .u8 0, .int .u8 0, .int .u8 0, .int .u8 0, .int .u8 0, .int .u8 0, .int .u8 0, .int .u8 0, .int .u8 0, .int .u8 0] : Array Value)
  have HT := Lib.hid (text_ok hr0 hs 16 hl)
  have HLt := Lib.hid h.lt
  have hL : (bytV (adr s p)).length = 16 := by rw [bytV_len, adr_len s p hl]
  have HO := Lib.hid (bytV_one (adr s p))
  have hz : (s.extract p (p + 16)).size = 16 := by simp; omega
  have HZ := Lib.hid hz
  have HLL := Lib.hid hL
  have hZs : (#[.int .u8 0, .int .u8 0, .int .u8 0, .int .u8 0, .int .u8 0, .int .u8 0, .int .u8 0, .int .u8 0, .int .u8 0, .int .u8 0, .int .u8 0, .int .u8 0, .int .u8 0, .int .u8 0, .int .u8 0, .int .u8 0] : Array Value).size = 16 := rfl
  have hG0 : w.grownBy (w.alloc (.cells (#[.int .u8 0, .int .u8 0, .int .u8 0, .int .u8 0, .int .u8 0, .int .u8 0, .int .u8 0, .int .u8 0, .int .u8 0, .int .u8 0, .int .u8 0, .int .u8 0, .int .u8 0, .int .u8 0, .int .u8 0, .int .u8 0] : Array Value) 28)) (some r) := World.grownBy_alloc _ _ _
  have HG0 := Lib.hid hG0
  clear h hz hl hs hr0 hG0 hL
  generalize hZ : (#[.int .u8 0, .int .u8 0, .int .u8 0, .int .u8 0, .int .u8 0, .int .u8 0, .int .u8 0, .int .u8 0, .int .u8 0, .int .u8 0, .int .u8 0, .int .u8 0, .int .u8 0, .int .u8 0, .int .u8 0, .int .u8 0] : Array Value) = Z at *
  have HZX := Lib.hid hZ
  have HK0 := Lib.hid hk0
  clear hk0 hZ
  generalize hw1 : w.alloc (.cells Z 28) = w1 at *
  go_enter Try.func49, Try.ntmps49
  go_upto_region 1 with (fail)
  rw [HZX.out, hw1]
  clear hw1
  go_wp2_with fail
  refine HT.out.mono ?_
  rintro e w2 ⟨rfl, hR2, hG2⟩
  have hk2 : Bk w2 w.heap.size 28 Z := HK0.out.grown hG2 (by have := HLt.out; simp; omega)
  have hcp : ∀ ty, (Builtin.copy_ #[54, 9] ty #[.slice (some ⟨w.heap.size, 0, none⟩) 16 16, .string (s.extract p (p + 16))]).run Try.prog w2 = .ok (goInt (s.extract p (p + 16)).size) (w2.setCells w.heap.size 0 (bytV (adr s p))) := fun ty =>
    Go.run_copy_string w2 _ _ ty 5 w.heap.size 0 16 16 _ Try.underlying54 Try.sizeByte (Nat.le_of_eq HZ.out) (fun j hj => (hk2.there 16 (Nat.le_of_eq hZs.symm) j (by rw [HZ.out] at hj; exact hj)).1) (fun j hj => (hk2.there 16 (Nat.le_of_eq hZs.symm) j (by rw [HZ.out] at hj; exact hj)).2)
  have hG2' : w.grownBy w2 (some r) := up_trans HG0.out hG2
  have hk3 := Bk.sets (bytV (adr s p)) 0 _ _ hk2
  rw [puts_whole _ _ (by rw [HLL.out, hZs])] at hk3
  have HK3 := Lib.hid hk3
  have HR3 := Lib.hid (hR2.sets_other (b := w.heap.size) (by have := HLt.out; omega) 0 (bytV (adr s p)))
  have HG3 := Lib.hid (up_sets (bytV (adr s p)) (Nat.le_refl _) 0 _ hG2')
  clear hk2 hG2 hG2' hk3 hR2
  have HCP := Lib.hid (hcp 3)
  clear hcp
  go_wp2_with fail
  rw [HCP.out]
  generalize hVA : bytV (adr s p) = VA at *
  have HVA := Lib.hid hVA
  clear hVA
  generalize w2.setCells w.heap.size 0 VA = w3 at HK3 HR3 HG3
  have hr3 := HK3.out.range
  have hi : (Try.prog.info? 28).map (·.size) = some VA.length := by rw [HLL.out]; kernel_rfl
  have hone := all_oneCell_toArray' HO.out
  have ht4 : w3.there w.heap.size 0 VA.toArray.size := HK3.out.there _ (Nat.le_refl _)
  clear HCP
  go_wp2_with (first | (refine wpList_load_mid rfl 28 _ rfl w.heap.size 0 rfl VA _ hr3 Try.underlying28 rfl hi ?_) | (refine wpList_store_mid rfl 28 _ _ rfl w.heap.size 0 VA.toArray rfl rfl ht4 hi hone ?_))
  have hk5 := Bk.sets VA 0 _ _ HK3.out
  rw [puts_whole VA.toArray VA (by simp)] at hk5
  refine bodyPost_ret (v := .agg VA.toArray) (results_cell rfl rfl (run_loadVar_mid _ w.heap.size 0 28 VA _ hk5.range Try.underlying28 rfl hi)) rfl ⟨by rw [HVA.out], ?_, ?_⟩
  · exact HR3.out.sets_other (by have := HLt.out; omega) 0 _
  · exact up_sets _ (Nat.le_refl _) 0 _ HG3.out
theorem puts_mid (A B C l : List Value) (h : l.length = B.length) : puts (A ++ (B ++ C)).toArray A.length l = (A ++ (l ++ C)).toArray := by
  apply Array.toList_inj.1
  rw [puts_list _ _ _ (by simp; omega)]
  show List.take A.length (A ++ (B ++ C)) ++ l ++ List.drop (A.length + l.length) (A ++ (B ++ C)) = A ++ (l ++ C)
  rw [List.take_left' rfl, List.drop_append, List.drop_of_length_le (by omega), List.nil_append, Nat.add_sub_cancel_left, h, List.drop_left, List.append_assoc]
/-- The packet of no numbers. -/
def pk0 : Pk6 := ⟨0, 0, 0, List.replicate 16 0, List.replicate 16 0, [], false, 0, 0, false, 0, ⟨#[]⟩, rfl, rfl⟩
theorem pk0_vals : (pk0.vals (.slice none 0 0)).toArray = #[.int .i64 0, .int .i64 0, .int .i64 0, .int .u8 0, .int .u8 0, .int .u8 0, .int .u8 0, .int .u8 0, .int .u8 0, .int .u8 0, .int .u8 0, .int .u8 0, .int .u8 0, .int .u8 0, .int .u8 0, .int .u8 0, .int .u8 0, .int .u8 0, .int .u8 0, .int .u8 0, .int .u8 0, .int .u8 0, .int .u8 0, .int .u8 0, .int .u8 0, .int .u8 0, .int .u8 0, .int .u8 0, .int .u8 0, .int .u8 0, .int .u8 0, .int .u8 0, .int .u8 0, .int .u8 0, .int .u8 0, .slice none 0 0, .bool false, .int .u32 0, .int .i64 0, .bool false, .int .i64 0, .string ⟨#[]⟩] := rfl
section
variable (p : Pk6) (v : Value)
theorem vset0 (x : Int) : (p.vals v).toArray.setIfInBounds 0 (.int .i64 x) = (({ p with cls := x } : Pk6).vals v).toArray := by rw [List.setIfInBounds_toArray]; rfl
theorem vset1 (x : Int) : (p.vals v).toArray.setIfInBounds 1 (.int .i64 x) = (({ p with flow := x } : Pk6).vals v).toArray := by rw [List.setIfInBounds_toArray]; rfl
theorem vset2 (x : Int) : (p.vals v).toArray.setIfInBounds 2 (.int .i64 x) = (({ p with hop := x } : Pk6).vals v).toArray := by rw [List.setIfInBounds_toArray]; rfl
/-- The cells ahead of the tail. -/
def Pk6.front (p : Pk6) : List Value := [.int .i64 p.cls, .int .i64 p.flow, .int .i64 p.hop] ++ (bytV p.fr ++ bytV p.dst)
theorem front_len : p.front.length = 35 := by
  unfold Pk6.front
  rw [List.length_append, List.length_append, bytV_len, bytV_len, p.hfr, p.hdst]
  rfl
theorem vals_front : p.vals v = p.front ++ p.tail v := by
  unfold Pk6.vals Pk6.front
  simp only [List.append_assoc]
theorem vtail (i : Nat) (x : Value) (q : Pk6) (u : Value) (hf : q.front = p.front) (ht : (p.tail v).set i x = q.tail u) : (p.vals v).toArray.setIfInBounds (35 + i) x = (q.vals u).toArray := by
  rw [List.setIfInBounds_toArray, vals_front, vals_front, List.set_append_right _ _ (by rw [front_len]; omega), front_len, Nat.add_sub_cancel_left, ht, hf]
theorem vputs_fr (l : List UInt8) (hl : l.length = 16) : puts (p.vals v).toArray 3 (bytV l) = (({ p with fr := l, hfr := hl } : Pk6).vals v).toArray :=
  puts_mid [.int .i64 p.cls, .int .i64 p.flow, .int .i64 p.hop] (bytV p.fr) (bytV p.dst ++ p.tail v) (bytV l) (by rw [bytV_len, bytV_len, hl, p.hfr])
theorem vputs_dst (l : List UInt8) (hl : l.length = 16) : puts (p.vals v).toArray 19 (bytV l) = (({ p with dst := l, hdst := hl } : Pk6).vals v).toArray := by
  have e : ∀ (q : Pk6), q.vals v = ([.int .i64 q.cls, .int .i64 q.flow, .int .i64 q.hop] ++ bytV q.fr) ++ (bytV q.dst ++ q.tail v) := fun q => by unfold Pk6.vals; rw [List.append_assoc]
  have e2 : ([Value.int .i64 p.cls, .int .i64 p.flow, .int .i64 p.hop] ++ bytV p.fr).length = 19 := by rw [List.length_append, bytV_len, p.hfr]; rfl
  have h := puts_mid ([.int .i64 p.cls, .int .i64 p.flow, .int .i64 p.hop] ++ bytV p.fr) (bytV p.dst) (p.tail v) (bytV l) (by rw [bytV_len, bytV_len, hl, p.hdst])
  rw [e2] at h
  rw [e p, e, h]
  rfl
theorem vputs_all (q : Pk6) (u : Value) : puts (p.vals v).toArray 0 (q.vals u) = (q.vals u).toArray := puts_whole _ _ (by rw [vals_len]; have := vals_len p v; simp; omega)
end
end Go.Proofs.Ytphemimpkbjfoaa
