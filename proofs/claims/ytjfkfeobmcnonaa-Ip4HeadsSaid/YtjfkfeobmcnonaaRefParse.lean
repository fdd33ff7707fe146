/-
  Proved here: what the document's Parse answers of a text that has no measure.
  Conditions: a text of at most 70000 bytes.
-/
import Derived.Test.YtjfkfeobmcnonaaRefNumber
import Derived.Test.YtjfkfeobmcnonaaRefOf
import Derived.Test.YtjfkfeobmcnonaaAwake
namespace Go.Proofs.Ytjfkfeobmcnonaa
open Go.RowKit

/-- What is kept: two blocks of a packet of no numbers, and all that was. -/
def PS (w0 : World) (B b2 b4 : Nat) (V : List Value) (w : World) : Prop := Bk w b2 29 V.toArray ∧ Bk w b4 29 V.toArray ∧ Below B w0 w ∧ B ≤ w.heap.size ∧ b2 ≠ b4 ∧ B ≤ b2
theorem PS.below {w0 w w' : World} {B C b2 b4 : Nat} {V : List Value} (h : PS w0 B b2 b4 V w) (hb : Below C w w') (hC : w.heap.size ≤ C) : PS w0 B b2 b4 V w' := by
  obtain ⟨h1, h2, h3, h4, h5, h6⟩ := h
  exact ⟨h1.below hb (Nat.lt_of_lt_of_le h1.lt hC), h2.below hb (Nat.lt_of_lt_of_le h2.lt hC), h3.trans (hb.mono (Nat.le_trans h4 hC)), Nat.le_trans h4 hb.size, h5, h6⟩
theorem PS.sets {w0 w : World} {B b2 b4 c : Nat} {V : List Value} (h : PS w0 B b2 b4 V w) (h2 : b2 ≠ c) (h4 : b4 ≠ c) (hc : B ≤ c) (o : Nat) (vs : List Value) : PS w0 B b2 b4 V (w.setCells c o vs) := by
  obtain ⟨g1, g2, g3, g4, g5, g6⟩ := h
  exact ⟨g1.sets_other h2 o vs, g2.sets_other h4 o vs, below_sets vs hc o _ g3, by rw [size_sets]; exact g4, g5, g6⟩
theorem PS.set {w0 w : World} {B b2 b4 c : Nat} {V : List Value} (h : PS w0 B b2 b4 V w) (h2 : b2 ≠ c) (h4 : b4 ≠ c) (hc : B ≤ c) (o : Nat) (v : Value) : PS w0 B b2 b4 V (w.setCell ⟨c, o, none⟩ v) := by
  obtain ⟨g1, g2, g3, g4, g5, g6⟩ := h
  exact ⟨g1.set_other h2 o v, g2.set_other h4 o v, g3.setCell (by exact hc) v, by simpa [World.setCell] using g4, g5, g6⟩
theorem PS.alloc {w0 w : World} {B b2 b4 : Nat} {V : List Value} (h : PS w0 B b2 b4 V w) (ob : Obj) : PS w0 B b2 b4 V (w.alloc ob) := h.below ((Below.refl _ _).alloc (Nat.le_refl _) ob) (Nat.le_refl _)
set_option maxRecDepth 100000 in
set_option maxHeartbeats 400000 in
theorem rparse_short (s : ByteArray) (w : World) (hs : s.size ≤ 70000) (h20 : s.size < 20) :
    Calls Try.prog 21 #[.string s] w fun e w' => e = .returned (.tuple #[.agg pkt0.vals.toArray, .int .i64 7]) ∧ Below w.heap.size w w' := by
  obtain ⟨VZ, hVZ⟩ : ∃ V, V = (pkt0).vals := ⟨_, rfl⟩
  have HIVZ : Hid ((Try.prog.info? 29).map (·.size) = some VZ.length) := Lib.hid (by rw [hVZ]; exact Try.infoIp (pkt0))
  have HOVZ : Hid (VZ.toArray.all (·.oneCell') = true) := Lib.hid (by rw [hVZ]; exact vals_one (pkt0))
  have HPVZ : Hid (∀ q : Pkt, puts q.vals.toArray 0 VZ = VZ.toArray) := Lib.hid (fun q => by rw [hVZ]; exact puts_all q (pkt0))
  have HSVZ : Hid (VZ.toArray.size = 17) := Lib.hid (by rw [hVZ]; rfl)
  have HEVZ : Hid (∀ W, (binOp .eql 29 (.agg VZ.toArray) (.agg VZ.toArray)).run Try.prog W = .ok (.bool true) W) := Lib.hid (fun W => by rw [hVZ]; exact eqlP (pkt0) W)
  have HBD : Hid (∀ (ρ : Operand → Value) (d : Option Tmp) (ty : TypeId) (ps : String) (af : Array Edge) (W : World), (execOp ρ { dst := d, op := .build 29 #[], type := ty, pos := ps, after := af, guard := none }).run Try.prog W = .ok (.value (.agg VZ.toArray)) W) := Lib.hid (fun ρ d ty ps af W => by rw [hVZ]; exact Try.execZ ρ d ty ps af W)
  have ht0 : ((w.alloc (.cells #[.int .i64 0, .int .i64 0, .int .i64 0, .int .i64 0, .int .i64 0, .bool false, .bool false, .int .u8 0, .int .u8 0, .int .u8 0, .int .u8 0, .int .u8 0, .int .u8 0, .int .u8 0, .int .u8 0, .string ⟨#[]⟩, .string ⟨#[]⟩] 29)).alloc (.cells #[.int .i64 0, .int .i64 0, .int .i64 0, .int .i64 0, .int .i64 0, .bool false, .bool false, .int .u8 0, .int .u8 0, .int .u8 0, .int .u8 0, .int .u8 0, .int .u8 0, .int .u8 0, .int .u8 0, .string ⟨#[]⟩, .string ⟨#[]⟩] 29)).there (w.heap.size + 1) 0 VZ.toArray.size := by
    rw [HSVZ.out]
    have := (bk_new (w.alloc (.cells #[.int .i64 0, .int .i64 0, .int .i64 0, .int .i64 0, .int .i64 0, .bool false, .bool false, .int .u8 0, .int .u8 0, .int .u8 0, .int .u8 0, .int .u8 0, .int .u8 0, .int .u8 0, .int .u8 0, .string ⟨#[]⟩, .string ⟨#[]⟩] 29)) 29 #[.int .i64 0, .int .i64 0, .int .i64 0, .int .i64 0, .int .i64 0, .bool false, .bool false, .int .u8 0, .int .u8 0, .int .u8 0, .int .u8 0, .int .u8 0, .int .u8 0, .int .u8 0, .int .u8 0, .string ⟨#[]⟩, .string ⟨#[]⟩]).there 17 (Nat.le_refl _)
    simpa using this
  have hp0 : PS w w.heap.size w.heap.size (w.heap.size + 1) VZ (((w.alloc (.cells #[.int .i64 0, .int .i64 0, .int .i64 0, .int .i64 0, .int .i64 0, .bool false, .bool false, .int .u8 0, .int .u8 0, .int .u8 0, .int .u8 0, .int .u8 0, .int .u8 0, .int .u8 0, .int .u8 0, .string ⟨#[]⟩, .string ⟨#[]⟩] 29)).alloc (.cells #[.int .i64 0, .int .i64 0, .int .i64 0, .int .i64 0, .int .i64 0, .bool false, .bool false, .int .u8 0, .int .u8 0, .int .u8 0, .int .u8 0, .int .u8 0, .int .u8 0, .int .u8 0, .int .u8 0, .string ⟨#[]⟩, .string ⟨#[]⟩] 29)).setCells (w.heap.size + 1) 0 VZ) := by
    have k2 : Bk ((w.alloc (.cells #[.int .i64 0, .int .i64 0, .int .i64 0, .int .i64 0, .int .i64 0, .bool false, .bool false, .int .u8 0, .int .u8 0, .int .u8 0, .int .u8 0, .int .u8 0, .int .u8 0, .int .u8 0, .int .u8 0, .string ⟨#[]⟩, .string ⟨#[]⟩] 29)).alloc (.cells #[.int .i64 0, .int .i64 0, .int .i64 0, .int .i64 0, .int .i64 0, .bool false, .bool false, .int .u8 0, .int .u8 0, .int .u8 0, .int .u8 0, .int .u8 0, .int .u8 0, .int .u8 0, .int .u8 0, .string ⟨#[]⟩, .string ⟨#[]⟩] 29)) w.heap.size 29 VZ.toArray := by rw [hVZ]; exact (bk_new w 29 #[.int .i64 0, .int .i64 0, .int .i64 0, .int .i64 0, .int .i64 0, .bool false, .bool false, .int .u8 0, .int .u8 0, .int .u8 0, .int .u8 0, .int .u8 0, .int .u8 0, .int .u8 0, .int .u8 0, .string ⟨#[]⟩, .string ⟨#[]⟩]).alloc _
    have k4 : Bk ((w.alloc (.cells #[.int .i64 0, .int .i64 0, .int .i64 0, .int .i64 0, .int .i64 0, .bool false, .bool false, .int .u8 0, .int .u8 0, .int .u8 0, .int .u8 0, .int .u8 0, .int .u8 0, .int .u8 0, .int .u8 0, .string ⟨#[]⟩, .string ⟨#[]⟩] 29)).alloc (.cells #[.int .i64 0, .int .i64 0, .int .i64 0, .int .i64 0, .int .i64 0, .bool false, .bool false, .int .u8 0, .int .u8 0, .int .u8 0, .int .u8 0, .int .u8 0, .int .u8 0, .int .u8 0, .int .u8 0, .string ⟨#[]⟩, .string ⟨#[]⟩] 29)) (w.heap.size + 1) 29 pkt0.vals.toArray := by
      have := bk_new (w.alloc (.cells #[.int .i64 0, .int .i64 0, .int .i64 0, .int .i64 0, .int .i64 0, .bool false, .bool false, .int .u8 0, .int .u8 0, .int .u8 0, .int .u8 0, .int .u8 0, .int .u8 0, .int .u8 0, .int .u8 0, .string ⟨#[]⟩, .string ⟨#[]⟩] 29)) 29 #[.int .i64 0, .int .i64 0, .int .i64 0, .int .i64 0, .int .i64 0, .bool false, .bool false, .int .u8 0, .int .u8 0, .int .u8 0, .int .u8 0, .int .u8 0, .int .u8 0, .int .u8 0, .int .u8 0, .string ⟨#[]⟩, .string ⟨#[]⟩]
      rw [show (w.alloc (.cells #[.int .i64 0, .int .i64 0, .int .i64 0, .int .i64 0, .int .i64 0, .bool false, .bool false, .int .u8 0, .int .u8 0, .int .u8 0, .int .u8 0, .int .u8 0, .int .u8 0, .int .u8 0, .int .u8 0, .string ⟨#[]⟩, .string ⟨#[]⟩] 29)).heap.size = w.heap.size + 1 by simp] at this
      exact this
    have k4' := Bk.sets VZ 0 _ _ k4
    rw [HPVZ.out] at k4'
    exact ⟨k2.sets_other (by omega) 0 VZ, k4', below_sets VZ (by omega) 0 _ (((Below.refl _ _).alloc (Nat.le_refl _) _).alloc (by simp) _), by rw [size_sets]; simp; omega, by omega, Nat.le_refl _⟩
  have HPS0 := Lib.hid hp0
  have HVZ := Lib.hid hVZ
  clear hp0 hVZ
  go_enter Try.func21, Try.ntmps21
  go_upto_region 2 with (first | (refine Great.wpList_readTo rfl _ rfl (.agg VZ.toArray) (HBD.out _ _ _ _ _ _) ?_) | (refine wpList_store_mid rfl 29 _ _ rfl (w.heap.size + 1) 0 VZ.toArray rfl rfl ht0 HIVZ.out HOVZ.out ?_))
  clear ht0
  generalize ((w.alloc (.cells #[.int .i64 0, .int .i64 0, .int .i64 0, .int .i64 0, .int .i64 0, .bool false, .bool false, .int .u8 0, .int .u8 0, .int .u8 0, .int .u8 0, .int .u8 0, .int .u8 0, .int .u8 0, .int .u8 0, .string ⟨#[]⟩, .string ⟨#[]⟩] 29)).alloc (.cells #[.int .i64 0, .int .i64 0, .int .i64 0, .int .i64 0, .int .i64 0, .bool false, .bool false, .int .u8 0, .int .u8 0, .int .u8 0, .int .u8 0, .int .u8 0, .int .u8 0, .int .u8 0, .int .u8 0, .string ⟨#[]⟩, .string ⟨#[]⟩] 29)).setCells (w.heap.size + 1) 0 VZ = w0 at *
  have hr : w0.rangeAt (w.heap.size + 1) 0 VZ := HPS0.out.2.1.range
  have ht : w0.there w.heap.size 0 VZ.toArray.size := HPS0.out.1.there _ (Nat.le_refl _)
  go_wp2_with (first | (refine wpList_load_mid rfl 29 _ rfl (w.heap.size + 1) 0 rfl VZ _ hr Try.underlying29 rfl HIVZ.out ?_) | (refine wpList_store_mid rfl 29 _ _ rfl w.heap.size 0 VZ.toArray rfl rfl ht HIVZ.out HOVZ.out ?_))
  clear hr ht
  have hk := Bk.sets VZ 0 _ _ (show Bk w0 w.heap.size 29 pkt0.vals.toArray by rw [← HVZ.out]; exact HPS0.out.1)
  rw [HPVZ.out] at hk
  have hkr := hk.range
  refine bodyPost_ret (v := .tuple #[.agg VZ.toArray, .int .i64 7]) ?_ rfl ?_
  · exact results_cell2 rfl rfl rfl (run_loadVar_mid _ w.heap.size 0 29 VZ _ hkr Try.underlying29 rfl HIVZ.out)
  exact ⟨by rw [HVZ.out], below_sets _ (Nat.le_refl _) 0 _ HPS0.out.2.2.1⟩
set_option maxRecDepth 100000 in
set_option maxHeartbeats 400000 in
theorem rparse_low (s : ByteArray) (w : World) (hs : s.size ≤ 70000) (h20 : 20 ≤ s.size) (hk : byN s 0 < 69) :
    Calls Try.prog 21 #[.string s] w fun e w' => e = .returned (.tuple #[.agg pkt0.vals.toArray, .int .i64 8]) ∧ Below w.heap.size w w' := by
  have h00 : 0 < s.size := by omega
  have hk1 : (4 : Int) * ((s[0].toNat : Int) - 64) < 20 := by rw [← byN_at s 0 h00]; omega
  have h8 := s[0].toNat_lt
  clear hk
  obtain ⟨VZ, hVZ⟩ : ∃ V, V = (pkt0).vals := ⟨_, rfl⟩
  have HIVZ : Hid ((Try.prog.info? 29).map (·.size) = some VZ.length) := Lib.hid (by rw [hVZ]; exact Try.infoIp (pkt0))
  have HOVZ : Hid (VZ.toArray.all (·.oneCell') = true) := Lib.hid (by rw [hVZ]; exact vals_one (pkt0))
  have HPVZ : Hid (∀ q : Pkt, puts q.vals.toArray 0 VZ = VZ.toArray) := Lib.hid (fun q => by rw [hVZ]; exact puts_all q (pkt0))
  have HSVZ : Hid (VZ.toArray.size = 17) := Lib.hid (by rw [hVZ]; rfl)
  have HEVZ : Hid (∀ W, (binOp .eql 29 (.agg VZ.toArray) (.agg VZ.toArray)).run Try.prog W = .ok (.bool true) W) := Lib.hid (fun W => by rw [hVZ]; exact eqlP (pkt0) W)
  have HBD : Hid (∀ (ρ : Operand → Value) (d : Option Tmp) (ty : TypeId) (ps : String) (af : Array Edge) (W : World), (execOp ρ { dst := d, op := .build 29 #[], type := ty, pos := ps, after := af, guard := none }).run Try.prog W = .ok (.value (.agg VZ.toArray)) W) := Lib.hid (fun ρ d ty ps af W => by rw [hVZ]; exact Try.execZ ρ d ty ps af W)
  have ht0 : ((w.alloc (.cells #[.int .i64 0, .int .i64 0, .int .i64 0, .int .i64 0, .int .i64 0, .bool false, .bool false, .int .u8 0, .int .u8 0, .int .u8 0, .int .u8 0, .int .u8 0, .int .u8 0, .int .u8 0, .int .u8 0, .string ⟨#[]⟩, .string ⟨#[]⟩] 29)).alloc (.cells #[.int .i64 0, .int .i64 0, .int .i64 0, .int .i64 0, .int .i64 0, .bool false, .bool false, .int .u8 0, .int .u8 0, .int .u8 0, .int .u8 0, .int .u8 0, .int .u8 0, .int .u8 0, .int .u8 0, .string ⟨#[]⟩, .string ⟨#[]⟩] 29)).there (w.heap.size + 1) 0 VZ.toArray.size := by
    rw [HSVZ.out]
    have := (bk_new (w.alloc (.cells #[.int .i64 0, .int .i64 0, .int .i64 0, .int .i64 0, .int .i64 0, .bool false, .bool false, .int .u8 0, .int .u8 0, .int .u8 0, .int .u8 0, .int .u8 0, .int .u8 0, .int .u8 0, .int .u8 0, .string ⟨#[]⟩, .string ⟨#[]⟩] 29)) 29 #[.int .i64 0, .int .i64 0, .int .i64 0, .int .i64 0, .int .i64 0, .bool false, .bool false, .int .u8 0, .int .u8 0, .int .u8 0, .int .u8 0, .int .u8 0, .int .u8 0, .int .u8 0, .int .u8 0, .string ⟨#[]⟩, .string ⟨#[]⟩]).there 17 (Nat.le_refl _)
    simpa using this
  have hp0 : PS w w.heap.size w.heap.size (w.heap.size + 1) VZ (((w.alloc (.cells #[.int .i64 0, .int .i64 0, .int .i64 0, .int .i64 0, .int .i64 0, .bool false, .bool false, .int .u8 0, .int .u8 0, .int .u8 0, .int .u8 0, .int .u8 0, .int .u8 0, .int .u8 0, .int .u8 0, .string ⟨#[]⟩, .string ⟨#[]⟩] 29)).alloc (.cells #[.int .i64 0, .int .i64 0, .int .i64 0, .int .i64 0, .int .i64 0, .bool false, .bool false, .int .u8 0, .int .u8 0, .int .u8 0, .int .u8 0, .int .u8 0, .int .u8 0, .int .u8 0, .int .u8 0, .string ⟨#[]⟩, .string ⟨#[]⟩] 29)).setCells (w.heap.size + 1) 0 VZ) := by
    have k2 : Bk ((w.alloc (.cells #[.int .i64 0, .int .i64 0, .int .i64 0, .int .i64 0, .int .i64 0, .bool false, .bool false, .int .u8 0, .int .u8 0, .int .u8 0, .int .u8 0, .int .u8 0, .int .u8 0, .int .u8 0, .int .u8 0, .string ⟨#[]⟩, .string ⟨#[]⟩] 29)).alloc (.cells #[.int .i64 0, .int .i64 0, .int .i64 0, .int .i64 0, .int .i64 0, .bool false, .bool false, .int .u8 0, .int .u8 0, .int .u8 0, .int .u8 0, .int .u8 0, .int .u8 0, .int .u8 0, .int .u8 0, .string ⟨#[]⟩, .string ⟨#[]⟩] 29)) w.heap.size 29 VZ.toArray := by rw [hVZ]; exact (bk_new w 29 #[.int .i64 0, .int .i64 0, .int .i64 0, .int .i64 0, .int .i64 0, .bool false, .bool false, .int .u8 0, .int .u8 0, .int .u8 0, .int .u8 0, .int .u8 0, .int .u8 0, .int .u8 0, .int .u8 0, .string ⟨#[]⟩, .string ⟨#[]⟩]).alloc _
    have k4 : Bk ((w.alloc (.cells #[.int .i64 0, .int .i64 0, .int .i64 0, .int .i64 0, .int .i64 0, .bool false, .bool false, .int .u8 0, .int .u8 0, .int .u8 0, .int .u8 0, .int .u8 0, .int .u8 0, .int .u8 0, .int .u8 0, .string ⟨#[]⟩, .string ⟨#[]⟩] 29)).alloc (.cells #[.int .i64 0, .int .i64 0, .int .i64 0, .int .i64 0, .int .i64 0, .bool false, .bool false, .int .u8 0, .int .u8 0, .int .u8 0, .int .u8 0, .int .u8 0, .int .u8 0, .int .u8 0, .int .u8 0, .string ⟨#[]⟩, .string ⟨#[]⟩] 29)) (w.heap.size + 1) 29 pkt0.vals.toArray := by
      have := bk_new (w.alloc (.cells #[.int .i64 0, .int .i64 0, .int .i64 0, .int .i64 0, .int .i64 0, .bool false, .bool false, .int .u8 0, .int .u8 0, .int .u8 0, .int .u8 0, .int .u8 0, .int .u8 0, .int .u8 0, .int .u8 0, .string ⟨#[]⟩, .string ⟨#[]⟩] 29)) 29 #[.int .i64 0, .int .i64 0, .int .i64 0, .int .i64 0, .int .i64 0, .bool false, .bool false, .int .u8 0, .int .u8 0, .int .u8 0, .int .u8 0, .int .u8 0, .int .u8 0, .int .u8 0, .int .u8 0, .string ⟨#[]⟩, .string ⟨#[]⟩]
      rw [show (w.alloc (.cells #[.int .i64 0, .int .i64 0, .int .i64 0, .int .i64 0, .int .i64 0, .bool false, .bool false, .int .u8 0, .int .u8 0, .int .u8 0, .int .u8 0, .int .u8 0, .int .u8 0, .int .u8 0, .int .u8 0, .string ⟨#[]⟩, .string ⟨#[]⟩] 29)).heap.size = w.heap.size + 1 by simp] at this
      exact this
    have k4' := Bk.sets VZ 0 _ _ k4
    rw [HPVZ.out] at k4'
    exact ⟨k2.sets_other (by omega) 0 VZ, k4', below_sets VZ (by omega) 0 _ (((Below.refl _ _).alloc (Nat.le_refl _) _).alloc (by simp) _), by rw [size_sets]; simp; omega, by omega, Nat.le_refl _⟩
  have HPS0 := Lib.hid hp0
  have HVZ := Lib.hid hVZ
  clear hp0 hVZ
  go_enter Try.func21, Try.ntmps21
  go_upto_region 2 with (first | (refine Great.wpList_readTo rfl _ rfl (.agg VZ.toArray) (HBD.out _ _ _ _ _ _) ?_) | (refine wpList_store_mid rfl 29 _ _ rfl (w.heap.size + 1) 0 VZ.toArray rfl rfl ht0 HIVZ.out HOVZ.out ?_))
  clear ht0
  generalize ((w.alloc (.cells #[.int .i64 0, .int .i64 0, .int .i64 0, .int .i64 0, .int .i64 0, .bool false, .bool false, .int .u8 0, .int .u8 0, .int .u8 0, .int .u8 0, .int .u8 0, .int .u8 0, .int .u8 0, .int .u8 0, .string ⟨#[]⟩, .string ⟨#[]⟩] 29)).alloc (.cells #[.int .i64 0, .int .i64 0, .int .i64 0, .int .i64 0, .int .i64 0, .bool false, .bool false, .int .u8 0, .int .u8 0, .int .u8 0, .int .u8 0, .int .u8 0, .int .u8 0, .int .u8 0, .int .u8 0, .string ⟨#[]⟩, .string ⟨#[]⟩] 29)).setCells (w.heap.size + 1) 0 VZ = w0 at *
  have hr : w0.rangeAt (w.heap.size + 1) 0 VZ := HPS0.out.2.1.range
  have ht : w0.there w.heap.size 0 VZ.toArray.size := HPS0.out.1.there _ (Nat.le_refl _)
  go_wp2_with (first | (refine wpList_load_mid rfl 29 _ rfl (w.heap.size + 1) 0 rfl VZ _ hr Try.underlying29 rfl HIVZ.out ?_) | (refine wpList_store_mid rfl 29 _ _ rfl w.heap.size 0 VZ.toArray rfl rfl ht HIVZ.out HOVZ.out ?_))
  clear hr ht
  have hk := Bk.sets VZ 0 _ _ (show Bk w0 w.heap.size 29 pkt0.vals.toArray by rw [← HVZ.out]; exact HPS0.out.1)
  rw [HPVZ.out] at hk
  have hkr := hk.range
  refine bodyPost_ret (v := .tuple #[.agg VZ.toArray, .int .i64 8]) ?_ rfl ?_
  · exact results_cell2 rfl rfl rfl (run_loadVar_mid _ w.heap.size 0 29 VZ _ hkr Try.underlying29 rfl HIVZ.out)
  exact ⟨by rw [HVZ.out], below_sets _ (Nat.le_refl _) 0 _ HPS0.out.2.2.1⟩
set_option maxRecDepth 100000 in
set_option maxHeartbeats 400000 in
theorem rparse_high (s : ByteArray) (w : World) (hs : s.size ≤ 70000) (h20 : 20 ≤ s.size) (hk : 79 < byN s 0) :
    Calls Try.prog 21 #[.string s] w fun e w' => e = .returned (.tuple #[.agg pkt0.vals.toArray, .int .i64 8]) ∧ Below w.heap.size w w' := by
  have h00 : 0 < s.size := by omega
  have hk1 : (60 : Int) < 4 * ((s[0].toNat : Int) - 64) := by rw [← byN_at s 0 h00]; omega
  have h8 := s[0].toNat_lt
  clear hk
  obtain ⟨VZ, hVZ⟩ : ∃ V, V = (pkt0).vals := ⟨_, rfl⟩
  have HIVZ : Hid ((Try.prog.info? 29).map (·.size) = some VZ.length) := Lib.hid (by rw [hVZ]; exact Try.infoIp (pkt0))
  have HOVZ : Hid (VZ.toArray.all (·.oneCell') = true) := Lib.hid (by rw [hVZ]; exact vals_one (pkt0))
  have HPVZ : Hid (∀ q : Pkt, puts q.vals.toArray 0 VZ = VZ.toArray) := Lib.hid (fun q => by rw [hVZ]; exact puts_all q (pkt0))
  have HSVZ : Hid (VZ.toArray.size = 17) := Lib.hid (by rw [hVZ]; rfl)
  have HEVZ : Hid (∀ W, (binOp .eql 29 (.agg VZ.toArray) (.agg VZ.toArray)).run Try.prog W = .ok (.bool true) W) := Lib.hid (fun W => by rw [hVZ]; exact eqlP (pkt0) W)
  have HBD : Hid (∀ (ρ : Operand → Value) (d : Option Tmp) (ty : TypeId) (ps : String) (af : Array Edge) (W : World), (execOp ρ { dst := d, op := .build 29 #[], type := ty, pos := ps, after := af, guard := none }).run Try.prog W = .ok (.value (.agg VZ.toArray)) W) := Lib.hid (fun ρ d ty ps af W => by rw [hVZ]; exact Try.execZ ρ d ty ps af W)
  have ht0 : ((w.alloc (.cells #[.int .i64 0, .int .i64 0, .int .i64 0, .int .i64 0, .int .i64 0, .bool false, .bool false, .int .u8 0, .int .u8 0, .int .u8 0, .int .u8 0, .int .u8 0, .int .u8 0, .int .u8 0, .int .u8 0, .string ⟨#[]⟩, .string ⟨#[]⟩] 29)).alloc (.cells #[.int .i64 0, .int .i64 0, .int .i64 0, .int .i64 0, .int .i64 0, .bool false, .bool false, .int .u8 0, .int .u8 0, .int .u8 0, .int .u8 0, .int .u8 0, .int .u8 0, .int .u8 0, .int .u8 0, .string ⟨#[]⟩, .string ⟨#[]⟩] 29)).there (w.heap.size + 1) 0 VZ.toArray.size := by
    rw [HSVZ.out]
    have := (bk_new (w.alloc (.cells #[.int .i64 0, .int .i64 0, .int .i64 0, .int .i64 0, .int .i64 0, .bool false, .bool false, .int .u8 0, .int .u8 0, .int .u8 0, .int .u8 0, .int .u8 0, .int .u8 0, .int .u8 0, .int .u8 0, .string ⟨#[]⟩, .string ⟨#[]⟩] 29)) 29 #[.int .i64 0, .int .i64 0, .int .i64 0, .int .i64 0, .int .i64 0, .bool false, .bool false, .int .u8 0, .int .u8 0, .int .u8 0, .int .u8 0, .int .u8 0, .int .u8 0, .int .u8 0, .int .u8 0, .string ⟨#[]⟩, .string ⟨#[]⟩]).there 17 (Nat.le_refl _)
    simpa using this
  have hp0 : PS w w.heap.size w.heap.size (w.heap.size + 1) VZ (((w.alloc (.cells #[.int .i64 0, .int .i64 0, .int .i64 0, .int .i64 0, .int .i64 0, .bool false, .bool false, .int .u8 0, .int .u8 0, .int .u8 0, .int .u8 0, .int .u8 0, .int .u8 0, .int .u8 0, .int .u8 0, .string ⟨#[]⟩, .string ⟨#[]⟩] 29)).alloc (.cells #[.int .i64 0, .int .i64 0, .int .i64 0, .int .i64 0, .int .i64 0, .bool false, .bool false, .int .u8 0, .int .u8 0, .int .u8 0, .int .u8 0, .int .u8 0, .int .u8 0, .int .u8 0, .int .u8 0, .string ⟨#[]⟩, .string ⟨#[]⟩] 29)).setCells (w.heap.size + 1) 0 VZ) := by
    have k2 : Bk ((w.alloc (.cells #[.int .i64 0, .int .i64 0, .int .i64 0, .int .i64 0, .int .i64 0, .bool false, .bool false, .int .u8 0, .int .u8 0, .int .u8 0, .int .u8 0, .int .u8 0, .int .u8 0, .int .u8 0, .int .u8 0, .string ⟨#[]⟩, .string ⟨#[]⟩] 29)).alloc (.cells #[.int .i64 0, .int .i64 0, .int .i64 0, .int .i64 0, .int .i64 0, .bool false, .bool false, .int .u8 0, .int .u8 0, .int .u8 0, .int .u8 0, .int .u8 0, .int .u8 0, .int .u8 0, .int .u8 0, .string ⟨#[]⟩, .string ⟨#[]⟩] 29)) w.heap.size 29 VZ.toArray := by rw [hVZ]; exact (bk_new w 29 #[.int .i64 0, .int .i64 0, .int .i64 0, .int .i64 0, .int .i64 0, .bool false, .bool false, .int .u8 0, .int .u8 0, .int .u8 0, .int .u8 0, .int .u8 0, .int .u8 0, .int .u8 0, .int .u8 0, .string ⟨#[]⟩, .string ⟨#[]⟩]).alloc _
    have k4 : Bk ((w.alloc (.cells #[.int .i64 0, .int .i64 0, .int .i64 0, .int .i64 0, .int .i64 0, .bool false, .bool false, .int .u8 0, .int .u8 0, .int .u8 0, .int .u8 0, .int .u8 0, .int .u8 0, .int .u8 0, .int .u8 0, .string ⟨#[]⟩, .string ⟨#[]⟩] 29)).alloc (.cells #[.int .i64 0, .int .i64 0, .int .i64 0, .int .i64 0, .int .i64 0, .bool false, .bool false, .int .u8 0, .int .u8 0, .int .u8 0, .int .u8 0, .int .u8 0, .int .u8 0, .int .u8 0, .int .u8 0, .string ⟨#[]⟩, .string ⟨#[]⟩] 29)) (w.heap.size + 1) 29 pkt0.vals.toArray := by
      have := bk_new (w.alloc (.cells #[.int .i64 0, .int .i64 0, .int .i64 0, .int .i64 0, .int .i64 0, .bool false, .bool false, .int .u8 0, .int .u8 0, .int .u8 0, .int .u8 0, .int .u8 0, .int .u8 0, .int .u8 0, .int .u8 0, .string ⟨#[]⟩, .string ⟨#[]⟩] 29)) 29 #[.int .i64 0, .int .i64 0, .int .i64 0, .int .i64 0, .int .i64 0, .bool false, .bool false, .int .u8 0, .int .u8 0, .int .u8 0, .int .u8 0, .int .u8 0, .int .u8 0, .int .u8 0, .int .u8 0, .string ⟨#[]⟩, .string ⟨#[]⟩]
      rw [show (w.alloc (.cells #[.int .i64 0, .int .i64 0, .int .i64 0, .int .i64 0, .int .i64 0, .bool false, .bool false, .int .u8 0, .int .u8 0, .int .u8 0, .int .u8 0, .int .u8 0, .int .u8 0, .int .u8 0, .int .u8 0, .string ⟨#[]⟩, .string ⟨#[]⟩] 29)).heap.size = w.heap.size + 1 by simp] at this
      exact this
    have k4' := Bk.sets VZ 0 _ _ k4
    rw [HPVZ.out] at k4'
    exact ⟨k2.sets_other (by omega) 0 VZ, k4', below_sets VZ (by omega) 0 _ (((Below.refl _ _).alloc (Nat.le_refl _) _).alloc (by simp) _), by rw [size_sets]; simp; omega, by omega, Nat.le_refl _⟩
  have HPS0 := Lib.hid hp0
  have HVZ := Lib.hid hVZ
  clear hp0 hVZ
  go_enter Try.func21, Try.ntmps21
  go_upto_region 2 with (first | (refine Great.wpList_readTo rfl _ rfl (.agg VZ.toArray) (HBD.out _ _ _ _ _ _) ?_) | (refine wpList_store_mid rfl 29 _ _ rfl (w.heap.size + 1) 0 VZ.toArray rfl rfl ht0 HIVZ.out HOVZ.out ?_))
  clear ht0
  generalize ((w.alloc (.cells #[.int .i64 0, .int .i64 0, .int .i64 0, .int .i64 0, .int .i64 0, .bool false, .bool false, .int .u8 0, .int .u8 0, .int .u8 0, .int .u8 0, .int .u8 0, .int .u8 0, .int .u8 0, .int .u8 0, .string ⟨#[]⟩, .string ⟨#[]⟩] 29)).alloc (.cells #[.int .i64 0, .int .i64 0, .int .i64 0, .int .i64 0, .int .i64 0, .bool false, .bool false, .int .u8 0, .int .u8 0, .int .u8 0, .int .u8 0, .int .u8 0, .int .u8 0, .int .u8 0, .int .u8 0, .string ⟨#[]⟩, .string ⟨#[]⟩] 29)).setCells (w.heap.size + 1) 0 VZ = w0 at *
  have hr : w0.rangeAt (w.heap.size + 1) 0 VZ := HPS0.out.2.1.range
  have ht : w0.there w.heap.size 0 VZ.toArray.size := HPS0.out.1.there _ (Nat.le_refl _)
  go_wp2_with (first | (refine wpList_load_mid rfl 29 _ rfl (w.heap.size + 1) 0 rfl VZ _ hr Try.underlying29 rfl HIVZ.out ?_) | (refine wpList_store_mid rfl 29 _ _ rfl w.heap.size 0 VZ.toArray rfl rfl ht HIVZ.out HOVZ.out ?_))
  clear hr ht
  have hk := Bk.sets VZ 0 _ _ (show Bk w0 w.heap.size 29 pkt0.vals.toArray by rw [← HVZ.out]; exact HPS0.out.1)
  rw [HPVZ.out] at hk
  have hkr := hk.range
  refine bodyPost_ret (v := .tuple #[.agg VZ.toArray, .int .i64 8]) ?_ rfl ?_
  · exact results_cell2 rfl rfl rfl (run_loadVar_mid _ w.heap.size 0 29 VZ _ hkr Try.underlying29 rfl HIVZ.out)
  exact ⟨by rw [HVZ.out], below_sets _ (Nat.le_refl _) 0 _ HPS0.out.2.2.1⟩
set_option maxRecDepth 100000 in
set_option maxHeartbeats 400000 in
theorem rparse_cut (s : ByteArray) (w : World) (hs : s.size ≤ 70000) (h20 : 20 ≤ s.size) (hk : byN s 0 / 16 = 4) (h2 : 20 ≤ hdN s) (h3 : s.size < hdN s) :
    Calls Try.prog 21 #[.string s] w fun e w' => e = .returned (.tuple #[.agg pkt0.vals.toArray, .int .i64 7]) ∧ Below w.heap.size w w' := by
  have h00 : 0 < s.size := by omega
  have hN : (4 : Int) * ((s[0].toNat : Int) - 64) = ((hdN s : Nat) : Int) := by rw [← byN_at s 0 h00]; unfold hdN; omega
  have hn60 := hdN_le s
  clear hk
  generalize hdN s = N at *
  obtain ⟨VZ, hVZ⟩ : ∃ V, V = (pkt0).vals := ⟨_, rfl⟩
  have HIVZ : Hid ((Try.prog.info? 29).map (·.size) = some VZ.length) := Lib.hid (by rw [hVZ]; exact Try.infoIp (pkt0))
  have HOVZ : Hid (VZ.toArray.all (·.oneCell') = true) := Lib.hid (by rw [hVZ]; exact vals_one (pkt0))
  have HPVZ : Hid (∀ q : Pkt, puts q.vals.toArray 0 VZ = VZ.toArray) := Lib.hid (fun q => by rw [hVZ]; exact puts_all q (pkt0))
  have HSVZ : Hid (VZ.toArray.size = 17) := Lib.hid (by rw [hVZ]; rfl)
  have HEVZ : Hid (∀ W, (binOp .eql 29 (.agg VZ.toArray) (.agg VZ.toArray)).run Try.prog W = .ok (.bool true) W) := Lib.hid (fun W => by rw [hVZ]; exact eqlP (pkt0) W)
  have HBD : Hid (∀ (ρ : Operand → Value) (d : Option Tmp) (ty : TypeId) (ps : String) (af : Array Edge) (W : World), (execOp ρ { dst := d, op := .build 29 #[], type := ty, pos := ps, after := af, guard := none }).run Try.prog W = .ok (.value (.agg VZ.toArray)) W) := Lib.hid (fun ρ d ty ps af W => by rw [hVZ]; exact Try.execZ ρ d ty ps af W)
  have ht0 : ((w.alloc (.cells #[.int .i64 0, .int .i64 0, .int .i64 0, .int .i64 0, .int .i64 0, .bool false, .bool false, .int .u8 0, .int .u8 0, .int .u8 0, .int .u8 0, .int .u8 0, .int .u8 0, .int .u8 0, .int .u8 0, .string ⟨#[]⟩, .string ⟨#[]⟩] 29)).alloc (.cells #[.int .i64 0, .int .i64 0, .int .i64 0, .int .i64 0, .int .i64 0, .bool false, .bool false, .int .u8 0, .int .u8 0, .int .u8 0, .int .u8 0, .int .u8 0, .int .u8 0, .int .u8 0, .int .u8 0, .string ⟨#[]⟩, .string ⟨#[]⟩] 29)).there (w.heap.size + 1) 0 VZ.toArray.size := by
    rw [HSVZ.out]
    have := (bk_new (w.alloc (.cells #[.int .i64 0, .int .i64 0, .int .i64 0, .int .i64 0, .int .i64 0, .bool false, .bool false, .int .u8 0, .int .u8 0, .int .u8 0, .int .u8 0, .int .u8 0, .int .u8 0, .int .u8 0, .int .u8 0, .string ⟨#[]⟩, .string ⟨#[]⟩] 29)) 29 #[.int .i64 0, .int .i64 0, .int .i64 0, .int .i64 0, .int .i64 0, .bool false, .bool false, .int .u8 0, .int .u8 0, .int .u8 0, .int .u8 0, .int .u8 0, .int .u8 0, .int .u8 0, .int .u8 0, .string ⟨#[]⟩, .string ⟨#[]⟩]).there 17 (Nat.le_refl _)
    simpa using this
  have hp0 : PS w w.heap.size w.heap.size (w.heap.size + 1) VZ (((w.alloc (.cells #[.int .i64 0, .int .i64 0, .int .i64 0, .int .i64 0, .int .i64 0, .bool false, .bool false, .int .u8 0, .int .u8 0, .int .u8 0, .int .u8 0, .int .u8 0, .int .u8 0, .int .u8 0, .int .u8 0, .string ⟨#[]⟩, .string ⟨#[]⟩] 29)).alloc (.cells #[.int .i64 0, .int .i64 0, .int .i64 0, .int .i64 0, .int .i64 0, .bool false, .bool false, .int .u8 0, .int .u8 0, .int .u8 0, .int .u8 0, .int .u8 0, .int .u8 0, .int .u8 0, .int .u8 0, .string ⟨#[]⟩, .string ⟨#[]⟩] 29)).setCells (w.heap.size + 1) 0 VZ) := by
    have k2 : Bk ((w.alloc (.cells #[.int .i64 0, .int .i64 0, .int .i64 0, .int .i64 0, .int .i64 0, .bool false, .bool false, .int .u8 0, .int .u8 0, .int .u8 0, .int .u8 0, .int .u8 0, .int .u8 0, .int .u8 0, .int .u8 0, .string ⟨#[]⟩, .string ⟨#[]⟩] 29)).alloc (.cells #[.int .i64 0, .int .i64 0, .int .i64 0, .int .i64 0, .int .i64 0, .bool false, .bool false, .int .u8 0, .int .u8 0, .int .u8 0, .int .u8 0, .int .u8 0, .int .u8 0, .int .u8 0, .int .u8 0, .string ⟨#[]⟩, .string ⟨#[]⟩] 29)) w.heap.size 29 VZ.toArray := by rw [hVZ]; exact (bk_new w 29 #[.int .i64 0, .int .i64 0, .int .i64 0, .int .i64 0, .int .i64 0, .bool false, .bool false, .int .u8 0, .int .u8 0, .int .u8 0, .int .u8 0, .int .u8 0, .int .u8 0, .int .u8 0, .int .u8 0, .string ⟨#[]⟩, .string ⟨#[]⟩]).alloc _
    have k4 : Bk ((w.alloc (.cells #[.int .i64 0, .int .i64 0, .int .i64 0, .int .i64 0, .int .i64 0, .bool false, .bool false, .int .u8 0, .int .u8 0, .int .u8 0, .int .u8 0, .int .u8 0, .int .u8 0, .int .u8 0, .int .u8 0, .string ⟨#[]⟩, .string ⟨#[]⟩] 29)).alloc (.cells #[.int .i64 0, .int .i64 0, .int .i64 0, .int .i64 0, .int .i64 0, .bool false, .bool false, .int .u8 0, .int .u8 0, .int .u8 0, .int .u8 0, .int .u8 0, .int .u8 0, .int .u8 0, .int .u8 0, .string ⟨#[]⟩, .string ⟨#[]⟩] 29)) (w.heap.size + 1) 29 pkt0.vals.toArray := by
      have := bk_new (w.alloc (.cells #[.int .i64 0, .int .i64 0, .int .i64 0, .int .i64 0, .int .i64 0, .bool false, .bool false, .int .u8 0, .int .u8 0, .int .u8 0, .int .u8 0, .int .u8 0, .int .u8 0, .int .u8 0, .int .u8 0, .string ⟨#[]⟩, .string ⟨#[]⟩] 29)) 29 #[.int .i64 0, .int .i64 0, .int .i64 0, .int .i64 0, .int .i64 0, .bool false, .bool false, .int .u8 0, .int .u8 0, .int .u8 0, .int .u8 0, .int .u8 0, .int .u8 0, .int .u8 0, .int .u8 0, .string ⟨#[]⟩, .string ⟨#[]⟩]
      rw [show (w.alloc (.cells #[.int .i64 0, .int .i64 0, .int .i64 0, .int .i64 0, .int .i64 0, .bool false, .bool false, .int .u8 0, .int .u8 0, .int .u8 0, .int .u8 0, .int .u8 0, .int .u8 0, .int .u8 0, .int .u8 0, .string ⟨#[]⟩, .string ⟨#[]⟩] 29)).heap.size = w.heap.size + 1 by simp] at this
      exact this
    have k4' := Bk.sets VZ 0 _ _ k4
    rw [HPVZ.out] at k4'
    exact ⟨k2.sets_other (by omega) 0 VZ, k4', below_sets VZ (by omega) 0 _ (((Below.refl _ _).alloc (Nat.le_refl _) _).alloc (by simp) _), by rw [size_sets]; simp; omega, by omega, Nat.le_refl _⟩
  have HPS0 := Lib.hid hp0
  have HVZ := Lib.hid hVZ
  clear hp0 hVZ
  go_enter Try.func21, Try.ntmps21
  go_upto_region 2 with (first | (refine Great.wpList_readTo rfl _ rfl (.agg VZ.toArray) (HBD.out _ _ _ _ _ _) ?_) | (refine wpList_store_mid rfl 29 _ _ rfl (w.heap.size + 1) 0 VZ.toArray rfl rfl ht0 HIVZ.out HOVZ.out ?_))
  clear ht0
  generalize ((w.alloc (.cells #[.int .i64 0, .int .i64 0, .int .i64 0, .int .i64 0, .int .i64 0, .bool false, .bool false, .int .u8 0, .int .u8 0, .int .u8 0, .int .u8 0, .int .u8 0, .int .u8 0, .int .u8 0, .int .u8 0, .string ⟨#[]⟩, .string ⟨#[]⟩] 29)).alloc (.cells #[.int .i64 0, .int .i64 0, .int .i64 0, .int .i64 0, .int .i64 0, .bool false, .bool false, .int .u8 0, .int .u8 0, .int .u8 0, .int .u8 0, .int .u8 0, .int .u8 0, .int .u8 0, .int .u8 0, .string ⟨#[]⟩, .string ⟨#[]⟩] 29)).setCells (w.heap.size + 1) 0 VZ = w0 at *
  have hr : w0.rangeAt (w.heap.size + 1) 0 VZ := HPS0.out.2.1.range
  have ht : w0.there w.heap.size 0 VZ.toArray.size := HPS0.out.1.there _ (Nat.le_refl _)
  go_wp2_with (first | (refine wpList_load_mid rfl 29 _ rfl (w.heap.size + 1) 0 rfl VZ _ hr Try.underlying29 rfl HIVZ.out ?_) | (refine wpList_store_mid rfl 29 _ _ rfl w.heap.size 0 VZ.toArray rfl rfl ht HIVZ.out HOVZ.out ?_))
  clear hr ht
  have hk := Bk.sets VZ 0 _ _ (show Bk w0 w.heap.size 29 pkt0.vals.toArray by rw [← HVZ.out]; exact HPS0.out.1)
  rw [HPVZ.out] at hk
  have hkr := hk.range
  refine bodyPost_ret (v := .tuple #[.agg VZ.toArray, .int .i64 7]) ?_ rfl ?_
  · exact results_cell2 rfl rfl rfl (run_loadVar_mid _ w.heap.size 0 29 VZ _ hkr Try.underlying29 rfl HIVZ.out)
  exact ⟨by rw [HVZ.out], below_sets _ (Nat.le_refl _) 0 _ HPS0.out.2.2.1⟩
set_option maxRecDepth 100000 in
set_option maxHeartbeats 400000 in
theorem rparse_sum (s : ByteArray) (w : World) (hs : s.size ≤ 70000) (h20 : 20 ≤ s.size) (hk : byN s 0 / 16 = 4) (h2 : 20 ≤ hdN s) (h3 : hdN s ≤ s.size) (h4 : rightB (s.extract 0 (hdN s)).data.toList = false) :
    Calls Try.prog 21 #[.string s] w fun e w' => e = .returned (.tuple #[.agg pkt0.vals.toArray, .int .i64 9]) ∧ Below w.heap.size w w' := by
  have HOf := Lib.hid (fun W => rof_any (s.extract 0 (hdN s)) W (by simp; omega))
  have hq : (((sumL (s.extract 0 (hdN s)).data.toList : Nat) : Int) != 0) = true := by
    unfold rightB at h4
    rw [bne_iff_ne]
    rw [beq_eq_false_iff_ne] at h4
    exact h4
  have h00 : 0 < s.size := by omega
  have hN : (4 : Int) * ((s[0].toNat : Int) - 64) = ((hdN s : Nat) : Int) := by rw [← byN_at s 0 h00]; unfold hdN; omega
  have hn60 := hdN_le s
  clear hk
  clear h4
  generalize sumL (s.extract 0 (hdN s)).data.toList = Q at *
  generalize hdN s = N at *
  obtain ⟨VZ, hVZ⟩ : ∃ V, V = (pkt0).vals := ⟨_, rfl⟩
  have HIVZ : Hid ((Try.prog.info? 29).map (·.size) = some VZ.length) := Lib.hid (by rw [hVZ]; exact Try.infoIp (pkt0))
  have HOVZ : Hid (VZ.toArray.all (·.oneCell') = true) := Lib.hid (by rw [hVZ]; exact vals_one (pkt0))
  have HPVZ : Hid (∀ q : Pkt, puts q.vals.toArray 0 VZ = VZ.toArray) := Lib.hid (fun q => by rw [hVZ]; exact puts_all q (pkt0))
  have HSVZ : Hid (VZ.toArray.size = 17) := Lib.hid (by rw [hVZ]; rfl)
  have HEVZ : Hid (∀ W, (binOp .eql 29 (.agg VZ.toArray) (.agg VZ.toArray)).run Try.prog W = .ok (.bool true) W) := Lib.hid (fun W => by rw [hVZ]; exact eqlP (pkt0) W)
  have HBD : Hid (∀ (ρ : Operand → Value) (d : Option Tmp) (ty : TypeId) (ps : String) (af : Array Edge) (W : World), (execOp ρ { dst := d, op := .build 29 #[], type := ty, pos := ps, after := af, guard := none }).run Try.prog W = .ok (.value (.agg VZ.toArray)) W) := Lib.hid (fun ρ d ty ps af W => by rw [hVZ]; exact Try.execZ ρ d ty ps af W)
  have ht0 : ((w.alloc (.cells #[.int .i64 0, .int .i64 0, .int .i64 0, .int .i64 0, .int .i64 0, .bool false, .bool false, .int .u8 0, .int .u8 0, .int .u8 0, .int .u8 0, .int .u8 0, .int .u8 0, .int .u8 0, .int .u8 0, .string ⟨#[]⟩, .string ⟨#[]⟩] 29)).alloc (.cells #[.int .i64 0, .int .i64 0, .int .i64 0, .int .i64 0, .int .i64 0, .bool false, .bool false, .int .u8 0, .int .u8 0, .int .u8 0, .int .u8 0, .int .u8 0, .int .u8 0, .int .u8 0, .int .u8 0, .string ⟨#[]⟩, .string ⟨#[]⟩] 29)).there (w.heap.size + 1) 0 VZ.toArray.size := by
    rw [HSVZ.out]
    have := (bk_new (w.alloc (.cells #[.int .i64 0, .int .i64 0, .int .i64 0, .int .i64 0, .int .i64 0, .bool false, .bool false, .int .u8 0, .int .u8 0, .int .u8 0, .int .u8 0, .int .u8 0, .int .u8 0, .int .u8 0, .int .u8 0, .string ⟨#[]⟩, .string ⟨#[]⟩] 29)) 29 #[.int .i64 0, .int .i64 0, .int .i64 0, .int .i64 0, .int .i64 0, .bool false, .bool false, .int .u8 0, .int .u8 0, .int .u8 0, .int .u8 0, .int .u8 0, .int .u8 0, .int .u8 0, .int .u8 0, .string ⟨#[]⟩, .string ⟨#[]⟩]).there 17 (Nat.le_refl _)
    simpa using this
  have hp0 : PS w w.heap.size w.heap.size (w.heap.size + 1) VZ (((w.alloc (.cells #[.int .i64 0, .int .i64 0, .int .i64 0, .int .i64 0, .int .i64 0, .bool false, .bool false, .int .u8 0, .int .u8 0, .int .u8 0, .int .u8 0, .int .u8 0, .int .u8 0, .int .u8 0, .int .u8 0, .string ⟨#[]⟩, .string ⟨#[]⟩] 29)).alloc (.cells #[.int .i64 0, .int .i64 0, .int .i64 0, .int .i64 0, .int .i64 0, .bool false, .bool false, .int .u8 0, .int .u8 0, .int .u8 0, .int .u8 0, .int .u8 0, .int .u8 0, .int .u8 0, .int .u8 0, .string ⟨#[]⟩, .string ⟨#[]⟩] 29)).setCells (w.heap.size + 1) 0 VZ) := by
    have k2 : Bk ((w.alloc (.cells #[.int .i64 0, .int .i64 0, .int .i64 0, .int .i64 0, .int .i64 0, .bool false, .bool false, .int .u8 0, .int .u8 0, .int .u8 0, .int .u8 0, .int .u8 0, .int .u8 0, .int .u8 0, .int .u8 0, .string ⟨#[]⟩, .string ⟨#[]⟩] 29)).alloc (.cells #[.int .i64 0, .int .i64 0, .int .i64 0, .int .i64 0, .int .i64 0, .bool false, .bool false, .int .u8 0, .int .u8 0, .int .u8 0, .int .u8 0, .int .u8 0, .int .u8 0, .int .u8 0, .int .u8 0, .string ⟨#[]⟩, .string ⟨#[]⟩] 29)) w.heap.size 29 VZ.toArray := by rw [hVZ]; exact (bk_new w 29 #[.int .i64 0, .int .i64 0, .int .i64 0, .int .i64 0, .int .i64 0, .bool false, .bool false, .int .u8 0, .int .u8 0, .int .u8 0, .int .u8 0, .int .u8 0, .int .u8 0, .int .u8 0, .int .u8 0, .string ⟨#[]⟩, .string ⟨#[]⟩]).alloc _
    have k4 : Bk ((w.alloc (.cells #[.int .i64 0, .int .i64 0, .int .i64 0, .int .i64 0, .int .i64 0, .bool false, .bool false, .int .u8 0, .int .u8 0, .int .u8 0, .int .u8 0, .int .u8 0, .int .u8 0, .int .u8 0, .int .u8 0, .string ⟨#[]⟩, .string ⟨#[]⟩] 29)).alloc (.cells #[.int .i64 0, .int .i64 0, .int .i64 0, .int .i64 0, .int .i64 0, .bool false, .bool false, .int .u8 0, .int .u8 0, .int .u8 0, .int .u8 0, .int .u8 0, .int .u8 0, .int .u8 0, .int .u8 0, .string ⟨#[]⟩, .string ⟨#[]⟩] 29)) (w.heap.size + 1) 29 pkt0.vals.toArray := by
      have := bk_new (w.alloc (.cells #[.int .i64 0, .int .i64 0, .int .i64 0, .int .i64 0, .int .i64 0, .bool false, .bool false, .int .u8 0, .int .u8 0, .int .u8 0, .int .u8 0, .int .u8 0, .int .u8 0, .int .u8 0, .int .u8 0, .string ⟨#[]⟩, .string ⟨#[]⟩] 29)) 29 #[.int .i64 0, .int .i64 0, .int .i64 0, .int .i64 0, .int .i64 0, .bool false, .bool false, .int .u8 0, .int .u8 0, .int .u8 0, .int .u8 0, .int .u8 0, .int .u8 0, .int .u8 0, .int .u8 0, .string ⟨#[]⟩, .string ⟨#[]⟩]
      rw [show (w.alloc (.cells #[.int .i64 0, .int .i64 0, .int .i64 0, .int .i64 0, .int .i64 0, .bool false, .bool false, .int .u8 0, .int .u8 0, .int .u8 0, .int .u8 0, .int .u8 0, .int .u8 0, .int .u8 0, .int .u8 0, .string ⟨#[]⟩, .string ⟨#[]⟩] 29)).heap.size = w.heap.size + 1 by simp] at this
      exact this
    have k4' := Bk.sets VZ 0 _ _ k4
    rw [HPVZ.out] at k4'
    exact ⟨k2.sets_other (by omega) 0 VZ, k4', below_sets VZ (by omega) 0 _ (((Below.refl _ _).alloc (Nat.le_refl _) _).alloc (by simp) _), by rw [size_sets]; simp; omega, by omega, Nat.le_refl _⟩
  have HPS0 := Lib.hid hp0
  have HVZ := Lib.hid hVZ
  clear hp0 hVZ
  go_enter Try.func21, Try.ntmps21
  go_upto_region 2 with (first | (refine Great.wpList_readTo rfl _ rfl (.agg VZ.toArray) (HBD.out _ _ _ _ _ _) ?_) | (refine wpList_store_mid rfl 29 _ _ rfl (w.heap.size + 1) 0 VZ.toArray rfl rfl ht0 HIVZ.out HOVZ.out ?_))
  clear ht0
  generalize ((w.alloc (.cells #[.int .i64 0, .int .i64 0, .int .i64 0, .int .i64 0, .int .i64 0, .bool false, .bool false, .int .u8 0, .int .u8 0, .int .u8 0, .int .u8 0, .int .u8 0, .int .u8 0, .int .u8 0, .int .u8 0, .string ⟨#[]⟩, .string ⟨#[]⟩] 29)).alloc (.cells #[.int .i64 0, .int .i64 0, .int .i64 0, .int .i64 0, .int .i64 0, .bool false, .bool false, .int .u8 0, .int .u8 0, .int .u8 0, .int .u8 0, .int .u8 0, .int .u8 0, .int .u8 0, .int .u8 0, .string ⟨#[]⟩, .string ⟨#[]⟩] 29)).setCells (w.heap.size + 1) 0 VZ = w0 at *
  go_wp2_with fail
  refine (HOf.out _).mono ?_
  rintro e w1 ⟨rfl, b1⟩
  have HPS1 := Lib.hid (HPS0.out.below b1 (Nat.le_refl _))
  clear b1 HPS0
  have hr : w1.rangeAt (w.heap.size + 1) 0 VZ := HPS1.out.2.1.range
  have ht : w1.there w.heap.size 0 VZ.toArray.size := HPS1.out.1.there _ (Nat.le_refl _)
  go_wp2_with (first | (refine wpList_load_mid rfl 29 _ rfl (w.heap.size + 1) 0 rfl VZ _ hr Try.underlying29 rfl HIVZ.out ?_) | (refine wpList_store_mid rfl 29 _ _ rfl w.heap.size 0 VZ.toArray rfl rfl ht HIVZ.out HOVZ.out ?_))
  clear hr ht
  have hk := Bk.sets VZ 0 _ _ (show Bk w1 w.heap.size 29 pkt0.vals.toArray by rw [← HVZ.out]; exact HPS1.out.1)
  rw [HPVZ.out] at hk
  have hkr := hk.range
  refine bodyPost_ret (v := .tuple #[.agg VZ.toArray, .int .i64 9]) ?_ rfl ?_
  · exact results_cell2 rfl rfl rfl (run_loadVar_mid _ w.heap.size 0 29 VZ _ hkr Try.underlying29 rfl HIVZ.out)
  exact ⟨by rw [HVZ.out], below_sets _ (Nat.le_refl _) 0 _ HPS1.out.2.2.1⟩
set_option maxRecDepth 100000 in
set_option maxHeartbeats 400000 in
theorem rparse_less (s : ByteArray) (w : World) (hs : s.size ≤ 70000) (h20 : 20 ≤ s.size) (hk : byN s 0 / 16 = 4) (h2 : 20 ≤ hdN s) (h3 : hdN s ≤ s.size) (h4 : rightB (s.extract 0 (hdN s)).data.toList = true) (h5 : num2 s 2 < hdN s) :
    Calls Try.prog 21 #[.string s] w fun e w' => e = .returned (.tuple #[.agg pkt0.vals.toArray, .int .i64 8]) ∧ Below w.heap.size w w' := by
  have HOf := Lib.hid (fun W => rof_any (s.extract 0 (hdN s)) W (by simp; omega))
  have HNu := Lib.hid (fun W => rnumber_any s 2 W hs (by omega))
  have hq : sumL (s.extract 0 (hdN s)).data.toList = 0 := (rightB_iff _).1 h4
  have HOf' : Hid (∀ W, Calls Try.prog 22 #[.string (s.extract 0 (hdN s))] W fun e w' => e = .returned (.int .i64 0) ∧ Below W.heap.size W w') := Lib.hid (fun W => by have := HOf.out W; rw [hq] at this; exact this)
  have h00 : 0 < s.size := by omega
  have hN : (4 : Int) * ((s[0].toNat : Int) - 64) = ((hdN s : Nat) : Int) := by rw [← byN_at s 0 h00]; unfold hdN; omega
  have hn60 := hdN_le s
  clear hk
  clear h4 hq HOf
  generalize num2 s 2 = m at *
  generalize hdN s = N at *
  obtain ⟨VZ, hVZ⟩ : ∃ V, V = (pkt0).vals := ⟨_, rfl⟩
  have HIVZ : Hid ((Try.prog.info? 29).map (·.size) = some VZ.length) := Lib.hid (by rw [hVZ]; exact Try.infoIp (pkt0))
  have HOVZ : Hid (VZ.toArray.all (·.oneCell') = true) := Lib.hid (by rw [hVZ]; exact vals_one (pkt0))
  have HPVZ : Hid (∀ q : Pkt, puts q.vals.toArray 0 VZ = VZ.toArray) := Lib.hid (fun q => by rw [hVZ]; exact puts_all q (pkt0))
  have HSVZ : Hid (VZ.toArray.size = 17) := Lib.hid (by rw [hVZ]; rfl)
  have HEVZ : Hid (∀ W, (binOp .eql 29 (.agg VZ.toArray) (.agg VZ.toArray)).run Try.prog W = .ok (.bool true) W) := Lib.hid (fun W => by rw [hVZ]; exact eqlP (pkt0) W)
  have HBD : Hid (∀ (ρ : Operand → Value) (d : Option Tmp) (ty : TypeId) (ps : String) (af : Array Edge) (W : World), (execOp ρ { dst := d, op := .build 29 #[], type := ty, pos := ps, after := af, guard := none }).run Try.prog W = .ok (.value (.agg VZ.toArray)) W) := Lib.hid (fun ρ d ty ps af W => by rw [hVZ]; exact Try.execZ ρ d ty ps af W)
  have ht0 : ((w.alloc (.cells #[.int .i64 0, .int .i64 0, .int .i64 0, .int .i64 0, .int .i64 0, .bool false, .bool false, .int .u8 0, .int .u8 0, .int .u8 0, .int .u8 0, .int .u8 0, .int .u8 0, .int .u8 0, .int .u8 0, .string ⟨#[]⟩, .string ⟨#[]⟩] 29)).alloc (.cells #[.int .i64 0, .int .i64 0, .int .i64 0, .int .i64 0, .int .i64 0, .bool false, .bool false, .int .u8 0, .int .u8 0, .int .u8 0, .int .u8 0, .int .u8 0, .int .u8 0, .int .u8 0, .int .u8 0, .string ⟨#[]⟩, .string ⟨#[]⟩] 29)).there (w.heap.size + 1) 0 VZ.toArray.size := by
    rw [HSVZ.out]
    have := (bk_new (w.alloc (.cells #[.int .i64 0, .int .i64 0, .int .i64 0, .int .i64 0, .int .i64 0, .bool false, .bool false, .int .u8 0, .int .u8 0, .int .u8 0, .int .u8 0, .int .u8 0, .int .u8 0, .int .u8 0, .int .u8 0, .string ⟨#[]⟩, .string ⟨#[]⟩] 29)) 29 #[.int .i64 0, .int .i64 0, .int .i64 0, .int .i64 0, .int .i64 0, .bool false, .bool false, .int .u8 0, .int .u8 0, .int .u8 0, .int .u8 0, .int .u8 0, .int .u8 0, .int .u8 0, .int .u8 0, .string ⟨#[]⟩, .string ⟨#[]⟩]).there 17 (Nat.le_refl _)
    simpa using this
  have hp0 : PS w w.heap.size w.heap.size (w.heap.size + 1) VZ (((w.alloc (.cells #[.int .i64 0, .int .i64 0, .int .i64 0, .int .i64 0, .int .i64 0, .bool false, .bool false, .int .u8 0, .int .u8 0, .int .u8 0, .int .u8 0, .int .u8 0, .int .u8 0, .int .u8 0, .int .u8 0, .string ⟨#[]⟩, .string ⟨#[]⟩] 29)).alloc (.cells #[.int .i64 0, .int .i64 0, .int .i64 0, .int .i64 0, .int .i64 0, .bool false, .bool false, .int .u8 0, .int .u8 0, .int .u8 0, .int .u8 0, .int .u8 0, .int .u8 0, .int .u8 0, .int .u8 0, .string ⟨#[]⟩, .string ⟨#[]⟩] 29)).setCells (w.heap.size + 1) 0 VZ) := by
    have k2 : Bk ((w.alloc (.cells #[.int .i64 0, .int .i64 0, .int .i64 0, .int .i64 0, .int .i64 0, .bool false, .bool false, .int .u8 0, .int .u8 0, .int .u8 0, .int .u8 0, .int .u8 0, .int .u8 0, .int .u8 0, .int .u8 0, .string ⟨#[]⟩, .string ⟨#[]⟩] 29)).alloc (.cells #[.int .i64 0, .int .i64 0, .int .i64 0, .int .i64 0, .int .i64 0, .bool false, .bool false, .int .u8 0, .int .u8 0, .int .u8 0, .int .u8 0, .int .u8 0, .int .u8 0, .int .u8 0, .int .u8 0, .string ⟨#[]⟩, .string ⟨#[]⟩] 29)) w.heap.size 29 VZ.toArray := by rw [hVZ]; exact (bk_new w 29 #[.int .i64 0, .int .i64 0, .int .i64 0, .int .i64 0, .int .i64 0, .bool false, .bool false, .int .u8 0, .int .u8 0, .int .u8 0, .int .u8 0, .int .u8 0, .int .u8 0, .int .u8 0, .int .u8 0, .string ⟨#[]⟩, .string ⟨#[]⟩]).alloc _
    have k4 : Bk ((w.alloc (.cells #[.int .i64 0, .int .i64 0, .int .i64 0, .int .i64 0, .int .i64 0, .bool false, .bool false, .int .u8 0, .int .u8 0, .int .u8 0, .int .u8 0, .int .u8 0, .int .u8 0, .int .u8 0, .int .u8 0, .string ⟨#[]⟩, .string ⟨#[]⟩] 29)).alloc (.cells #[.int .i64 0, .int .i64 0, .int .i64 0, .int .i64 0, .int .i64 0, .bool false, .bool false, .int .u8 0, .int .u8 0, .int .u8 0, .int .u8 0, .int .u8 0, .int .u8 0, .int .u8 0, .int .u8 0, .string ⟨#[]⟩, .string ⟨#[]⟩] 29)) (w.heap.size + 1) 29 pkt0.vals.toArray := by
      have := bk_new (w.alloc (.cells #[.int .i64 0, .int .i64 0, .int .i64 0, .int .i64 0, .int .i64 0, .bool false, .bool false, .int .u8 0, .int .u8 0, .int .u8 0, .int .u8 0, .int .u8 0, .int .u8 0, .int .u8 0, .int .u8 0, .string ⟨#[]⟩, .string ⟨#[]⟩] 29)) 29 #[.int .i64 0, .int .i64 0, .int .i64 0, .int .i64 0, .int .i64 0, .bool false, .bool false, .int .u8 0, .int .u8 0, .int .u8 0, .int .u8 0, .int .u8 0, .int .u8 0, .int .u8 0, .int .u8 0, .string ⟨#[]⟩, .string ⟨#[]⟩]
      rw [show (w.alloc (.cells #[.int .i64 0, .int .i64 0, .int .i64 0, .int .i64 0, .int .i64 0, .bool false, .bool false, .int .u8 0, .int .u8 0, .int .u8 0, .int .u8 0, .int .u8 0, .int .u8 0, .int .u8 0, .int .u8 0, .string ⟨#[]⟩, .string ⟨#[]⟩] 29)).heap.size = w.heap.size + 1 by simp] at this
      exact this
    have k4' := Bk.sets VZ 0 _ _ k4
    rw [HPVZ.out] at k4'
    exact ⟨k2.sets_other (by omega) 0 VZ, k4', below_sets VZ (by omega) 0 _ (((Below.refl _ _).alloc (Nat.le_refl _) _).alloc (by simp) _), by rw [size_sets]; simp; omega, by omega, Nat.le_refl _⟩
  have HPS0 := Lib.hid hp0
  have HVZ := Lib.hid hVZ
  clear hp0 hVZ
  go_enter Try.func21, Try.ntmps21
  go_upto_region 2 with (first | (refine Great.wpList_readTo rfl _ rfl (.agg VZ.toArray) (HBD.out _ _ _ _ _ _) ?_) | (refine wpList_store_mid rfl 29 _ _ rfl (w.heap.size + 1) 0 VZ.toArray rfl rfl ht0 HIVZ.out HOVZ.out ?_))
  clear ht0
  generalize ((w.alloc (.cells #[.int .i64 0, .int .i64 0, .int .i64 0, .int .i64 0, .int .i64 0, .bool false, .bool false, .int .u8 0, .int .u8 0, .int .u8 0, .int .u8 0, .int .u8 0, .int .u8 0, .int .u8 0, .int .u8 0, .string ⟨#[]⟩, .string ⟨#[]⟩] 29)).alloc (.cells #[.int .i64 0, .int .i64 0, .int .i64 0, .int .i64 0, .int .i64 0, .bool false, .bool false, .int .u8 0, .int .u8 0, .int .u8 0, .int .u8 0, .int .u8 0, .int .u8 0, .int .u8 0, .int .u8 0, .string ⟨#[]⟩, .string ⟨#[]⟩] 29)).setCells (w.heap.size + 1) 0 VZ = w0 at *
  go_wp2_with fail
  refine (HOf'.out _).mono ?_
  rintro e w1 ⟨rfl, b1⟩
  have HPS1 := Lib.hid (HPS0.out.below b1 (Nat.le_refl _))
  clear b1 HPS0
  go_wp2_with fail
  refine (HNu.out _).mono ?_
  rintro e w2 ⟨rfl, b2⟩
  have HPS2 := Lib.hid (HPS1.out.below b2 (Nat.le_refl _))
  clear b2 HPS1
  have hr : w2.rangeAt (w.heap.size + 1) 0 VZ := HPS2.out.2.1.range
  have ht : w2.there w.heap.size 0 VZ.toArray.size := HPS2.out.1.there _ (Nat.le_refl _)
  go_wp2_with (first | (refine wpList_load_mid rfl 29 _ rfl (w.heap.size + 1) 0 rfl VZ _ hr Try.underlying29 rfl HIVZ.out ?_) | (refine wpList_store_mid rfl 29 _ _ rfl w.heap.size 0 VZ.toArray rfl rfl ht HIVZ.out HOVZ.out ?_))
  clear hr ht
  have hk := Bk.sets VZ 0 _ _ (show Bk w2 w.heap.size 29 pkt0.vals.toArray by rw [← HVZ.out]; exact HPS2.out.1)
  rw [HPVZ.out] at hk
  have hkr := hk.range
  refine bodyPost_ret (v := .tuple #[.agg VZ.toArray, .int .i64 8]) ?_ rfl ?_
  · exact results_cell2 rfl rfl rfl (run_loadVar_mid _ w.heap.size 0 29 VZ _ hkr Try.underlying29 rfl HIVZ.out)
  exact ⟨by rw [HVZ.out], below_sets _ (Nat.le_refl _) 0 _ HPS2.out.2.2.1⟩
set_option maxRecDepth 100000 in
set_option maxHeartbeats 400000 in
theorem rparse_want (s : ByteArray) (w : World) (hs : s.size ≤ 70000) (h20 : 20 ≤ s.size) (hk : byN s 0 / 16 = 4) (h2 : 20 ≤ hdN s) (h3 : hdN s ≤ s.size) (h4 : rightB (s.extract 0 (hdN s)).data.toList = true) (h5 : hdN s ≤ num2 s 2) (h6 : s.size < num2 s 2) :
    Calls Try.prog 21 #[.string s] w fun e w' => e = .returned (.tuple #[.agg pkt0.vals.toArray, .int .i64 7]) ∧ Below w.heap.size w w' := by
  have HOf := Lib.hid (fun W => rof_any (s.extract 0 (hdN s)) W (by simp; omega))
  have HNu := Lib.hid (fun W => rnumber_any s 2 W hs (by omega))
  have hq : sumL (s.extract 0 (hdN s)).data.toList = 0 := (rightB_iff _).1 h4
  have HOf' : Hid (∀ W, Calls Try.prog 22 #[.string (s.extract 0 (hdN s))] W fun e w' => e = .returned (.int .i64 0) ∧ Below W.heap.size W w') := Lib.hid (fun W => by have := HOf.out W; rw [hq] at this; exact this)
  have h00 : 0 < s.size := by omega
  have hN : (4 : Int) * ((s[0].toNat : Int) - 64) = ((hdN s : Nat) : Int) := by rw [← byN_at s 0 h00]; unfold hdN; omega
  have hn60 := hdN_le s
  clear hk
  clear h4 hq HOf
  generalize num2 s 2 = m at *
  generalize hdN s = N at *
  obtain ⟨VZ, hVZ⟩ : ∃ V, V = (pkt0).vals := ⟨_, rfl⟩
  have HIVZ : Hid ((Try.prog.info? 29).map (·.size) = some VZ.length) := Lib.hid (by rw [hVZ]; exact Try.infoIp (pkt0))
  have HOVZ : Hid (VZ.toArray.all (·.oneCell') = true) := Lib.hid (by rw [hVZ]; exact vals_one (pkt0))
  have HPVZ : Hid (∀ q : Pkt, puts q.vals.toArray 0 VZ = VZ.toArray) := Lib.hid (fun q => by rw [hVZ]; exact puts_all q (pkt0))
  have HSVZ : Hid (VZ.toArray.size = 17) := Lib.hid (by rw [hVZ]; rfl)
  have HEVZ : Hid (∀ W, (binOp .eql 29 (.agg VZ.toArray) (.agg VZ.toArray)).run Try.prog W = .ok (.bool true) W) := Lib.hid (fun W => by rw [hVZ]; exact eqlP (pkt0) W)
  have HBD : Hid (∀ (ρ : Operand → Value) (d : Option Tmp) (ty : TypeId) (ps : String) (af : Array Edge) (W : World), (execOp ρ { dst := d, op := .build 29 #[], type := ty, pos := ps, after := af, guard := none }).run Try.prog W = .ok (.value (.agg VZ.toArray)) W) := Lib.hid (fun ρ d ty ps af W => by rw [hVZ]; exact Try.execZ ρ d ty ps af W)
  have ht0 : ((w.alloc (.cells #[.int .i64 0, .int .i64 0, .int .i64 0, .int .i64 0, .int .i64 0, .bool false, .bool false, .int .u8 0, .int .u8 0, .int .u8 0, .int .u8 0, .int .u8 0, .int .u8 0, .int .u8 0, .int .u8 0, .string ⟨#[]⟩, .string ⟨#[]⟩] 29)).alloc (.cells #[.int .i64 0, .int .i64 0, .int .i64 0, .int .i64 0, .int .i64 0, .bool false, .bool false, .int .u8 0, .int .u8 0, .int .u8 0, .int .u8 0, .int .u8 0, .int .u8 0, .int .u8 0, .int .u8 0, .string ⟨#[]⟩, .string ⟨#[]⟩] 29)).there (w.heap.size + 1) 0 VZ.toArray.size := by
    rw [HSVZ.out]
    have := (bk_new (w.alloc (.cells #[.int .i64 0, .int .i64 0, .int .i64 0, .int .i64 0, .int .i64 0, .bool false, .bool false, .int .u8 0, .int .u8 0, .int .u8 0, .int .u8 0, .int .u8 0, .int .u8 0, .int .u8 0, .int .u8 0, .string ⟨#[]⟩, .string ⟨#[]⟩] 29)) 29 #[.int .i64 0, .int .i64 0, .int .i64 0, .int .i64 0, .int .i64 0, .bool false, .bool false, .int .u8 0, .int .u8 0, .int .u8 0, .int .u8 0, .int .u8 0, .int .u8 0, .int .u8 0, .int .u8 0, .string ⟨#[]⟩, .string ⟨#[]⟩]).there 17 (Nat.le_refl _)
    simpa using this
  have hp0 : PS w w.heap.size w.heap.size (w.heap.size + 1) VZ (((w.alloc (.cells #[.int .i64 0, .int .i64 0, .int .i64 0, .int .i64 0, .int .i64 0, .bool false, .bool false, .int .u8 0, .int .u8 0, .int .u8 0, .int .u8 0, .int .u8 0, .int .u8 0, .int .u8 0, .int .u8 0, .string ⟨#[]⟩, .string ⟨#[]⟩] 29)).alloc (.cells #[.int .i64 0, .int .i64 0, .int .i64 0, .int .i64 0, .int .i64 0, .bool false, .bool false, .int .u8 0, .int .u8 0, .int .u8 0, .int .u8 0, .int .u8 0, .int .u8 0, .int .u8 0, .int .u8 0, .string ⟨#[]⟩, .string ⟨#[]⟩] 29)).setCells (w.heap.size + 1) 0 VZ) := by
    have k2 : Bk ((w.alloc (.cells #[.int .i64 0, .int .i64 0, .int .i64 0, .int .i64 0, .int .i64 0, .bool false, .bool false, .int .u8 0, .int .u8 0, .int .u8 0, .int .u8 0, .int .u8 0, .int .u8 0, .int .u8 0, .int .u8 0, .string ⟨#[]⟩, .string ⟨#[]⟩] 29)).alloc (.cells #[.int .i64 0, .int .i64 0, .int .i64 0, .int .i64 0, .int .i64 0, .bool false, .bool false, .int .u8 0, .int .u8 0, .int .u8 0, .int .u8 0, .int .u8 0, .int .u8 0, .int .u8 0, .int .u8 0, .string ⟨#[]⟩, .string ⟨#[]⟩] 29)) w.heap.size 29 VZ.toArray := by rw [hVZ]; exact (bk_new w 29 #[.int .i64 0, .int .i64 0, .int .i64 0, .int .i64 0, .int .i64 0, .bool false, .bool false, .int .u8 0, .int .u8 0, .int .u8 0, .int .u8 0, .int .u8 0, .int .u8 0, .int .u8 0, .int .u8 0, .string ⟨#[]⟩, .string ⟨#[]⟩]).alloc _
    have k4 : Bk ((w.alloc (.cells #[.int .i64 0, .int .i64 0, .int .i64 0, .int .i64 0, .int .i64 0, .bool false, .bool false, .int .u8 0, .int .u8 0, .int .u8 0, .int .u8 0, .int .u8 0, .int .u8 0, .int .u8 0, .int .u8 0, .string ⟨#[]⟩, .string ⟨#[]⟩] 29)).alloc (.cells #[.int .i64 0, .int .i64 0, .int .i64 0, .int .i64 0, .int .i64 0, .bool false, .bool false, .int .u8 0, .int .u8 0, .int .u8 0, .int .u8 0, .int .u8 0, .int .u8 0, .int .u8 0, .int .u8 0, .string ⟨#[]⟩, .string ⟨#[]⟩] 29)) (w.heap.size + 1) 29 pkt0.vals.toArray := by
      have := bk_new (w.alloc (.cells #[.int .i64 0, .int .i64 0, .int .i64 0, .int .i64 0, .int .i64 0, .bool false, .bool false, .int .u8 0, .int .u8 0, .int .u8 0, .int .u8 0, .int .u8 0, .int .u8 0, .int .u8 0, .int .u8 0, .string ⟨#[]⟩, .string ⟨#[]⟩] 29)) 29 #[.int .i64 0, .int .i64 0, .int .i64 0, .int .i64 0, .int .i64 0, .bool false, .bool false, .int .u8 0, .int .u8 0, .int .u8 0, .int .u8 0, .int .u8 0, .int .u8 0, .int .u8 0, .int .u8 0, .string ⟨#[]⟩, .string ⟨#[]⟩]
      rw [show (w.alloc (.cells #[.int .i64 0, .int .i64 0, .int .i64 0, .int .i64 0, .int .i64 0, .bool false, .bool false, .int .u8 0, .int .u8 0, .int .u8 0, .int .u8 0, .int .u8 0, .int .u8 0, .int .u8 0, .int .u8 0, .string ⟨#[]⟩, .string ⟨#[]⟩] 29)).heap.size = w.heap.size + 1 by simp] at this
      exact this
    have k4' := Bk.sets VZ 0 _ _ k4
    rw [HPVZ.out] at k4'
    exact ⟨k2.sets_other (by omega) 0 VZ, k4', below_sets VZ (by omega) 0 _ (((Below.refl _ _).alloc (Nat.le_refl _) _).alloc (by simp) _), by rw [size_sets]; simp; omega, by omega, Nat.le_refl _⟩
  have HPS0 := Lib.hid hp0
  have HVZ := Lib.hid hVZ
  clear hp0 hVZ
  go_enter Try.func21, Try.ntmps21
  go_upto_region 2 with (first | (refine Great.wpList_readTo rfl _ rfl (.agg VZ.toArray) (HBD.out _ _ _ _ _ _) ?_) | (refine wpList_store_mid rfl 29 _ _ rfl (w.heap.size + 1) 0 VZ.toArray rfl rfl ht0 HIVZ.out HOVZ.out ?_))
  clear ht0
  generalize ((w.alloc (.cells #[.int .i64 0, .int .i64 0, .int .i64 0, .int .i64 0, .int .i64 0, .bool false, .bool false, .int .u8 0, .int .u8 0, .int .u8 0, .int .u8 0, .int .u8 0, .int .u8 0, .int .u8 0, .int .u8 0, .string ⟨#[]⟩, .string ⟨#[]⟩] 29)).alloc (.cells #[.int .i64 0, .int .i64 0, .int .i64 0, .int .i64 0, .int .i64 0, .bool false, .bool false, .int .u8 0, .int .u8 0, .int .u8 0, .int .u8 0, .int .u8 0, .int .u8 0, .int .u8 0, .int .u8 0, .string ⟨#[]⟩, .string ⟨#[]⟩] 29)).setCells (w.heap.size + 1) 0 VZ = w0 at *
  go_wp2_with fail
  refine (HOf'.out _).mono ?_
  rintro e w1 ⟨rfl, b1⟩
  have HPS1 := Lib.hid (HPS0.out.below b1 (Nat.le_refl _))
  clear b1 HPS0
  go_wp2_with fail
  refine (HNu.out _).mono ?_
  rintro e w2 ⟨rfl, b2⟩
  have HPS2 := Lib.hid (HPS1.out.below b2 (Nat.le_refl _))
  clear b2 HPS1
  have hr : w2.rangeAt (w.heap.size + 1) 0 VZ := HPS2.out.2.1.range
  have ht : w2.there w.heap.size 0 VZ.toArray.size := HPS2.out.1.there _ (Nat.le_refl _)
  go_wp2_with (first | (refine wpList_load_mid rfl 29 _ rfl (w.heap.size + 1) 0 rfl VZ _ hr Try.underlying29 rfl HIVZ.out ?_) | (refine wpList_store_mid rfl 29 _ _ rfl w.heap.size 0 VZ.toArray rfl rfl ht HIVZ.out HOVZ.out ?_))
  clear hr ht
  have hk := Bk.sets VZ 0 _ _ (show Bk w2 w.heap.size 29 pkt0.vals.toArray by rw [← HVZ.out]; exact HPS2.out.1)
  rw [HPVZ.out] at hk
  have hkr := hk.range
  refine bodyPost_ret (v := .tuple #[.agg VZ.toArray, .int .i64 7]) ?_ rfl ?_
  · exact results_cell2 rfl rfl rfl (run_loadVar_mid _ w.heap.size 0 29 VZ _ hkr Try.underlying29 rfl HIVZ.out)
  exact ⟨by rw [HVZ.out], below_sets _ (Nat.le_refl _) 0 _ HPS2.out.2.2.1⟩
theorem rparse_none (s : ByteArray) (w : World) (hs : s.size ≤ 70000) (hc : mcode s ≠ 0) :
    Calls Try.prog 21 #[.string s] w fun e w' => e = .returned (.tuple #[.agg pkt0.vals.toArray, .int .i64 (mcode s)]) ∧ Below w.heap.size w w' := by
  have hlt := byN_lt s 0
  by_cases h20 : s.size < 20
  · rw [show mcode s = 7 from if_pos h20]
    exact rparse_short s w hs h20
  by_cases hk : byN s 0 / 16 ≠ 4 ∨ hdN s < 20
  · rw [show mcode s = 8 by unfold mcode; rw [if_neg h20, if_pos hk]]
    have : byN s 0 < 69 ∨ 79 < byN s 0 := by unfold hdN at hk; omega
    rcases this with h | h
    · exact rparse_low s w hs (by omega) h
    · exact rparse_high s w hs (by omega) h
  by_cases h3 : s.size < hdN s
  · rw [show mcode s = 7 by unfold mcode; rw [if_neg h20, if_neg hk, if_pos h3]]
    exact rparse_cut s w hs (by omega) (by omega) (by omega) h3
  cases h4 : rightB (s.extract 0 (hdN s)).data.toList
  · rw [show mcode s = 9 by unfold mcode; rw [if_neg h20, if_neg hk, if_neg h3, if_pos h4]]
    exact rparse_sum s w hs (by omega) (by omega) (by omega) (by omega) h4
  by_cases h5 : num2 s 2 < hdN s
  · rw [show mcode s = 8 by unfold mcode; rw [if_neg h20, if_neg hk, if_neg h3, if_neg (by rw [h4]; decide), if_pos h5]]
    exact rparse_less s w hs (by omega) (by omega) (by omega) (by omega) h4 h5
  by_cases h6 : s.size < num2 s 2
  · rw [show mcode s = 7 by unfold mcode; rw [if_neg h20, if_neg hk, if_neg h3, if_neg (by rw [h4]; decide), if_neg h5, if_pos h6]]
    exact rparse_want s w hs (by omega) (by omega) (by omega) (by omega) h4 (by omega) h6
  · exact absurd (show mcode s = 0 by unfold mcode; rw [if_neg h20, if_neg hk, if_neg h3, if_neg (by rw [h4]; decide), if_neg h5, if_neg h6]) hc
end Go.Proofs.Ytjfkfeobmcnonaa
