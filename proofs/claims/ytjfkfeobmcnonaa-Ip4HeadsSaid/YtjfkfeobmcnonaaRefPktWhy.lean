/-
  Proved here: what the document's Parse answers of a text that has a measure: the packet may not be.
  Conditions: a text of at most 70000 bytes.
-/
import Derived.Test.YtjfkfeobmcnonaaRefPkt
namespace Go.Proofs.Ytjfkfeobmcnonaa
open Go.RowKit

set_option maxRecDepth 100000 in
set_option maxHeartbeats 1000000 in
theorem rpkt_why (s : ByteArray) (w : World) (hs : s.size ≤ 70000) (h20 : 20 ≤ s.size) (hk : byN s 0 / 16 = 4) (h2 : 20 ≤ hdN s) (h3 : hdN s ≤ s.size) (h4 : rightB (s.extract 0 (hdN s)).data.toList = true) (h5 : hdN s ≤ num2 s 2) (h6 : num2 s 2 ≤ s.size) (h7 : num2 s 6 < 32768) (hy : ((ppkt s).why != 0) = true) :
    Calls Try.prog 21 #[.string s] w fun e w' => e = .returned (.tuple #[.agg pkt0.vals.toArray, .int .i64 8]) ∧ Below w.heap.size w w' := by
  have HOf := Lib.hid (fun W => rof_any (s.extract 0 (hdN s)) W (by simp; omega))
  have HNu := Lib.hid (fun W => rnumber_any s 2 W hs (by omega))
  have hq : sumL (s.extract 0 (hdN s)).data.toList = 0 := (rightB_iff _).1 h4
  have HOf' : Hid (∀ W, Calls Try.prog 22 #[.string (s.extract 0 (hdN s))] W fun e w' => e = .returned (.int .i64 0) ∧ Below W.heap.size W w') := Lib.hid (fun W => by have := HOf.out W; rw [hq] at this; exact this)
  have z1 : 1 < s.size := by omega
  have z8 : 8 < s.size := by omega
  have z9 : 9 < s.size := by omega
  have z12 : 12 < s.size := by omega
  have z13 : 13 < s.size := by omega
  have z14 : 14 < s.size := by omega
  have z15 : 15 < s.size := by omega
  have z16 : 16 < s.size := by omega
  have z17 : 17 < s.size := by omega
  have z18 : 18 < s.size := by omega
  have z19 : 19 < s.size := by omega
  have HN6 := Lib.hid (fun W => rnumber_any s 6 W hs (by omega))
  have HN4 : Hid (∀ W, Calls Try.prog 39 #[.string s, .int .i64 4] W fun e w' => e = .returned (.int .i64 (num2 s 4 : Nat)) ∧ Below W.heap.size W w') := Lib.hid (fun W => rnumber_any s 4 W hs (by omega))
  have hdz : (ppkt s).data.size ≤ 70000 ∧ (ppkt s).opts.size ≤ 70000 := by
    rw [← ref_pkt s h20 h2 h5 h6]
    constructor
    · show (s.extract (hdN s) (num2 s 2)).size ≤ 70000
      simp
      omega
    · show (s.extract 20 (hdN s)).size ≤ 70000
      simp
      omega
  have hFin := ref_pkt s h20 h2 h5 h6
  have h00 : 0 < s.size := by omega
  have hN : (4 : Int) * ((s[0].toNat : Int) - 64) = ((hdN s : Nat) : Int) := by rw [← byN_at s 0 h00]; unfold hdN; omega
  have hn60 := hdN_le s
  clear hk
  have HFin := Lib.hid hFin
  have hm6 := num2_lt s 6
  clear hFin h4 hq HOf
  have HY := Lib.hid hy
  clear hy
  generalize ppkt s = P at *
  generalize num2 s 6 = m6 at *
  generalize num2 s 4 = m4 at *
  generalize num2 s 2 = M at *
  generalize hdN s = N at *
  obtain ⟨VB, hVB⟩ : ∃ V, V = ((⟨(s[1].toNat : Nat), (m4 : Nat), (s[8].toNat : Nat), (s[9].toNat : Nat), (m6 : Int) % 8192 * 8, ((m6 : Int) / 16384 % 2 == 1), ((m6 : Int) / 8192 % 2 == 1), 0, 0, 0, 0, 0, 0, 0, 0, s.extract 20 N, s.extract N M⟩ : Pkt)).vals := ⟨_, rfl⟩
  have HIVB : Hid ((Try.prog.info? 29).map (·.size) = some VB.length) := Lib.hid (by rw [hVB]; exact Try.infoIp ((⟨(s[1].toNat : Nat), (m4 : Nat), (s[8].toNat : Nat), (s[9].toNat : Nat), (m6 : Int) % 8192 * 8, ((m6 : Int) / 16384 % 2 == 1), ((m6 : Int) / 8192 % 2 == 1), 0, 0, 0, 0, 0, 0, 0, 0, s.extract 20 N, s.extract N M⟩ : Pkt)))
  have HOVB : Hid (VB.toArray.all (·.oneCell') = true) := Lib.hid (by rw [hVB]; exact vals_one ((⟨(s[1].toNat : Nat), (m4 : Nat), (s[8].toNat : Nat), (s[9].toNat : Nat), (m6 : Int) % 8192 * 8, ((m6 : Int) / 16384 % 2 == 1), ((m6 : Int) / 8192 % 2 == 1), 0, 0, 0, 0, 0, 0, 0, 0, s.extract 20 N, s.extract N M⟩ : Pkt)))
  have HPVB : Hid (∀ q : Pkt, puts q.vals.toArray 0 VB = VB.toArray) := Lib.hid (fun q => by rw [hVB]; exact puts_all q ((⟨(s[1].toNat : Nat), (m4 : Nat), (s[8].toNat : Nat), (s[9].toNat : Nat), (m6 : Int) % 8192 * 8, ((m6 : Int) / 16384 % 2 == 1), ((m6 : Int) / 8192 % 2 == 1), 0, 0, 0, 0, 0, 0, 0, 0, s.extract 20 N, s.extract N M⟩ : Pkt)))
  have HSVB : Hid (VB.toArray.size = 17) := Lib.hid (by rw [hVB]; rfl)
  have HEVB : Hid (∀ W, (binOp .eql 29 (.agg VB.toArray) (.agg VB.toArray)).run Try.prog W = .ok (.bool true) W) := Lib.hid (fun W => by rw [hVB]; exact eqlP ((⟨(s[1].toNat : Nat), (m4 : Nat), (s[8].toNat : Nat), (s[9].toNat : Nat), (m6 : Int) % 8192 * 8, ((m6 : Int) / 16384 % 2 == 1), ((m6 : Int) / 8192 % 2 == 1), 0, 0, 0, 0, 0, 0, 0, 0, s.extract 20 N, s.extract N M⟩ : Pkt)) W)
  obtain ⟨VP, hVP⟩ : ∃ V, V = (P).vals := ⟨_, rfl⟩
  have HIVP : Hid ((Try.prog.info? 29).map (·.size) = some VP.length) := Lib.hid (by rw [hVP]; exact Try.infoIp (P))
  have HOVP : Hid (VP.toArray.all (·.oneCell') = true) := Lib.hid (by rw [hVP]; exact vals_one (P))
  have HPVP : Hid (∀ q : Pkt, puts q.vals.toArray 0 VP = VP.toArray) := Lib.hid (fun q => by rw [hVP]; exact puts_all q (P))
  have HSVP : Hid (VP.toArray.size = 17) := Lib.hid (by rw [hVP]; rfl)
  have HEVP : Hid (∀ W, (binOp .eql 29 (.agg VP.toArray) (.agg VP.toArray)).run Try.prog W = .ok (.bool true) W) := Lib.hid (fun W => by rw [hVP]; exact eqlP (P) W)
  have HWy : Hid (∀ W, Calls Try.prog 38 #[.agg VP.toArray] W fun e w' => e = .returned (.int .i64 P.why) ∧ Below W.heap.size W w') := Lib.hid (fun W => by rw [hVP]; exact rwhy_any P W hdz.1 hdz.2)
  have HVB := Lib.hid hVB
  have HVP := Lib.hid hVP
  clear hVB hVP hdz
  obtain ⟨VZ, hVZ⟩ : ∃ V, V = (pkt0).vals := ⟨_, rfl⟩
  have HIVZ : Hid ((Try.prog.info? 29).map (·.size) = some VZ.length) := Lib.hid (by rw [hVZ]; exact Try.infoIp (pkt0))
  have HOVZ : Hid (VZ.toArray.all (·.oneCell') = true) := Lib.hid (by rw [hVZ]; exact vals_one (pkt0))
  have HPVZ : Hid (∀ q : Pkt, puts q.vals.toArray 0 VZ = VZ.toArray) := Lib.hid (fun q => by rw [hVZ]; exact puts_all q (pkt0))
  have HSVZ : Hid (VZ.toArray.size = 17) := Lib.hid (by rw [hVZ]; rfl)
  have HEVZ : Hid (∀ W, (binOp .eql 29 (.agg VZ.toArray) (.agg VZ.toArray)).run Try.prog W = .ok (.bool true) W) := Lib.hid (fun W => by rw [hVZ]; exact eqlP (pkt0) W)
  have HBD : Hid (∀ (ρ : Operand → Value) (d : Option Tmp) (ty : TypeId) (ps : String) (af : Array Edge) (W : World), (execOp ρ { dst := d, op := .build 29 #[], type := ty, pos := ps, after := af, guard := none }).run Try.prog W = .ok (.value (.agg VZ.toArray)) W) := Lib.hid (fun ρ d ty ps af W => by rw [hVZ]; exact Try.execZ ρ d ty ps af W)
  have ht0 : ((w.alloc (.cells #[.int .i64 0, .int .i64 0, .int .i64 0, .int .i64 0, .int .i64 0, .bool false, .bool false, .int .u8 0, .int .u8 0, .int .u8 0, .int .u8 0, .int .u8 0, .int .u8 0, .int .u8 0, .int .u8 0, .string ⟨#[]⟩, .string ⟨#[]⟩] 29)).alloc (.cells #[.int .i64 0, .int .i64 0, .int .i64 0, .int .i64 0, .int .i64 0, .bool false, .bool false, .int .u8 0, .int .u8 0, .int .u8 0, .int .u8 0, .int .u8 0, .int .u8 0, .int .u8 0, .int .u8 0, .string ⟨#[]⟩, .string ⟨#[]⟩] 29)).there (w.heap.size + 1) 0 VZ.toArray.size := by
    rw [HSVZ.out]
    have := (bk_new (w.alloc (.cells #[.int .i64 0, .int .i64 0, .int .i64 0, .int .i64 0, .int .i64 0, .bool false, .bool false, .int .u8 0, .int .u8 0, .int .u8 0, .int .u8 0, .int .u8 0, .int .u8 0, .int .u8 0, .int .u8 0, .string ⟨#[]⟩, .string ⟨#[]⟩] 29)) 29 #[.int .i64 0, .int .i64 0, .int .i64 0, .int .i64 0, .int .i64 0, .bool false, .bool false, .int .u8 0, .int .u8 0, .int .u8 0, .int .u8 0, .int .u8 0, .int .u8 0, .int .u8 0, .int .u8 0, .string ⟨#[]⟩, .string ⟨#[]⟩]).there 17 (Nat.le_refl _)
    simpa using this
  have hp0 : PS w w.heap.size w.heap.size (w.heap.size + 1) VZ (((w.alloc (.cells #[.int .i64 0, .int .i64 0, .int .i64 0, .int .i64 0, .int .i64 0, .bool false, .bool false, .int .u8 0, .int .u8 0, .int .u8 0, .int .u8 0, .int .u8 0, .int .u8 0, .int .u8 0, .int .u8 0, .string ⟨#[]⟩, .string ⟨#[]⟩] 29)).alloc (.cells #[.int .i64 0, .int .i64 0, .int .i64 0, .int .i64 0, .int .i64 0, .bool false, .bool false, .int .u8 0, .int .u8 0, .int .u8 0, .int .u8 0, .int .u8 0, .int .u8 0, .int .u8 0, .int .u8 0, .string ⟨#[]⟩, .string ⟨#[]⟩] 29)).setCells (w.heap.size + 1) 0 VZ) := by
    have k2 : Bk ((w.alloc (.cells #[.int .i64 0, .int .i64 0, .int .i64 0, .int .i64 0, .int .i64 0, .bool false, .bool false, .int .u8 0, .int .u8 0, .int .u8 0, .int .u8 0, .int .u8 0, .int .u8 0, .int .u8 0, .int .u8 0, .string ⟨#[]⟩, .string ⟨#[]⟩] 29)).alloc (.cells #[.int .i64 0, .int .i64 0, .int .i64 0, .int .i64 0, .int .i64 0, .bool false, .bool false, .int .u8 0, .int .u8 0, .int .u8 0, .int .u8 0, .int .u8 0, .int .u8 0, .int .u8 0, .int .u8 0, .string ⟨#[]⟩, .string ⟨#[]⟩] 29)) w.heap.size 29 VZ.toArray := by rw [hVZ]; exact (bk_new w 29 #[.int .i64 0, .int .i64 0, .int .i64 0, .int .i64 0, .int .i64 0, .bool false, .bool false, .int .u8 0, .int .u8 0, .int .u8 0, .int .u8 0, .int .u8 0, .int .u8 0, .int .u8 0, .int .u8 0, .string ⟨#[]⟩, .string ⟨#[]⟩]).alloc _
    have k4 : Bk ((w.alloc (.cells #[.int .i64 0, .int .i64 0, .int .i64 0, .int .i64 0, .int .i64 0, .bool false, .bool false, .int .u8 0, .int .u8 0, .int .u8 0, .int .u8 0, .int .u8 0, .int .u8 0, .int .u8 0, .int .u8 0, .string ⟨#[]⟩, .string ⟨#[]⟩] 29)).alloc (.cells #[.int .i64 0, .int .i64 0, .int .i64 0, .int .i64 0, .int .i64 0, .bool false, .bool false, .int .u8 0, .int .u8 0, .int .u8 0, .int .u8 0, .int .u8 0, .int .u8 0, .int .u8 0, .int .u8 0, .string ⟨#[]⟩, .string ⟨#[]⟩] 29)) (w.heap.size + 1) 29 pkt0.vals.toArray := by
      have := bk_new (w.alloc (.cells #[.int .i64 0, .int .i64 0, .int .i64 0, .int .i64 0, .int .i64 0, .bool false, .bool false, .int .u8 0, .int .u8 0, .int .u8 0, .int .u8 0, .int .u8 0, .int .u8 0, .int .u8 0, .int .u8 0, .string ⟨#[]⟩, .string ⟨#[]⟩] 29)) 29 #[.int .i64 0, .int .i64 0, .int .i64 0, .int .i64 0, .int .i64 0, .bool false, .bool false, .int .u8 0, .int .u8 0, .int .u8 0, .int .u8 0, .int .u8 0, .int .u8 0, .int .u8 0, .int .u8 0, .string ⟨#[]⟩, .string ⟨#[]⟩]
      rw [show (w.alloc (.cells #[.int .i64 0, .int .i64 0, .int .i64 0, .int .i64 0, .int .i64 0, .bool false, .bool false, .int .u8 0, .int .u8 0, .int .u8 0, .int .u8 0, .int .u8 0, .int .u8 0, .int .u8 0, .int .u8 0, .string ⟨#[]⟩, .string ⟨#[]⟩] 29)).heap.size = w.heap.size + 1 by simp] at this
      exact this
    have k4' := Bk.sets VZ 0 _ _ k4
    rw [HPVZ.out] at k4'
    exact ⟨k2.sets_other (by omega) 0 VZ, k4', below_sets VZ (by omega) 0 _ (((Below.refl _ _).alloc (Nat.le_refl _) _).alloc (by simp) _), by rw [size_sets]; simp; omega, by omega, Nat.le_refl _⟩
  have HPS0 := Lib.hid hp0
  have HVZ := Lib.hid hVZ
  clear hp0 hVZ
  go_enter Try.func21, Try.ntmps21
  go_upto_region 2 with (first | (refine Great.wpList_readTo rfl _ rfl (.agg VZ.toArray) (HBD.out _ _ _ _ _ _) ?_) | (refine wpList_store_mid rfl 29 _ _ rfl (w.heap.size + 1) 0 VZ.toArray rfl rfl ht0 HIVZ.out HOVZ.out ?_))
  clear ht0
  generalize ((w.alloc (.cells #[.int .i64 0, .int .i64 0, .int .i64 0, .int .i64 0, .int .i64 0, .bool false, .bool false, .int .u8 0, .int .u8 0, .int .u8 0, .int .u8 0, .int .u8 0, .int .u8 0, .int .u8 0, .int .u8 0, .string ⟨#[]⟩, .string ⟨#[]⟩] 29)).alloc (.cells #[.int .i64 0, .int .i64 0, .int .i64 0, .int .i64 0, .int .i64 0, .bool false, .bool false, .int .u8 0, .int .u8 0, .int .u8 0, .int .u8 0, .int .u8 0, .int .u8 0, .int .u8 0, .int .u8 0, .string ⟨#[]⟩, .string ⟨#[]⟩] 29)).setCells (w.heap.size + 1) 0 VZ = w0 at *
  go_wp2_with fail
  refine (HOf'.out _).mono ?_
  rintro e w1 ⟨rfl, b1⟩
  have HPS1 := Lib.hid (HPS0.out.below b1 (Nat.le_refl _))
  clear b1 HPS0
  go_wp2_with fail
  refine (HNu.out _).mono ?_
  rintro e w2 ⟨rfl, b2⟩
  have HPS2 := Lib.hid (HPS1.out.below b2 (Nat.le_refl _))
  clear b2 HPS1
  go_wp2_with fail
  refine (HN6.out _).mono ?_
  rintro e w3 ⟨rfl, b3⟩
  have HPS3 := Lib.hid (HPS2.out.below b3 (Nat.le_refl _))
  clear b3 HPS2
  go_wp2_with fail
  obtain ⟨B, hBd⟩ : ∃ B, B = w.heap.size := ⟨_, rfl⟩
  have hPS : PS w B w.heap.size (w.heap.size + 1) VZ w3 := by rw [hBd]; exact HPS3.out
  have HBd := Lib.hid hBd
  clear hBd HPS3
  generalize w.heap.size + 1 = b4 at hPS ⊢
  generalize w.heap.size = b2 at hPS ⊢
  have hlt2 := hPS.1.lt
  have hlt4 := hPS.2.1.lt
  have hAs := hPS.2.2.2.1
  have k1 : ((m6 : Nat) : Int).tmod 8192 = (m6 : Int) % 8192 := Int.tmod_eq_emod_of_nonneg (by omega)
  have k2 : IntKind.i64.wrap ((m6 : Int) % 8192 * 8) = (m6 : Int) % 8192 * 8 := IntWalk.i64_in _ (by omega)
  have k3 : ((m6 : Nat) : Int).tdiv 16384 = (m6 : Int) / 16384 := Int.tdiv_eq_ediv_of_nonneg (by omega)
  have k4 : IntKind.i64.wrap ((m6 : Int) / 16384) = (m6 : Int) / 16384 := IntWalk.i64_in _ (by omega)
  have k5 : ((m6 : Int) / 16384).tmod 2 = (m6 : Int) / 16384 % 2 := Int.tmod_eq_emod_of_nonneg (by omega)
  have k6 : ((m6 : Nat) : Int).tdiv 8192 = (m6 : Int) / 8192 := Int.tdiv_eq_ediv_of_nonneg (by omega)
  have k7 : IntKind.i64.wrap ((m6 : Int) / 8192) = (m6 : Int) / 8192 := IntWalk.i64_in _ (by omega)
  have k8 : ((m6 : Int) / 8192).tmod 2 = (m6 : Int) / 8192 % 2 := Int.tmod_eq_emod_of_nonneg (by omega)
  have j1 : IntKind.i64.wrap (s[1].toNat : Int) = (s[1].toNat : Int) := IntWalk.i64_in _ (by have := s[1].toNat_lt; omega)
  have j8 : IntKind.i64.wrap (s[8].toNat : Int) = (s[8].toNat : Int) := IntWalk.i64_in _ (by have := s[8].toNat_lt; omega)
  have j9 : IntKind.i64.wrap (s[9].toNat : Int) = (s[9].toNat : Int) := IntWalk.i64_in _ (by have := s[9].toNat_lt; omega)
  have y1 : (1 : Int) < (s.size : Int) := by omega
  have y8 : (8 : Int) < (s.size : Int) := by omega
  have y9 : (9 : Int) < (s.size : Int) := by omega
  have p1 : (20 : Int) ≤ (N : Int) := by omega
  have p2 : (N : Int) ≤ (s.size : Int) := by omega
  have p3 : (N : Int) ≤ (M : Int) := by omega
  have p4 : (M : Int) ≤ (s.size : Int) := by omega
  have p5 : (0 : Int) ≤ (N : Int) := by omega
  have p6 : (0 : Int) ≤ (M : Int) := by omega
  refine wp_region_noPanic ?_
  refine wp_region_held_drew (S := fun w' => PS w B b2 b4 VZ w') (by kernel_rfl) (hPS.below ((Below.refl w3.heap.size w3).drew) (Nat.le_refl _)) (fun hHeld => ?_)
  refine wpAnyH_take (i := 0) (oi := { dst := some 51, op := Op.move (Operand.tmp 0), type := 9, pos := "ref.go:99", after := #[], guard := none }) (v := ?_) rfl (by kernel_rfl) (by kernel_rfl) (by kernel_rfl) (fun _ _ _ h => h) (Or.inl ⟨by rfl, ?_⟩) (by assumption) ?_
  rotate_left
  · (intro ww hSw; (try dsimp only at hSw); go_simp; try with_reducible rfl)
  (try simp only [Act.put, List.setIfInBounds_toArray, List.set_cons_zero, List.set_cons_succ])
  refine wpAnyH_take (i := 1) (oi := { dst := some 52, op := Op.index 9 (Operand.tmp 51) (Operand.const (Value.int IntKind.i64 1)), type := 5, pos := "ref.go:99", after := #[{ on := 0, ground := Ground.data }], guard := none }) (v := ?_) rfl (by kernel_rfl) (by kernel_rfl) (by kernel_rfl) (fun _ _ _ h => h) (Or.inl ⟨by rfl, ?_⟩) (by assumption) ?_
  rotate_left
  · (intro ww hSw; (try dsimp only at hSw); go_simp; try with_reducible rfl)
  (try simp only [Act.put, List.setIfInBounds_toArray, List.set_cons_zero, List.set_cons_succ])
  refine wpAnyH_take (i := 2) (oi := { dst := some 53, op := Op.convert 5 3 (Operand.tmp 52), type := 3, pos := "ref.go:99", after := #[{ on := 1, ground := Ground.data }], guard := none }) (v := ?_) rfl (by kernel_rfl) (by kernel_rfl) (by kernel_rfl) (fun _ _ _ h => h) (Or.inl ⟨by rfl, ?_⟩) (by assumption) ?_
  rotate_left
  · (intro ww hSw; (try dsimp only at hSw); go_simp; try with_reducible rfl)
  (try simp only [Act.put, List.setIfInBounds_toArray, List.set_cons_zero, List.set_cons_succ])
  refine wpAnyH_take (i := 3) (oi := { dst := some 54, op := Op.move (Operand.tmp 0), type := 9, pos := "ref.go:99", after := #[], guard := none }) (v := ?_) rfl (by kernel_rfl) (by kernel_rfl) (by kernel_rfl) (fun _ _ _ h => h) (Or.inl ⟨by rfl, ?_⟩) (by assumption) ?_
  rotate_left
  · (intro ww hSw; (try dsimp only at hSw); go_simp; try with_reducible rfl)
  (try simp only [Act.put, List.setIfInBounds_toArray, List.set_cons_zero, List.set_cons_succ])
  refine wpAnyH_take (i := 5) (oi := { dst := some 56, op := Op.move (Operand.tmp 0), type := 9, pos := "ref.go:99", after := #[], guard := none }) (v := ?_) rfl (by kernel_rfl) (by kernel_rfl) (by kernel_rfl) (fun _ _ _ h => h) (Or.inl ⟨by rfl, ?_⟩) (by assumption) ?_
  rotate_left
  · (intro ww hSw; (try dsimp only at hSw); go_simp; try with_reducible rfl)
  (try simp only [Act.put, List.setIfInBounds_toArray, List.set_cons_zero, List.set_cons_succ])
  refine wpAnyH_take (i := 6) (oi := { dst := some 57, op := Op.index 9 (Operand.tmp 56) (Operand.const (Value.int IntKind.i64 8)), type := 5, pos := "ref.go:99", after := #[{ on := 5, ground := Ground.data }], guard := none }) (v := ?_) rfl (by kernel_rfl) (by kernel_rfl) (by kernel_rfl) (fun _ _ _ h => h) (Or.inl ⟨by rfl, ?_⟩) (by assumption) ?_
  rotate_left
  · (intro ww hSw; (try dsimp only at hSw); go_simp; try with_reducible rfl)
  (try simp only [Act.put, List.setIfInBounds_toArray, List.set_cons_zero, List.set_cons_succ])
  refine wpAnyH_take (i := 7) (oi := { dst := some 58, op := Op.convert 5 3 (Operand.tmp 57), type := 3, pos := "ref.go:99", after := #[{ on := 6, ground := Ground.data }], guard := none }) (v := ?_) rfl (by kernel_rfl) (by kernel_rfl) (by kernel_rfl) (fun _ _ _ h => h) (Or.inl ⟨by rfl, ?_⟩) (by assumption) ?_
  rotate_left
  · (intro ww hSw; (try dsimp only at hSw); go_simp; try with_reducible rfl)
  (try simp only [Act.put, List.setIfInBounds_toArray, List.set_cons_zero, List.set_cons_succ])
  refine wpAnyH_take (i := 8) (oi := { dst := some 59, op := Op.move (Operand.tmp 0), type := 9, pos := "ref.go:99", after := #[], guard := none }) (v := ?_) rfl (by kernel_rfl) (by kernel_rfl) (by kernel_rfl) (fun _ _ _ h => h) (Or.inl ⟨by rfl, ?_⟩) (by assumption) ?_
  rotate_left
  · (intro ww hSw; (try dsimp only at hSw); go_simp; try with_reducible rfl)
  (try simp only [Act.put, List.setIfInBounds_toArray, List.set_cons_zero, List.set_cons_succ])
  refine wpAnyH_take (i := 9) (oi := { dst := some 60, op := Op.index 9 (Operand.tmp 59) (Operand.const (Value.int IntKind.i64 9)), type := 5, pos := "ref.go:99", after := #[{ on := 8, ground := Ground.data }], guard := none }) (v := ?_) rfl (by kernel_rfl) (by kernel_rfl) (by kernel_rfl) (fun _ _ _ h => h) (Or.inl ⟨by rfl, ?_⟩) (by assumption) ?_
  rotate_left
  · (intro ww hSw; (try dsimp only at hSw); go_simp; try with_reducible rfl)
  (try simp only [Act.put, List.setIfInBounds_toArray, List.set_cons_zero, List.set_cons_succ])
  refine wpAnyH_take (i := 10) (oi := { dst := some 61, op := Op.convert 5 3 (Operand.tmp 60), type := 3, pos := "ref.go:99", after := #[{ on := 9, ground := Ground.data }], guard := none }) (v := ?_) rfl (by kernel_rfl) (by kernel_rfl) (by kernel_rfl) (fun _ _ _ h => h) (Or.inl ⟨by rfl, ?_⟩) (by assumption) ?_
  rotate_left
  · (intro ww hSw; (try dsimp only at hSw); go_simp; try with_reducible rfl)
  (try simp only [Act.put, List.setIfInBounds_toArray, List.set_cons_zero, List.set_cons_succ])
  refine wpAnyH_take (i := 11) (oi := { dst := some 62, op := Op.move (Operand.tmp 7), type := 3, pos := "ref.go:99", after := #[], guard := none }) (v := ?_) rfl (by kernel_rfl) (by kernel_rfl) (by kernel_rfl) (fun _ _ _ h => h) (Or.inl ⟨by rfl, ?_⟩) (by assumption) ?_
  rotate_left
  · (intro ww hSw; (try dsimp only at hSw); go_simp; try with_reducible rfl)
  (try simp only [Act.put, List.setIfInBounds_toArray, List.set_cons_zero, List.set_cons_succ])
  refine wpAnyH_take (i := 12) (oi := { dst := some 63, op := Op.binOp BinOp.rem 3 (Operand.tmp 62) (Operand.const (Value.int IntKind.i64 8192)) 3, type := 3, pos := "ref.go:99", after := #[{ on := 11, ground := Ground.data }], guard := none }) (v := ?_) rfl (by kernel_rfl) (by kernel_rfl) (by kernel_rfl) (fun _ _ _ h => h) (Or.inl ⟨by rfl, ?_⟩) (by assumption) ?_
  rotate_left
  · (intro ww hSw; (try dsimp only at hSw); go_simp; try with_reducible rfl)
  (try simp only [Act.put, List.setIfInBounds_toArray, List.set_cons_zero, List.set_cons_succ])
  refine wpAnyH_take (i := 13) (oi := { dst := some 64, op := Op.binOp BinOp.mul 3 (Operand.tmp 63) (Operand.const (Value.int IntKind.i64 8)) 3, type := 3, pos := "ref.go:99", after := #[{ on := 12, ground := Ground.data }], guard := none }) (v := ?_) rfl (by kernel_rfl) (by kernel_rfl) (by kernel_rfl) (fun _ _ _ h => h) (Or.inl ⟨by rfl, ?_⟩) (by assumption) ?_
  rotate_left
  · (intro ww hSw; (try dsimp only at hSw); go_simp; try with_reducible rfl)
  (try simp only [Act.put, List.setIfInBounds_toArray, List.set_cons_zero, List.set_cons_succ])
  refine wpAnyH_take (i := 14) (oi := { dst := some 65, op := Op.move (Operand.tmp 7), type := 3, pos := "ref.go:99", after := #[], guard := none }) (v := ?_) rfl (by kernel_rfl) (by kernel_rfl) (by kernel_rfl) (fun _ _ _ h => h) (Or.inl ⟨by rfl, ?_⟩) (by assumption) ?_
  rotate_left
  · (intro ww hSw; (try dsimp only at hSw); go_simp; try with_reducible rfl)
  (try simp only [Act.put, List.setIfInBounds_toArray, List.set_cons_zero, List.set_cons_succ])
  refine wpAnyH_take (i := 15) (oi := { dst := some 66, op := Op.binOp BinOp.quo 3 (Operand.tmp 65) (Operand.const (Value.int IntKind.i64 16384)) 3, type := 3, pos := "ref.go:99", after := #[{ on := 14, ground := Ground.data }], guard := none }) (v := ?_) rfl (by kernel_rfl) (by kernel_rfl) (by kernel_rfl) (fun _ _ _ h => h) (Or.inl ⟨by rfl, ?_⟩) (by assumption) ?_
  rotate_left
  · (intro ww hSw; (try dsimp only at hSw); go_simp; try with_reducible rfl)
  (try simp only [Act.put, List.setIfInBounds_toArray, List.set_cons_zero, List.set_cons_succ])
  refine wpAnyH_take (i := 16) (oi := { dst := some 67, op := Op.binOp BinOp.rem 3 (Operand.tmp 66) (Operand.const (Value.int IntKind.i64 2)) 3, type := 3, pos := "ref.go:99", after := #[{ on := 15, ground := Ground.data }], guard := none }) (v := ?_) rfl (by kernel_rfl) (by kernel_rfl) (by kernel_rfl) (fun _ _ _ h => h) (Or.inl ⟨by rfl, ?_⟩) (by assumption) ?_
  rotate_left
  · (intro ww hSw; (try dsimp only at hSw); go_simp; try with_reducible rfl)
  (try simp only [Act.put, List.setIfInBounds_toArray, List.set_cons_zero, List.set_cons_succ])
  refine wpAnyH_take (i := 17) (oi := { dst := some 68, op := Op.binOp BinOp.eql 3 (Operand.tmp 67) (Operand.const (Value.int IntKind.i64 1)) 3, type := 4, pos := "ref.go:99", after := #[{ on := 16, ground := Ground.data }], guard := none }) (v := ?_) rfl (by kernel_rfl) (by kernel_rfl) (by kernel_rfl) (fun _ _ _ h => h) (Or.inl ⟨by rfl, ?_⟩) (by assumption) ?_
  rotate_left
  · (intro ww hSw; (try dsimp only at hSw); go_simp; try with_reducible rfl)
  (try simp only [Act.put, List.setIfInBounds_toArray, List.set_cons_zero, List.set_cons_succ])
  refine wpAnyH_take (i := 18) (oi := { dst := some 69, op := Op.move (Operand.tmp 7), type := 3, pos := "ref.go:99", after := #[], guard := none }) (v := ?_) rfl (by kernel_rfl) (by kernel_rfl) (by kernel_rfl) (fun _ _ _ h => h) (Or.inl ⟨by rfl, ?_⟩) (by assumption) ?_
  rotate_left
  · (intro ww hSw; (try dsimp only at hSw); go_simp; try with_reducible rfl)
  (try simp only [Act.put, List.setIfInBounds_toArray, List.set_cons_zero, List.set_cons_succ])
  refine wpAnyH_take (i := 19) (oi := { dst := some 70, op := Op.binOp BinOp.quo 3 (Operand.tmp 69) (Operand.const (Value.int IntKind.i64 8192)) 3, type := 3, pos := "ref.go:99", after := #[{ on := 18, ground := Ground.data }], guard := none }) (v := ?_) rfl (by kernel_rfl) (by kernel_rfl) (by kernel_rfl) (fun _ _ _ h => h) (Or.inl ⟨by rfl, ?_⟩) (by assumption) ?_
  rotate_left
  · (intro ww hSw; (try dsimp only at hSw); go_simp; try with_reducible rfl)
  (try simp only [Act.put, List.setIfInBounds_toArray, List.set_cons_zero, List.set_cons_succ])
  refine wpAnyH_take (i := 20) (oi := { dst := some 71, op := Op.binOp BinOp.rem 3 (Operand.tmp 70) (Operand.const (Value.int IntKind.i64 2)) 3, type := 3, pos := "ref.go:99", after := #[{ on := 19, ground := Ground.data }], guard := none }) (v := ?_) rfl (by kernel_rfl) (by kernel_rfl) (by kernel_rfl) (fun _ _ _ h => h) (Or.inl ⟨by rfl, ?_⟩) (by assumption) ?_
  rotate_left
  · (intro ww hSw; (try dsimp only at hSw); go_simp; try with_reducible rfl)
  (try simp only [Act.put, List.setIfInBounds_toArray, List.set_cons_zero, List.set_cons_succ])
  refine wpAnyH_take (i := 21) (oi := { dst := some 72, op := Op.binOp BinOp.eql 3 (Operand.tmp 71) (Operand.const (Value.int IntKind.i64 1)) 3, type := 4, pos := "ref.go:99", after := #[{ on := 20, ground := Ground.data }], guard := none }) (v := ?_) rfl (by kernel_rfl) (by kernel_rfl) (by kernel_rfl) (fun _ _ _ h => h) (Or.inl ⟨by rfl, ?_⟩) (by assumption) ?_
  rotate_left
  · (intro ww hSw; (try dsimp only at hSw); go_simp; try with_reducible rfl)
  (try simp only [Act.put, List.setIfInBounds_toArray, List.set_cons_zero, List.set_cons_succ])
  refine wpAnyH_take (i := 22) (oi := { dst := some 73, op := Op.move (Operand.tmp 0), type := 9, pos := "ref.go:99", after := #[], guard := none }) (v := ?_) rfl (by kernel_rfl) (by kernel_rfl) (by kernel_rfl) (fun _ _ _ h => h) (Or.inl ⟨by rfl, ?_⟩) (by assumption) ?_
  rotate_left
  · (intro ww hSw; (try dsimp only at hSw); go_simp; try with_reducible rfl)
  (try simp only [Act.put, List.setIfInBounds_toArray, List.set_cons_zero, List.set_cons_succ])
  refine wpAnyH_take (i := 23) (oi := { dst := some 74, op := Op.move (Operand.tmp 5), type := 3, pos := "ref.go:99", after := #[], guard := none }) (v := ?_) rfl (by kernel_rfl) (by kernel_rfl) (by kernel_rfl) (fun _ _ _ h => h) (Or.inl ⟨by rfl, ?_⟩) (by assumption) ?_
  rotate_left
  · (intro ww hSw; (try dsimp only at hSw); go_simp; try with_reducible rfl)
  (try simp only [Act.put, List.setIfInBounds_toArray, List.set_cons_zero, List.set_cons_succ])
  refine wpAnyH_take (i := 24) (oi := { dst := some 75, op := Op.slice 9 (Operand.tmp 73) (some (Operand.const (Value.int IntKind.i64 20))) (some (Operand.tmp 74)) none, type := 9, pos := "ref.go:99", after := #[{ on := 22, ground := Ground.data }, { on := 23, ground := Ground.data }], guard := none }) (v := ?_) rfl (by kernel_rfl) (by kernel_rfl) (by kernel_rfl) (fun _ _ _ h => h) (Or.inl ⟨by rfl, ?_⟩) (by assumption) ?_
  rotate_left
  · (intro ww hSw; (try dsimp only at hSw); go_simp; try with_reducible rfl)
  (try simp only [Act.put, List.setIfInBounds_toArray, List.set_cons_zero, List.set_cons_succ])
  refine wpAnyH_take (i := 25) (oi := { dst := some 76, op := Op.move (Operand.tmp 0), type := 9, pos := "ref.go:99", after := #[], guard := none }) (v := ?_) rfl (by kernel_rfl) (by kernel_rfl) (by kernel_rfl) (fun _ _ _ h => h) (Or.inl ⟨by rfl, ?_⟩) (by assumption) ?_
  rotate_left
  · (intro ww hSw; (try dsimp only at hSw); go_simp; try with_reducible rfl)
  (try simp only [Act.put, List.setIfInBounds_toArray, List.set_cons_zero, List.set_cons_succ])
  refine wpAnyH_take (i := 26) (oi := { dst := some 77, op := Op.move (Operand.tmp 5), type := 3, pos := "ref.go:99", after := #[], guard := none }) (v := ?_) rfl (by kernel_rfl) (by kernel_rfl) (by kernel_rfl) (fun _ _ _ h => h) (Or.inl ⟨by rfl, ?_⟩) (by assumption) ?_
  rotate_left
  · (intro ww hSw; (try dsimp only at hSw); go_simp; try with_reducible rfl)
  (try simp only [Act.put, List.setIfInBounds_toArray, List.set_cons_zero, List.set_cons_succ])
  refine wpAnyH_take (i := 27) (oi := { dst := some 78, op := Op.move (Operand.tmp 6), type := 3, pos := "ref.go:99", after := #[], guard := none }) (v := ?_) rfl (by kernel_rfl) (by kernel_rfl) (by kernel_rfl) (fun _ _ _ h => h) (Or.inl ⟨by rfl, ?_⟩) (by assumption) ?_
  rotate_left
  · (intro ww hSw; (try dsimp only at hSw); go_simp; try with_reducible rfl)
  (try simp only [Act.put, List.setIfInBounds_toArray, List.set_cons_zero, List.set_cons_succ])
  refine wpAnyH_take (i := 28) (oi := { dst := some 79, op := Op.slice 9 (Operand.tmp 76) (some (Operand.tmp 77)) (some (Operand.tmp 78)) none, type := 9, pos := "ref.go:99", after := #[{ on := 25, ground := Ground.data }, { on := 26, ground := Ground.data }, { on := 27, ground := Ground.data }], guard := none }) (v := ?_) rfl (by kernel_rfl) (by kernel_rfl) (by kernel_rfl) (fun _ _ _ h => h) (Or.inl ⟨by rfl, ?_⟩) (by assumption) ?_
  rotate_left
  · (intro ww hSw; (try dsimp only at hSw); go_simp; try with_reducible rfl)
  (try simp only [Act.put, List.setIfInBounds_toArray, List.set_cons_zero, List.set_cons_succ])
  refine wpAnyH_ready (rs := [4, 30]) (by kernel_rfl) (by simp) ?_
  refine AllReadyH.cons (o := { dst := some 55, op := Op.call { callee := Callee.value (Operand.func 39), args := #[Operand.tmp 54, Operand.const (Value.int IntKind.i64 4)], argTypes := #[9, 3] }, type := 3, pos := "ref.go:99", after := #[{ on := 3, ground := Ground.data }], guard := none }) rfl (fun K hK => ?_) (AllReadyH.cons (o := { dst := some 8, op := Op.alloc 29, type := 0, pos := "ref.go:99", after := #[], guard := none }) rfl (fun K hK => ?_) AllReadyH.nil)
  · go_simp
    ((with_reducible refine (HN4.out _).mono ?_); rintro e w9 ⟨rfl, hb9⟩)
    refine hK.out _ _ (hHeld.below hb9 (Nat.le_refl _)) (fun hHeld => ?_)
    clear hK K
    (try simp only [Act.put, List.setIfInBounds_toArray, List.set_cons_zero, List.set_cons_succ])
    have hlt2 := hHeld.1.lt
    have hlt4 := hHeld.2.1.lt
    have hAs := hHeld.2.2.2.1
    refine wpAnyH_take (i := 29) (oi := { dst := some 80, op := Op.build 29 #[(0, Operand.tmp 53), (1, Operand.tmp 55), (2, Operand.tmp 58), (3, Operand.tmp 61), (4, Operand.tmp 64), (5, Operand.tmp 68), (6, Operand.tmp 72), (9, Operand.tmp 75), (10, Operand.tmp 79)], type := 29, pos := "ref.go:99", after := #[{ on := 2, ground := Ground.data }, { on := 4, ground := Ground.data }, { on := 7, ground := Ground.data }, { on := 10, ground := Ground.data }, { on := 13, ground := Ground.data }, { on := 17, ground := Ground.data }, { on := 21, ground := Ground.data }, { on := 24, ground := Ground.data }, { on := 28, ground := Ground.data }], guard := none }) (v := .agg VB.toArray) rfl (by kernel_rfl) (by kernel_rfl) (by kernel_rfl) (fun _ _ _ h => h) (Or.inl ⟨by rfl, fun ww _ => by rw [HVB.out]; kernel_rfl⟩) (by assumption) ?_
    (try simp only [Act.put, List.setIfInBounds_toArray, List.set_cons_zero, List.set_cons_succ])
    refine wpAnyH_ready (rs := [30]) (by kernel_rfl) (by simp) ?_
    refine AllReadyH.cons (o := { dst := some 8, op := Op.alloc 29, type := 0, pos := "ref.go:99", after := #[], guard := none }) rfl (fun K hK => ?_) AllReadyH.nil
    go_simp
    refine hK.out _ _ (hHeld.alloc _) (fun hHeld => ?_)
    clear hK K
    (try simp only [Act.put, List.setIfInBounds_toArray, List.set_cons_zero, List.set_cons_succ])
    refine wpAnyH_ready (rs := [31]) (by kernel_rfl) (by simp) ?_
    refine AllReadyH.cons (o := { dst := none, op := Op.store 29 (Operand.tmp 8) (Operand.tmp 80), type := 0, pos := "ref.go:99", after := #[{ on := 30, ground := Ground.data }, { on := 29, ground := Ground.data }, { on := 4, ground := Ground.chain }, { on := 0, ground := Ground.phase }, { on := 1, ground := Ground.phase }, { on := 2, ground := Ground.phase }, { on := 3, ground := Ground.phase }, { on := 4, ground := Ground.phase }, { on := 5, ground := Ground.phase }, { on := 6, ground := Ground.phase }, { on := 7, ground := Ground.phase }, { on := 8, ground := Ground.phase }, { on := 9, ground := Ground.phase }, { on := 10, ground := Ground.phase }, { on := 11, ground := Ground.phase }, { on := 12, ground := Ground.phase }, { on := 13, ground := Ground.phase }, { on := 14, ground := Ground.phase }, { on := 15, ground := Ground.phase }, { on := 16, ground := Ground.phase }, { on := 17, ground := Ground.phase }, { on := 18, ground := Ground.phase }, { on := 19, ground := Ground.phase }, { on := 20, ground := Ground.phase }, { on := 21, ground := Ground.phase }, { on := 22, ground := Ground.phase }, { on := 23, ground := Ground.phase }, { on := 24, ground := Ground.phase }, { on := 25, ground := Ground.phase }, { on := 26, ground := Ground.phase }, { on := 27, ground := Ground.phase }, { on := 28, ground := Ground.phase }, { on := 29, ground := Ground.phase }, { on := 30, ground := Ground.phase }], guard := none }) rfl (fun K hK => ?_) AllReadyH.nil
    rw [if_pos (by rfl)]
    have ht8 : (w9.alloc (.cells #[.int .i64 0, .int .i64 0, .int .i64 0, .int .i64 0, .int .i64 0, .bool false, .bool false, .int .u8 0, .int .u8 0, .int .u8 0, .int .u8 0, .int .u8 0, .int .u8 0, .int .u8 0, .int .u8 0, .string ⟨#[]⟩, .string ⟨#[]⟩] 29)).there w9.heap.size 0 VB.toArray.size := by rw [HSVB.out]; exact (bk_new w9 29 #[.int .i64 0, .int .i64 0, .int .i64 0, .int .i64 0, .int .i64 0, .bool false, .bool false, .int .u8 0, .int .u8 0, .int .u8 0, .int .u8 0, .int .u8 0, .int .u8 0, .int .u8 0, .int .u8 0, .string ⟨#[]⟩, .string ⟨#[]⟩]).there 17 (Nat.le_refl _)
    refine wp_store_mid 29 _ _ rfl w9.heap.size 0 VB.toArray rfl rfl ht8 HIVB.out HOVB.out ?_
    refine hK.out _ _ (hHeld.sets (by omega) (by omega) (by omega) 0 VB) (fun hHeld => ?_)
    clear hK K
    (try simp only [Act.put])
    have hK8 := Bk.sets VB 0 _ _ (show Bk _ w9.heap.size 29 pkt0.vals.toArray from bk_new w9 29 #[.int .i64 0, .int .i64 0, .int .i64 0, .int .i64 0, .int .i64 0, .bool false, .bool false, .int .u8 0, .int .u8 0, .int .u8 0, .int .u8 0, .int .u8 0, .int .u8 0, .int .u8 0, .int .u8 0, .string ⟨#[]⟩, .string ⟨#[]⟩])
    rw [HPVB.out] at hK8
    have d2 : b2 ≠ w9.heap.size := by omega
    have d4 : b4 ≠ w9.heap.size := by omega
    have dB : B ≤ w9.heap.size := by omega
    generalize (w9.alloc (.cells #[.int .i64 0, .int .i64 0, .int .i64 0, .int .i64 0, .int .i64 0, .bool false, .bool false, .int .u8 0, .int .u8 0, .int .u8 0, .int .u8 0, .int .u8 0, .int .u8 0, .int .u8 0, .int .u8 0, .string ⟨#[]⟩, .string ⟨#[]⟩] 29)).setCells w9.heap.size 0 VB = w10 at *
    generalize w9.heap.size = b8 at *
    refine wpAnyH_done (by kernel_rfl) ?_ _
    refine NoPanic.normal ?_
    clear k1 k2 k3 k4 k5 k6 k7 k8 j1 j8 j9
    have hq : Bk w10 b8 29 (⟨(s[1].toNat : Nat), (m4 : Nat), (s[8].toNat : Nat), (s[9].toNat : Nat), (m6 : Int) % 8192 * 8, ((m6 : Int) / 16384 % 2 == 1), ((m6 : Int) / 8192 % 2 == 1), 0, 0, 0, 0, 0, 0, 0, 0, s.extract 20 N, s.extract N M⟩ : Pkt).vals.toArray := by rw [← HVB.out]; exact hK8
    have c7 : w10.cell? ⟨b8, 7, none⟩ = some (.int .u8 0) := hq.c 7 _ rfl
    have c8 : w10.cell? ⟨b8, 8, none⟩ = some (.int .u8 0) := hq.c 8 _ rfl
    have c9 : w10.cell? ⟨b8, 9, none⟩ = some (.int .u8 0) := hq.c 9 _ rfl
    have c10 : w10.cell? ⟨b8, 10, none⟩ = some (.int .u8 0) := hq.c 10 _ rfl
    have c11 : w10.cell? ⟨b8, 11, none⟩ = some (.int .u8 0) := hq.c 11 _ rfl
    have c12 : w10.cell? ⟨b8, 12, none⟩ = some (.int .u8 0) := hq.c 12 _ rfl
    have c13 : w10.cell? ⟨b8, 13, none⟩ = some (.int .u8 0) := hq.c 13 _ rfl
    have c14 : w10.cell? ⟨b8, 14, none⟩ = some (.int .u8 0) := hq.c 14 _ rfl
    have zz7 := hq.z 7
    have zz8 := hq.z 8
    have zz9 := hq.z 9
    have zz10 := hq.z 10
    have zz11 := hq.z 11
    have zz12 := hq.z 12
    have zz13 := hq.z 13
    have zz14 := hq.z 14
    have hKf := (Bk.setP (Bk.setP (Bk.setP (Bk.setP (Bk.setP (Bk.setP (Bk.setP (Bk.setP hq 7 (.int .u8 (s[12].toNat : Int)) (⟨(s[1].toNat : Nat), (m4 : Nat), (s[8].toNat : Nat), (s[9].toNat : Nat), (m6 : Int) % 8192 * 8, ((m6 : Int) / 16384 % 2 == 1), ((m6 : Int) / 8192 % 2 == 1), (s[12].toNat : Nat), 0, 0, 0, 0, 0, 0, 0, s.extract 20 N, s.extract N M⟩ : Pkt) rfl) 11 (.int .u8 (s[16].toNat : Int)) (⟨(s[1].toNat : Nat), (m4 : Nat), (s[8].toNat : Nat), (s[9].toNat : Nat), (m6 : Int) % 8192 * 8, ((m6 : Int) / 16384 % 2 == 1), ((m6 : Int) / 8192 % 2 == 1), (s[12].toNat : Nat), 0, 0, 0, (s[16].toNat : Nat), 0, 0, 0, s.extract 20 N, s.extract N M⟩ : Pkt) rfl) 8 (.int .u8 (s[13].toNat : Int)) (⟨(s[1].toNat : Nat), (m4 : Nat), (s[8].toNat : Nat), (s[9].toNat : Nat), (m6 : Int) % 8192 * 8, ((m6 : Int) / 16384 % 2 == 1), ((m6 : Int) / 8192 % 2 == 1), (s[12].toNat : Nat), (s[13].toNat : Nat), 0, 0, (s[16].toNat : Nat), 0, 0, 0, s.extract 20 N, s.extract N M⟩ : Pkt) rfl) 12 (.int .u8 (s[17].toNat : Int)) (⟨(s[1].toNat : Nat), (m4 : Nat), (s[8].toNat : Nat), (s[9].toNat : Nat), (m6 : Int) % 8192 * 8, ((m6 : Int) / 16384 % 2 == 1), ((m6 : Int) / 8192 % 2 == 1), (s[12].toNat : Nat), (s[13].toNat : Nat), 0, 0, (s[16].toNat : Nat), (s[17].toNat : Nat), 0, 0, s.extract 20 N, s.extract N M⟩ : Pkt) rfl) 9 (.int .u8 (s[14].toNat : Int)) (⟨(s[1].toNat : Nat), (m4 : Nat), (s[8].toNat : Nat), (s[9].toNat : Nat), (m6 : Int) % 8192 * 8, ((m6 : Int) / 16384 % 2 == 1), ((m6 : Int) / 8192 % 2 == 1), (s[12].toNat : Nat), (s[13].toNat : Nat), (s[14].toNat : Nat), 0, (s[16].toNat : Nat), (s[17].toNat : Nat), 0, 0, s.extract 20 N, s.extract N M⟩ : Pkt) rfl) 13 (.int .u8 (s[18].toNat : Int)) (⟨(s[1].toNat : Nat), (m4 : Nat), (s[8].toNat : Nat), (s[9].toNat : Nat), (m6 : Int) % 8192 * 8, ((m6 : Int) / 16384 % 2 == 1), ((m6 : Int) / 8192 % 2 == 1), (s[12].toNat : Nat), (s[13].toNat : Nat), (s[14].toNat : Nat), 0, (s[16].toNat : Nat), (s[17].toNat : Nat), (s[18].toNat : Nat), 0, s.extract 20 N, s.extract N M⟩ : Pkt) rfl) 10 (.int .u8 (s[15].toNat : Int)) (⟨(s[1].toNat : Nat), (m4 : Nat), (s[8].toNat : Nat), (s[9].toNat : Nat), (m6 : Int) % 8192 * 8, ((m6 : Int) / 16384 % 2 == 1), ((m6 : Int) / 8192 % 2 == 1), (s[12].toNat : Nat), (s[13].toNat : Nat), (s[14].toNat : Nat), (s[15].toNat : Nat), (s[16].toNat : Nat), (s[17].toNat : Nat), (s[18].toNat : Nat), 0, s.extract 20 N, s.extract N M⟩ : Pkt) rfl) 14 (.int .u8 (s[19].toNat : Int)) (⟨(s[1].toNat : Nat), (m4 : Nat), (s[8].toNat : Nat), (s[9].toNat : Nat), (m6 : Int) % 8192 * 8, ((m6 : Int) / 16384 % 2 == 1), ((m6 : Int) / 8192 % 2 == 1), (s[12].toNat : Nat), (s[13].toNat : Nat), (s[14].toNat : Nat), (s[15].toNat : Nat), (s[16].toNat : Nat), (s[17].toNat : Nat), (s[18].toNat : Nat), (s[19].toNat : Nat), s.extract 20 N, s.extract N M⟩ : Pkt) rfl)
    have hPf := ((((((((hHeld.set d2 d4 dB 7 (.int .u8 (s[12].toNat : Int))).set d2 d4 dB 11 (.int .u8 (s[16].toNat : Int))).set d2 d4 dB 8 (.int .u8 (s[13].toNat : Int))).set d2 d4 dB 12 (.int .u8 (s[17].toNat : Int))).set d2 d4 dB 9 (.int .u8 (s[14].toNat : Int))).set d2 d4 dB 13 (.int .u8 (s[18].toNat : Int))).set d2 d4 dB 10 (.int .u8 (s[15].toNat : Int))).set d2 d4 dB 14 (.int .u8 (s[19].toNat : Int)))
    rw [HFin.out, ← HVP.out] at hKf
    have HKf := Lib.hid hKf
    have HPf := Lib.hid hPf
    clear hKf hPf hq hK8 hHeld
    have y12 : (12 : Int) < (s.size : Int) := by omega
    have y13 : (13 : Int) < (s.size : Int) := by omega
    have y14 : (14 : Int) < (s.size : Int) := by omega
    have y15 : (15 : Int) < (s.size : Int) := by omega
    have y16 : (16 : Int) < (s.size : Int) := by omega
    have y17 : (17 : Int) < (s.size : Int) := by omega
    have y18 : (18 : Int) < (s.size : Int) := by omega
    have y19 : (19 : Int) < (s.size : Int) := by omega
    go_wp2_with fail
    refine wp_loop_rounds 5 ?_
    rw [rounds_succ]
    go_wp2_with fail
    rw [rounds_succ]
    go_wp2_with fail
    rw [rounds_succ]
    go_wp2_with fail
    rw [rounds_succ]
    go_wp2_with fail
    rw [rounds_succ]
    go_upto_region 23 with (fail)
    clear c7 zz7 c8 zz8 c9 zz9 c10 zz10 c11 zz11 c12 zz12 c13 zz13 c14 zz14
    generalize (((((((w10.setCell ⟨b8, 7, none⟩ (.int .u8 (s[12].toNat : Int))).setCell ⟨b8, 11, none⟩ (.int .u8 (s[16].toNat : Int))).setCell ⟨b8, 8, none⟩ (.int .u8 (s[13].toNat : Int))).setCell ⟨b8, 12, none⟩ (.int .u8 (s[17].toNat : Int))).setCell ⟨b8, 9, none⟩ (.int .u8 (s[14].toNat : Int))).setCell ⟨b8, 13, none⟩ (.int .u8 (s[18].toNat : Int))).setCell ⟨b8, 10, none⟩ (.int .u8 (s[15].toNat : Int))).setCell ⟨b8, 14, none⟩ (.int .u8 (s[19].toNat : Int)) = w11 at *
    have hb7 : decide ((32768 : Int) ≤ (m6 : Int)) = false := by rw [decide_eq_false_iff_not]; omega
    clear h7 hm6
    have hr8 : w11.rangeAt b8 0 VP := HKf.out.range
    go_wp2_with (refine wpList_load_if (by rfl) 29 _ rfl b8 0 rfl VP _ hr8 Try.underlying29 rfl HIVP.out ?_)
    refine (HWy.out _).mono ?_
    rintro e w12 ⟨rfl, b12⟩
    have HPg := Lib.hid (HPf.out.below b12 (Nat.le_refl _))
    have HKg := Lib.hid (HKf.out.below b12 HKf.out.lt)
    clear b12 HPf HKf hr8
    have hy := HY.out
    go_upto_region 24 with (fail)
    have hr : w12.rangeAt b4 0 VZ := HPg.out.2.1.range
    have ht : w12.there b2 0 VZ.toArray.size := HPg.out.1.there _ (Nat.le_refl _)
    go_wp2_with (first | (refine wpList_load_mid rfl 29 _ rfl b4 0 rfl VZ _ hr Try.underlying29 rfl HIVZ.out ?_) | (refine wpList_store_mid rfl 29 _ _ rfl b2 0 VZ.toArray rfl rfl ht HIVZ.out HOVZ.out ?_))
    clear hr ht
    have hk9 := Bk.sets VZ 0 _ _ (show Bk w12 b2 29 pkt0.vals.toArray by rw [← HVZ.out]; exact HPg.out.1)
    rw [HPVZ.out] at hk9
    have hkr := hk9.range
    have hfb := below_sets (b := b2) VZ HPg.out.2.2.2.2.2 0 _ HPg.out.2.2.1
    rw [HBd.out] at hfb
    refine bodyPost_ret (v := .tuple #[.agg VZ.toArray, .int .i64 8]) ?_ rfl ?_
    · exact results_cell2 rfl rfl rfl (run_loadVar_mid _ b2 0 29 VZ _ hkr Try.underlying29 rfl HIVZ.out)
    exact ⟨by rw [HVZ.out], hfb⟩
  · go_simp
    refine hK.out _ _ (hHeld.alloc _) (fun hHeld => ?_)
    clear hK K
    (try simp only [Act.put, List.setIfInBounds_toArray, List.set_cons_zero, List.set_cons_succ])
    refine wpAnyH_ready (rs := [4]) (by kernel_rfl) (by simp) ?_
    refine AllReadyH.cons (o := { dst := some 55, op := Op.call { callee := Callee.value (Operand.func 39), args := #[Operand.tmp 54, Operand.const (Value.int IntKind.i64 4)], argTypes := #[9, 3] }, type := 3, pos := "ref.go:99", after := #[{ on := 3, ground := Ground.data }], guard := none }) rfl (fun K hK => ?_) AllReadyH.nil
    go_simp
    ((with_reducible refine (HN4.out _).mono ?_); rintro e w9 ⟨rfl, hb9⟩)
    refine hK.out _ _ (hHeld.below hb9 (by simp)) (fun hHeld => ?_)
    clear hK K
    (try simp only [Act.put, List.setIfInBounds_toArray, List.set_cons_zero, List.set_cons_succ])
    have hK7 := Bk.below (w := (w3.alloc (.cells #[.int .i64 0, .int .i64 0, .int .i64 0, .int .i64 0, .int .i64 0, .bool false, .bool false, .int .u8 0, .int .u8 0, .int .u8 0, .int .u8 0, .int .u8 0, .int .u8 0, .int .u8 0, .int .u8 0, .string ⟨#[]⟩, .string ⟨#[]⟩] 29)).drew) (bk_new w3 29 #[.int .i64 0, .int .i64 0, .int .i64 0, .int .i64 0, .int .i64 0, .bool false, .bool false, .int .u8 0, .int .u8 0, .int .u8 0, .int .u8 0, .int .u8 0, .int .u8 0, .int .u8 0, .int .u8 0, .string ⟨#[]⟩, .string ⟨#[]⟩]) hb9 (by simp)
    refine wpAnyH_take (i := 29) (oi := { dst := some 80, op := Op.build 29 #[(0, Operand.tmp 53), (1, Operand.tmp 55), (2, Operand.tmp 58), (3, Operand.tmp 61), (4, Operand.tmp 64), (5, Operand.tmp 68), (6, Operand.tmp 72), (9, Operand.tmp 75), (10, Operand.tmp 79)], type := 29, pos := "ref.go:99", after := #[{ on := 2, ground := Ground.data }, { on := 4, ground := Ground.data }, { on := 7, ground := Ground.data }, { on := 10, ground := Ground.data }, { on := 13, ground := Ground.data }, { on := 17, ground := Ground.data }, { on := 21, ground := Ground.data }, { on := 24, ground := Ground.data }, { on := 28, ground := Ground.data }], guard := none }) (v := .agg VB.toArray) rfl (by kernel_rfl) (by kernel_rfl) (by kernel_rfl) (fun _ _ _ h => h) (Or.inl ⟨by rfl, fun ww _ => by rw [HVB.out]; kernel_rfl⟩) (by assumption) ?_
    (try simp only [Act.put, List.setIfInBounds_toArray, List.set_cons_zero, List.set_cons_succ])
    refine wpAnyH_ready (rs := [31]) (by kernel_rfl) (by simp) ?_
    refine AllReadyH.cons (o := { dst := none, op := Op.store 29 (Operand.tmp 8) (Operand.tmp 80), type := 0, pos := "ref.go:99", after := #[{ on := 30, ground := Ground.data }, { on := 29, ground := Ground.data }, { on := 4, ground := Ground.chain }, { on := 0, ground := Ground.phase }, { on := 1, ground := Ground.phase }, { on := 2, ground := Ground.phase }, { on := 3, ground := Ground.phase }, { on := 4, ground := Ground.phase }, { on := 5, ground := Ground.phase }, { on := 6, ground := Ground.phase }, { on := 7, ground := Ground.phase }, { on := 8, ground := Ground.phase }, { on := 9, ground := Ground.phase }, { on := 10, ground := Ground.phase }, { on := 11, ground := Ground.phase }, { on := 12, ground := Ground.phase }, { on := 13, ground := Ground.phase }, { on := 14, ground := Ground.phase }, { on := 15, ground := Ground.phase }, { on := 16, ground := Ground.phase }, { on := 17, ground := Ground.phase }, { on := 18, ground := Ground.phase }, { on := 19, ground := Ground.phase }, { on := 20, ground := Ground.phase }, { on := 21, ground := Ground.phase }, { on := 22, ground := Ground.phase }, { on := 23, ground := Ground.phase }, { on := 24, ground := Ground.phase }, { on := 25, ground := Ground.phase }, { on := 26, ground := Ground.phase }, { on := 27, ground := Ground.phase }, { on := 28, ground := Ground.phase }, { on := 29, ground := Ground.phase }, { on := 30, ground := Ground.phase }], guard := none }) rfl (fun K hK => ?_) AllReadyH.nil
    rw [if_pos (by rfl)]
    have ht8 : w9.there w3.heap.size 0 VB.toArray.size := by rw [HSVB.out]; exact hK7.there 17 (Nat.le_refl _)
    refine wp_store_mid 29 _ _ rfl w3.heap.size 0 VB.toArray rfl rfl ht8 HIVB.out HOVB.out ?_
    refine hK.out _ _ (hHeld.sets (by omega) (by omega) (by omega) 0 VB) (fun hHeld => ?_)
    clear hK K
    (try simp only [Act.put])
    have hK8 := Bk.sets VB 0 _ _ (show Bk w9 w3.heap.size 29 pkt0.vals.toArray from hK7)
    rw [HPVB.out] at hK8
    have d2 : b2 ≠ w3.heap.size := by omega
    have d4 : b4 ≠ w3.heap.size := by omega
    have dB : B ≤ w3.heap.size := by omega
    generalize w9.setCells w3.heap.size 0 VB = w10 at *
    generalize w3.heap.size = b8 at *
    refine wpAnyH_done (by kernel_rfl) ?_ _
    refine NoPanic.normal ?_
    clear k1 k2 k3 k4 k5 k6 k7 k8 j1 j8 j9
    have hq : Bk w10 b8 29 (⟨(s[1].toNat : Nat), (m4 : Nat), (s[8].toNat : Nat), (s[9].toNat : Nat), (m6 : Int) % 8192 * 8, ((m6 : Int) / 16384 % 2 == 1), ((m6 : Int) / 8192 % 2 == 1), 0, 0, 0, 0, 0, 0, 0, 0, s.extract 20 N, s.extract N M⟩ : Pkt).vals.toArray := by rw [← HVB.out]; exact hK8
    have c7 : w10.cell? ⟨b8, 7, none⟩ = some (.int .u8 0) := hq.c 7 _ rfl
    have c8 : w10.cell? ⟨b8, 8, none⟩ = some (.int .u8 0) := hq.c 8 _ rfl
    have c9 : w10.cell? ⟨b8, 9, none⟩ = some (.int .u8 0) := hq.c 9 _ rfl
    have c10 : w10.cell? ⟨b8, 10, none⟩ = some (.int .u8 0) := hq.c 10 _ rfl
    have c11 : w10.cell? ⟨b8, 11, none⟩ = some (.int .u8 0) := hq.c 11 _ rfl
    have c12 : w10.cell? ⟨b8, 12, none⟩ = some (.int .u8 0) := hq.c 12 _ rfl
    have c13 : w10.cell? ⟨b8, 13, none⟩ = some (.int .u8 0) := hq.c 13 _ rfl
    have c14 : w10.cell? ⟨b8, 14, none⟩ = some (.int .u8 0) := hq.c 14 _ rfl
    have zz7 := hq.z 7
    have zz8 := hq.z 8
    have zz9 := hq.z 9
    have zz10 := hq.z 10
    have zz11 := hq.z 11
    have zz12 := hq.z 12
    have zz13 := hq.z 13
    have zz14 := hq.z 14
    have hKf := (Bk.setP (Bk.setP (Bk.setP (Bk.setP (Bk.setP (Bk.setP (Bk.setP (Bk.setP hq 7 (.int .u8 (s[12].toNat : Int)) (⟨(s[1].toNat : Nat), (m4 : Nat), (s[8].toNat : Nat), (s[9].toNat : Nat), (m6 : Int) % 8192 * 8, ((m6 : Int) / 16384 % 2 == 1), ((m6 : Int) / 8192 % 2 == 1), (s[12].toNat : Nat), 0, 0, 0, 0, 0, 0, 0, s.extract 20 N, s.extract N M⟩ : Pkt) rfl) 11 (.int .u8 (s[16].toNat : Int)) (⟨(s[1].toNat : Nat), (m4 : Nat), (s[8].toNat : Nat), (s[9].toNat : Nat), (m6 : Int) % 8192 * 8, ((m6 : Int) / 16384 % 2 == 1), ((m6 : Int) / 8192 % 2 == 1), (s[12].toNat : Nat), 0, 0, 0, (s[16].toNat : Nat), 0, 0, 0, s.extract 20 N, s.extract N M⟩ : Pkt) rfl) 8 (.int .u8 (s[13].toNat : Int)) (⟨(s[1].toNat : Nat), (m4 : Nat), (s[8].toNat : Nat), (s[9].toNat : Nat), (m6 : Int) % 8192 * 8, ((m6 : Int) / 16384 % 2 == 1), ((m6 : Int) / 8192 % 2 == 1), (s[12].toNat : Nat), (s[13].toNat : Nat), 0, 0, (s[16].toNat : Nat), 0, 0, 0, s.extract 20 N, s.extract N M⟩ : Pkt) rfl) 12 (.int .u8 (s[17].toNat : Int)) (⟨(s[1].toNat : Nat), (m4 : Nat), (s[8].toNat : Nat), (s[9].toNat : Nat), (m6 : Int) % 8192 * 8, ((m6 : Int) / 16384 % 2 == 1), ((m6 : Int) / 8192 % 2 == 1), (s[12].toNat : Nat), (s[13].toNat : Nat), 0, 0, (s[16].toNat : Nat), (s[17].toNat : Nat), 0, 0, s.extract 20 N, s.extract N M⟩ : Pkt) rfl) 9 (.int .u8 (s[14].toNat : Int)) (⟨(s[1].toNat : Nat), (m4 : Nat), (s[8].toNat : Nat), (s[9].toNat : Nat), (m6 : Int) % 8192 * 8, ((m6 : Int) / 16384 % 2 == 1), ((m6 : Int) / 8192 % 2 == 1), (s[12].toNat : Nat), (s[13].toNat : Nat), (s[14].toNat : Nat), 0, (s[16].toNat : Nat), (s[17].toNat : Nat), 0, 0, s.extract 20 N, s.extract N M⟩ : Pkt) rfl) 13 (.int .u8 (s[18].toNat : Int)) (⟨(s[1].toNat : Nat), (m4 : Nat), (s[8].toNat : Nat), (s[9].toNat : Nat), (m6 : Int) % 8192 * 8, ((m6 : Int) / 16384 % 2 == 1), ((m6 : Int) / 8192 % 2 == 1), (s[12].toNat : Nat), (s[13].toNat : Nat), (s[14].toNat : Nat), 0, (s[16].toNat : Nat), (s[17].toNat : Nat), (s[18].toNat : Nat), 0, s.extract 20 N, s.extract N M⟩ : Pkt) rfl) 10 (.int .u8 (s[15].toNat : Int)) (⟨(s[1].toNat : Nat), (m4 : Nat), (s[8].toNat : Nat), (s[9].toNat : Nat), (m6 : Int) % 8192 * 8, ((m6 : Int) / 16384 % 2 == 1), ((m6 : Int) / 8192 % 2 == 1), (s[12].toNat : Nat), (s[13].toNat : Nat), (s[14].toNat : Nat), (s[15].toNat : Nat), (s[16].toNat : Nat), (s[17].toNat : Nat), (s[18].toNat : Nat), 0, s.extract 20 N, s.extract N M⟩ : Pkt) rfl) 14 (.int .u8 (s[19].toNat : Int)) (⟨(s[1].toNat : Nat), (m4 : Nat), (s[8].toNat : Nat), (s[9].toNat : Nat), (m6 : Int) % 8192 * 8, ((m6 : Int) / 16384 % 2 == 1), ((m6 : Int) / 8192 % 2 == 1), (s[12].toNat : Nat), (s[13].toNat : Nat), (s[14].toNat : Nat), (s[15].toNat : Nat), (s[16].toNat : Nat), (s[17].toNat : Nat), (s[18].toNat : Nat), (s[19].toNat : Nat), s.extract 20 N, s.extract N M⟩ : Pkt) rfl)
    have hPf := ((((((((hHeld.set d2 d4 dB 7 (.int .u8 (s[12].toNat : Int))).set d2 d4 dB 11 (.int .u8 (s[16].toNat : Int))).set d2 d4 dB 8 (.int .u8 (s[13].toNat : Int))).set d2 d4 dB 12 (.int .u8 (s[17].toNat : Int))).set d2 d4 dB 9 (.int .u8 (s[14].toNat : Int))).set d2 d4 dB 13 (.int .u8 (s[18].toNat : Int))).set d2 d4 dB 10 (.int .u8 (s[15].toNat : Int))).set d2 d4 dB 14 (.int .u8 (s[19].toNat : Int)))
    rw [HFin.out, ← HVP.out] at hKf
    have HKf := Lib.hid hKf
    have HPf := Lib.hid hPf
    clear hKf hPf hq hK8 hHeld
    have y12 : (12 : Int) < (s.size : Int) := by omega
    have y13 : (13 : Int) < (s.size : Int) := by omega
    have y14 : (14 : Int) < (s.size : Int) := by omega
    have y15 : (15 : Int) < (s.size : Int) := by omega
    have y16 : (16 : Int) < (s.size : Int) := by omega
    have y17 : (17 : Int) < (s.size : Int) := by omega
    have y18 : (18 : Int) < (s.size : Int) := by omega
    have y19 : (19 : Int) < (s.size : Int) := by omega
    go_wp2_with fail
    refine wp_loop_rounds 5 ?_
    rw [rounds_succ]
    go_wp2_with fail
    rw [rounds_succ]
    go_wp2_with fail
    rw [rounds_succ]
    go_wp2_with fail
    rw [rounds_succ]
    go_wp2_with fail
    rw [rounds_succ]
    go_upto_region 23 with (fail)
    clear c7 zz7 c8 zz8 c9 zz9 c10 zz10 c11 zz11 c12 zz12 c13 zz13 c14 zz14
    generalize (((((((w10.setCell ⟨b8, 7, none⟩ (.int .u8 (s[12].toNat : Int))).setCell ⟨b8, 11, none⟩ (.int .u8 (s[16].toNat : Int))).setCell ⟨b8, 8, none⟩ (.int .u8 (s[13].toNat : Int))).setCell ⟨b8, 12, none⟩ (.int .u8 (s[17].toNat : Int))).setCell ⟨b8, 9, none⟩ (.int .u8 (s[14].toNat : Int))).setCell ⟨b8, 13, none⟩ (.int .u8 (s[18].toNat : Int))).setCell ⟨b8, 10, none⟩ (.int .u8 (s[15].toNat : Int))).setCell ⟨b8, 14, none⟩ (.int .u8 (s[19].toNat : Int)) = w11 at *
    have hb7 : decide ((32768 : Int) ≤ (m6 : Int)) = false := by rw [decide_eq_false_iff_not]; omega
    clear h7 hm6
    have hr8 : w11.rangeAt b8 0 VP := HKf.out.range
    go_wp2_with (refine wpList_load_if (by rfl) 29 _ rfl b8 0 rfl VP _ hr8 Try.underlying29 rfl HIVP.out ?_)
    refine (HWy.out _).mono ?_
    rintro e w12 ⟨rfl, b12⟩
    have HPg := Lib.hid (HPf.out.below b12 (Nat.le_refl _))
    have HKg := Lib.hid (HKf.out.below b12 HKf.out.lt)
    clear b12 HPf HKf hr8
    have hy := HY.out
    go_upto_region 24 with (fail)
    have hr : w12.rangeAt b4 0 VZ := HPg.out.2.1.range
    have ht : w12.there b2 0 VZ.toArray.size := HPg.out.1.there _ (Nat.le_refl _)
    go_wp2_with (first | (refine wpList_load_mid rfl 29 _ rfl b4 0 rfl VZ _ hr Try.underlying29 rfl HIVZ.out ?_) | (refine wpList_store_mid rfl 29 _ _ rfl b2 0 VZ.toArray rfl rfl ht HIVZ.out HOVZ.out ?_))
    clear hr ht
    have hk9 := Bk.sets VZ 0 _ _ (show Bk w12 b2 29 pkt0.vals.toArray by rw [← HVZ.out]; exact HPg.out.1)
    rw [HPVZ.out] at hk9
    have hkr := hk9.range
    have hfb := below_sets (b := b2) VZ HPg.out.2.2.2.2.2 0 _ HPg.out.2.2.1
    rw [HBd.out] at hfb
    refine bodyPost_ret (v := .tuple #[.agg VZ.toArray, .int .i64 8]) ?_ rfl ?_
    · exact results_cell2 rfl rfl rfl (run_loadVar_mid _ b2 0 29 VZ _ hkr Try.underlying29 rfl HIVZ.out)
    exact ⟨by rw [HVZ.out], hfb⟩
end Go.Proofs.Ytjfkfeobmcnonaa
