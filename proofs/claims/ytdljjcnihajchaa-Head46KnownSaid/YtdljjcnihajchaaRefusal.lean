/-
  Proved here: what ip6.refusal answers.
  Conditions: the slice's cells hold the extensions; small packets.
-/
import Derived.Test.YtdljjcnihajchaaHeads
namespace Go.Proofs.Ytdljjcnihajchaa
open Go.RowKit

/-- A packet that is small. -/
structure Sm (p : Pk6) : Prop where
  len : p.exts.length ≤ 20
  data : p.data.size ≤ 70000
  body : ∀ e ∈ p.exts, e.2.size ≤ 70000
theorem esum_small (l : List (Int × ByteArray)) (h : ∀ e ∈ l, e.2.size ≤ 70000) : esum l ≤ 70002 * l.length := by
  induction l with
  | nil => simp [esum]
  | cons e r ih =>
    have h1 := ih (fun x hx => h x (List.mem_cons_of_mem _ hx))
    have h2 := h e (by simp)
    unfold esum at *
    simp only [List.map_cons, List.sum_cons, List.length_cons]
    omega
theorem Sm.sum {p : Pk6} (h : Sm p) : esum p.exts ≤ 1400040 := by
  have h1 := esum_small p.exts h.body
  have h2 := h.len
  omega
/-- Why a packet may not be: a code, or 0. -/
def Pk6.why (p : Pk6) : Int :=
  if p.bnd = false then 13
  else if p.kinds = false then 10
  else if formed p.exts = false ∨ p.piece = false then 8
  else if 8 < p.exts.length ∨ p.rch = false ∨ 65535 < p.behind then 3
  else 0
set_option maxRecDepth 100000 in
set_option maxHeartbeats 1000000 in
theorem refusal_bnd (p : Pk6) (v : Value) (w : World) (hx : Exs w v p.exts) (hb : p.bnd = false) :
    Calls Try.prog 21 #[.agg (p.vals v).toArray] w fun e w' => e = .returned (.int .i64 13) ∧ Below w.heap.size w w' := by
  obtain ⟨ao, cap, rfl, _⟩ := id hx
  obtain ⟨V, hV, hVl, hD, hK⟩ := boxed6 p (.slice ao p.exts.length cap) w
  have HIv : Hid ((Try.prog.info? 27).map (·.size) = some V.length) := Lib.hid (by rw [hV]; exact Try.info6 p _)
  have C0 : Hid (∀ W, Calls Try.prog 36 #[.agg V.toArray] W fun e w' => e = .returned (.bool false) ∧ Below W.heap.size W w') := Lib.hid (fun W => by rw [hV, ← hb]; exact bounded_any p _ W)
  rw [← hV]
  have hv35 : V[35]? = some (.slice ao p.exts.length cap) := by rw [hV]; exact vals_tail p _ 0
  clear hV hx
  have HK0 := Lib.hid hK
  have hrg := hK.hd.range
  clear hK hD hb
  generalize hw1 : w.alloc (.cells V.toArray 27) = w1 at *
  go_enter Try.func21, Try.ntmps21
  go_upto_region 1 with (fail)
  clear hw1
  go_wp2_with (refine wpList_load_mid rfl 27 _ rfl _ 0 rfl V _ hrg Try.underlying27 rfl HIv.out ?_)
  refine (C0.out _).mono ?_
  rintro e u0 ⟨rfl, b1⟩
  have HK1 := Lib.hid (HK0.out.below b1 (Nat.le_refl _))
  have hrg := HK1.out.hd.range
  have d35 := HK1.out.hd.at hv35
  clear b1 HK0
  go_wp2_with fail
  go_ret
  exact ⟨rfl, HK1.out.2.1⟩
set_option maxRecDepth 100000 in
set_option maxHeartbeats 1000000 in
theorem refusal_kinds (p : Pk6) (v : Value) (w : World) (hx : Exs w v p.exts) (hs : Sm p) (hb : p.bnd = true) (hk : p.kinds = false) :
    Calls Try.prog 21 #[.agg (p.vals v).toArray] w fun e w' => e = .returned (.int .i64 10) ∧ Below w.heap.size w w' := by
  obtain ⟨ao, cap, rfl, _⟩ := id hx
  obtain ⟨V, hV, hVl, hD, hK⟩ := boxed6 p (.slice ao p.exts.length cap) w
  have HIv : Hid ((Try.prog.info? 27).map (·.size) = some V.length) := Lib.hid (by rw [hV]; exact Try.info6 p _)
  have C0 : Hid (∀ W, Calls Try.prog 36 #[.agg V.toArray] W fun e w' => e = .returned (.bool true) ∧ Below W.heap.size W w') := Lib.hid (fun W => by rw [hV, ← hb]; exact bounded_any p _ W)
  have C1 : Hid (∀ W, Below w.heap.size w W → Calls Try.prog 37 #[.agg V.toArray] W fun e w' => e = .returned (.bool false) ∧ Below W.heap.size W w') := Lib.hid (fun W hW => by rw [hV, ← hk]; exact kinds_any p _ W (hx.below hW (Nat.le_refl _)) (by have := hs.len; omega))
  rw [← hV]
  have hv35 : V[35]? = some (.slice ao p.exts.length cap) := by rw [hV]; exact vals_tail p _ 0
  clear hV hx
  have HK0 := Lib.hid hK
  have hrg := hK.hd.range
  clear hK hD hs hb hk
  generalize hw1 : w.alloc (.cells V.toArray 27) = w1 at *
  go_enter Try.func21, Try.ntmps21
  go_upto_region 1 with (fail)
  clear hw1
  go_wp2_with (refine wpList_load_mid rfl 27 _ rfl _ 0 rfl V _ hrg Try.underlying27 rfl HIv.out ?_)
  refine (C0.out _).mono ?_
  rintro e u0 ⟨rfl, b1⟩
  have HK1 := Lib.hid (HK0.out.below b1 (Nat.le_refl _))
  have hrg := HK1.out.hd.range
  have d35 := HK1.out.hd.at hv35
  clear b1 HK0
  go_wp2_with (refine wpList_load_mid rfl 27 _ rfl _ 0 rfl V _ hrg Try.underlying27 rfl HIv.out ?_)
  refine (C1.out _ HK1.out.2.1).mono ?_
  rintro e u1 ⟨rfl, b1⟩
  have HK2 := Lib.hid (HK1.out.below b1 (Nat.le_refl _))
  have hrg := HK2.out.hd.range
  have d35 := HK2.out.hd.at hv35
  clear b1 HK1
  go_wp2_with fail
  go_ret
  exact ⟨rfl, HK2.out.2.1⟩
set_option maxRecDepth 100000 in
set_option maxHeartbeats 1000000 in
theorem refusal_formed (p : Pk6) (v : Value) (w : World) (hx : Exs w v p.exts) (hs : Sm p) (hb : p.bnd = true) (hk : p.kinds = true) (hf : formed p.exts = false) :
    Calls Try.prog 21 #[.agg (p.vals v).toArray] w fun e w' => e = .returned (.int .i64 8) ∧ Below w.heap.size w w' := by
  obtain ⟨ao, cap, rfl, _⟩ := id hx
  obtain ⟨V, hV, hVl, hD, hK⟩ := boxed6 p (.slice ao p.exts.length cap) w
  have HIv : Hid ((Try.prog.info? 27).map (·.size) = some V.length) := Lib.hid (by rw [hV]; exact Try.info6 p _)
  have C0 : Hid (∀ W, Calls Try.prog 36 #[.agg V.toArray] W fun e w' => e = .returned (.bool true) ∧ Below W.heap.size W w') := Lib.hid (fun W => by rw [hV, ← hb]; exact bounded_any p _ W)
  have C1 : Hid (∀ W, Below w.heap.size w W → Calls Try.prog 37 #[.agg V.toArray] W fun e w' => e = .returned (.bool true) ∧ Below W.heap.size W w') := Lib.hid (fun W hW => by rw [hV, ← hk]; exact kinds_any p _ W (hx.below hW (Nat.le_refl _)) (by have := hs.len; omega))
  have C2 : Hid (∀ W, Below w.heap.size w W → Calls Try.prog 38 #[.slice ao p.exts.length cap] W fun e w' => e = .returned (.bool false) ∧ Below W.heap.size W w') := Lib.hid (fun W hW => by rw [← hf]; exact formed_any _ p.exts W (hx.below hW (Nat.le_refl _)) (by have := hs.len; omega) (fun e he => by have := hs.body e he; omega))
  rw [← hV]
  have hv35 : V[35]? = some (.slice ao p.exts.length cap) := by rw [hV]; exact vals_tail p _ 0
  clear hV hx
  have HK0 := Lib.hid hK
  have hrg := hK.hd.range
  clear hK hD hs hb hk hf
  generalize hw1 : w.alloc (.cells V.toArray 27) = w1 at *
  go_enter Try.func21, Try.ntmps21
  go_upto_region 1 with (fail)
  clear hw1
  go_wp2_with (refine wpList_load_mid rfl 27 _ rfl _ 0 rfl V _ hrg Try.underlying27 rfl HIv.out ?_)
  refine (C0.out _).mono ?_
  rintro e u0 ⟨rfl, b1⟩
  have HK1 := Lib.hid (HK0.out.below b1 (Nat.le_refl _))
  have hrg := HK1.out.hd.range
  have d35 := HK1.out.hd.at hv35
  clear b1 HK0
  go_wp2_with (refine wpList_load_mid rfl 27 _ rfl _ 0 rfl V _ hrg Try.underlying27 rfl HIv.out ?_)
  refine (C1.out _ HK1.out.2.1).mono ?_
  rintro e u1 ⟨rfl, b1⟩
  have HK2 := Lib.hid (HK1.out.below b1 (Nat.le_refl _))
  have hrg := HK2.out.hd.range
  have d35 := HK2.out.hd.at hv35
  clear b1 HK1
  go_wp2_with fail
  refine (C2.out _ HK2.out.2.1).mono ?_
  rintro e u2 ⟨rfl, b1⟩
  have HK3 := Lib.hid (HK2.out.below b1 (Nat.le_refl _))
  have hrg := HK3.out.hd.range
  have d35 := HK3.out.hd.at hv35
  clear b1 HK2
  go_wp2_with fail
  go_ret
  exact ⟨rfl, HK3.out.2.1⟩
set_option maxRecDepth 100000 in
set_option maxHeartbeats 1000000 in
theorem refusal_piece (p : Pk6) (v : Value) (w : World) (hx : Exs w v p.exts) (hs : Sm p) (hb : p.bnd = true) (hk : p.kinds = true) (hf : formed p.exts = true) (hpc : p.piece = false) :
    Calls Try.prog 21 #[.agg (p.vals v).toArray] w fun e w' => e = .returned (.int .i64 8) ∧ Below w.heap.size w w' := by
  obtain ⟨ao, cap, rfl, _⟩ := id hx
  obtain ⟨V, hV, hVl, hD, hK⟩ := boxed6 p (.slice ao p.exts.length cap) w
  have HIv : Hid ((Try.prog.info? 27).map (·.size) = some V.length) := Lib.hid (by rw [hV]; exact Try.info6 p _)
  have C0 : Hid (∀ W, Calls Try.prog 36 #[.agg V.toArray] W fun e w' => e = .returned (.bool true) ∧ Below W.heap.size W w') := Lib.hid (fun W => by rw [hV, ← hb]; exact bounded_any p _ W)
  have C1 : Hid (∀ W, Below w.heap.size w W → Calls Try.prog 37 #[.agg V.toArray] W fun e w' => e = .returned (.bool true) ∧ Below W.heap.size W w') := Lib.hid (fun W hW => by rw [hV, ← hk]; exact kinds_any p _ W (hx.below hW (Nat.le_refl _)) (by have := hs.len; omega))
  have C2 : Hid (∀ W, Below w.heap.size w W → Calls Try.prog 38 #[.slice ao p.exts.length cap] W fun e w' => e = .returned (.bool true) ∧ Below W.heap.size W w') := Lib.hid (fun W hW => by rw [← hf]; exact formed_any _ p.exts W (hx.below hW (Nat.le_refl _)) (by have := hs.len; omega) (fun e he => by have := hs.body e he; omega))
  have C3 : Hid (∀ W, Calls Try.prog 39 #[.agg V.toArray] W fun e w' => e = .returned (.bool false) ∧ Below W.heap.size W w') := Lib.hid (fun W => by rw [hV, ← hpc]; exact piece_any p _ W (by have := hs.data; omega))
  rw [← hV]
  have hv35 : V[35]? = some (.slice ao p.exts.length cap) := by rw [hV]; exact vals_tail p _ 0
  clear hV hx
  have HK0 := Lib.hid hK
  have hrg := hK.hd.range
  clear hK hD hs hb hk hf hpc
  generalize hw1 : w.alloc (.cells V.toArray 27) = w1 at *
  go_enter Try.func21, Try.ntmps21
  go_upto_region 1 with (fail)
  clear hw1
  go_wp2_with (refine wpList_load_mid rfl 27 _ rfl _ 0 rfl V _ hrg Try.underlying27 rfl HIv.out ?_)
  refine (C0.out _).mono ?_
  rintro e u0 ⟨rfl, b1⟩
  have HK1 := Lib.hid (HK0.out.below b1 (Nat.le_refl _))
  have hrg := HK1.out.hd.range
  have d35 := HK1.out.hd.at hv35
  clear b1 HK0
  go_wp2_with (refine wpList_load_mid rfl 27 _ rfl _ 0 rfl V _ hrg Try.underlying27 rfl HIv.out ?_)
  refine (C1.out _ HK1.out.2.1).mono ?_
  rintro e u1 ⟨rfl, b1⟩
  have HK2 := Lib.hid (HK1.out.below b1 (Nat.le_refl _))
  have hrg := HK2.out.hd.range
  have d35 := HK2.out.hd.at hv35
  clear b1 HK1
  go_wp2_with fail
  refine (C2.out _ HK2.out.2.1).mono ?_
  rintro e u2 ⟨rfl, b1⟩
  have HK3 := Lib.hid (HK2.out.below b1 (Nat.le_refl _))
  have hrg := HK3.out.hd.range
  have d35 := HK3.out.hd.at hv35
  clear b1 HK2
  go_wp2_with (refine wpList_load_if (by rfl) 27 _ rfl _ 0 rfl V _ hrg Try.underlying27 rfl HIv.out ?_)
  refine (C3.out _).mono ?_
  rintro e u3 ⟨rfl, b1⟩
  have HK4 := Lib.hid (HK3.out.below b1 (Nat.le_refl _))
  have hrg := HK4.out.hd.range
  have d35 := HK4.out.hd.at hv35
  clear b1 HK3
  go_wp2_with fail
  go_ret
  exact ⟨rfl, HK4.out.2.1⟩
set_option maxRecDepth 100000 in
set_option maxHeartbeats 1000000 in
theorem refusal_len (p : Pk6) (v : Value) (w : World) (hx : Exs w v p.exts) (hs : Sm p) (hb : p.bnd = true) (hk : p.kinds = true) (hf : formed p.exts = true) (hpc : p.piece = true) (hl8 : 8 < p.exts.length) :
    Calls Try.prog 21 #[.agg (p.vals v).toArray] w fun e w' => e = .returned (.int .i64 3) ∧ Below w.heap.size w w' := by
  obtain ⟨ao, cap, rfl, _⟩ := id hx
  obtain ⟨V, hV, hVl, hD, hK⟩ := boxed6 p (.slice ao p.exts.length cap) w
  have HIv : Hid ((Try.prog.info? 27).map (·.size) = some V.length) := Lib.hid (by rw [hV]; exact Try.info6 p _)
  have C0 : Hid (∀ W, Calls Try.prog 36 #[.agg V.toArray] W fun e w' => e = .returned (.bool true) ∧ Below W.heap.size W w') := Lib.hid (fun W => by rw [hV, ← hb]; exact bounded_any p _ W)
  have C1 : Hid (∀ W, Below w.heap.size w W → Calls Try.prog 37 #[.agg V.toArray] W fun e w' => e = .returned (.bool true) ∧ Below W.heap.size W w') := Lib.hid (fun W hW => by rw [hV, ← hk]; exact kinds_any p _ W (hx.below hW (Nat.le_refl _)) (by have := hs.len; omega))
  have C2 : Hid (∀ W, Below w.heap.size w W → Calls Try.prog 38 #[.slice ao p.exts.length cap] W fun e w' => e = .returned (.bool true) ∧ Below W.heap.size W w') := Lib.hid (fun W hW => by rw [← hf]; exact formed_any _ p.exts W (hx.below hW (Nat.le_refl _)) (by have := hs.len; omega) (fun e he => by have := hs.body e he; omega))
  have C3 : Hid (∀ W, Calls Try.prog 39 #[.agg V.toArray] W fun e w' => e = .returned (.bool true) ∧ Below W.heap.size W w') := Lib.hid (fun W => by rw [hV, ← hpc]; exact piece_any p _ W (by have := hs.data; omega))
  have hlI : (8 : Int) < (p.exts.length : Int) := by omega
  have hlD := decide_eq_true hlI
  rw [← hV]
  have hv35 : V[35]? = some (.slice ao p.exts.length cap) := by rw [hV]; exact vals_tail p _ 0
  clear hV hx
  have HK0 := Lib.hid hK
  have hrg := hK.hd.range
  clear hK hD hs hb hk hf hpc
  generalize hw1 : w.alloc (.cells V.toArray 27) = w1 at *
  go_enter Try.func21, Try.ntmps21
  go_upto_region 1 with (fail)
  clear hw1
  go_wp2_with (refine wpList_load_mid rfl 27 _ rfl _ 0 rfl V _ hrg Try.underlying27 rfl HIv.out ?_)
  refine (C0.out _).mono ?_
  rintro e u0 ⟨rfl, b1⟩
  have HK1 := Lib.hid (HK0.out.below b1 (Nat.le_refl _))
  have hrg := HK1.out.hd.range
  have d35 := HK1.out.hd.at hv35
  clear b1 HK0
  go_wp2_with (refine wpList_load_mid rfl 27 _ rfl _ 0 rfl V _ hrg Try.underlying27 rfl HIv.out ?_)
  refine (C1.out _ HK1.out.2.1).mono ?_
  rintro e u1 ⟨rfl, b1⟩
  have HK2 := Lib.hid (HK1.out.below b1 (Nat.le_refl _))
  have hrg := HK2.out.hd.range
  have d35 := HK2.out.hd.at hv35
  clear b1 HK1
  go_wp2_with fail
  refine (C2.out _ HK2.out.2.1).mono ?_
  rintro e u2 ⟨rfl, b1⟩
  have HK3 := Lib.hid (HK2.out.below b1 (Nat.le_refl _))
  have hrg := HK3.out.hd.range
  have d35 := HK3.out.hd.at hv35
  clear b1 HK2
  go_wp2_with (refine wpList_load_if (by rfl) 27 _ rfl _ 0 rfl V _ hrg Try.underlying27 rfl HIv.out ?_)
  refine (C3.out _).mono ?_
  rintro e u3 ⟨rfl, b1⟩
  have HK4 := Lib.hid (HK3.out.below b1 (Nat.le_refl _))
  have hrg := HK4.out.hd.range
  have d35 := HK4.out.hd.at hv35
  clear b1 HK3
  go_wp2_with fail
  go_ret
  exact ⟨rfl, HK4.out.2.1⟩
set_option maxRecDepth 100000 in
set_option maxHeartbeats 1000000 in
theorem refusal_rch (p : Pk6) (v : Value) (w : World) (hx : Exs w v p.exts) (hs : Sm p) (hb : p.bnd = true) (hk : p.kinds = true) (hf : formed p.exts = true) (hpc : p.piece = true) (hl8 : p.exts.length ≤ 8) (hr : p.rch = false) :
    Calls Try.prog 21 #[.agg (p.vals v).toArray] w fun e w' => e = .returned (.int .i64 3) ∧ Below w.heap.size w w' := by
  obtain ⟨ao, cap, rfl, _⟩ := id hx
  obtain ⟨_, _, _, _, _, _, _, _, p0, p1, _⟩ := bnd_pl hb
  obtain ⟨V, hV, hVl, hD, hK⟩ := boxed6 p (.slice ao p.exts.length cap) w
  have HIv : Hid ((Try.prog.info? 27).map (·.size) = some V.length) := Lib.hid (by rw [hV]; exact Try.info6 p _)
  have C0 : Hid (∀ W, Calls Try.prog 36 #[.agg V.toArray] W fun e w' => e = .returned (.bool true) ∧ Below W.heap.size W w') := Lib.hid (fun W => by rw [hV, ← hb]; exact bounded_any p _ W)
  have C1 : Hid (∀ W, Below w.heap.size w W → Calls Try.prog 37 #[.agg V.toArray] W fun e w' => e = .returned (.bool true) ∧ Below W.heap.size W w') := Lib.hid (fun W hW => by rw [hV, ← hk]; exact kinds_any p _ W (hx.below hW (Nat.le_refl _)) (by have := hs.len; omega))
  have C2 : Hid (∀ W, Below w.heap.size w W → Calls Try.prog 38 #[.slice ao p.exts.length cap] W fun e w' => e = .returned (.bool true) ∧ Below W.heap.size W w') := Lib.hid (fun W hW => by rw [← hf]; exact formed_any _ p.exts W (hx.below hW (Nat.le_refl _)) (by have := hs.len; omega) (fun e he => by have := hs.body e he; omega))
  have C3 : Hid (∀ W, Calls Try.prog 39 #[.agg V.toArray] W fun e w' => e = .returned (.bool true) ∧ Below W.heap.size W w') := Lib.hid (fun W => by rw [hV, ← hpc]; exact piece_any p _ W (by have := hs.data; omega))
  have C5 : Hid (∀ W, Calls Try.prog 40 #[.agg V.toArray] W fun e w' => e = .returned (.bool false) ∧ Below W.heap.size W w') := Lib.hid (fun W => by rw [hV, ← hr]; exact reaches_any p _ W hs.data p0 p1)
  have hlI : ¬ (8 : Int) < (p.exts.length : Int) := by omega
  have hlD := decide_eq_false hlI
  rw [← hV]
  have hv35 : V[35]? = some (.slice ao p.exts.length cap) := by rw [hV]; exact vals_tail p _ 0
  clear hV hx
  have HK0 := Lib.hid hK
  have hrg := hK.hd.range
  clear hK hD hs hb hk hf hpc hr
  generalize hw1 : w.alloc (.cells V.toArray 27) = w1 at *
  go_enter Try.func21, Try.ntmps21
  go_upto_region 1 with (fail)
  clear hw1
  go_wp2_with (refine wpList_load_mid rfl 27 _ rfl _ 0 rfl V _ hrg Try.underlying27 rfl HIv.out ?_)
  refine (C0.out _).mono ?_
  rintro e u0 ⟨rfl, b1⟩
  have HK1 := Lib.hid (HK0.out.below b1 (Nat.le_refl _))
  have hrg := HK1.out.hd.range
  have d35 := HK1.out.hd.at hv35
  clear b1 HK0
  go_wp2_with (refine wpList_load_mid rfl 27 _ rfl _ 0 rfl V _ hrg Try.underlying27 rfl HIv.out ?_)
  refine (C1.out _ HK1.out.2.1).mono ?_
  rintro e u1 ⟨rfl, b1⟩
  have HK2 := Lib.hid (HK1.out.below b1 (Nat.le_refl _))
  have hrg := HK2.out.hd.range
  have d35 := HK2.out.hd.at hv35
  clear b1 HK1
  go_wp2_with fail
  refine (C2.out _ HK2.out.2.1).mono ?_
  rintro e u2 ⟨rfl, b1⟩
  have HK3 := Lib.hid (HK2.out.below b1 (Nat.le_refl _))
  have hrg := HK3.out.hd.range
  have d35 := HK3.out.hd.at hv35
  clear b1 HK2
  go_wp2_with (refine wpList_load_if (by rfl) 27 _ rfl _ 0 rfl V _ hrg Try.underlying27 rfl HIv.out ?_)
  refine (C3.out _).mono ?_
  rintro e u3 ⟨rfl, b1⟩
  have HK4 := Lib.hid (HK3.out.below b1 (Nat.le_refl _))
  have hrg := HK4.out.hd.range
  have d35 := HK4.out.hd.at hv35
  clear b1 HK3
  go_wp2_with (refine wpList_load_if (by rfl) 27 _ rfl _ 0 rfl V _ hrg Try.underlying27 rfl HIv.out ?_)
  refine (C5.out _).mono ?_
  rintro e u4 ⟨rfl, b1⟩
  have HK5 := Lib.hid (HK4.out.below b1 (Nat.le_refl _))
  have hrg := HK5.out.hd.range
  have d35 := HK5.out.hd.at hv35
  clear b1 HK4
  go_wp2_with fail
  go_ret
  exact ⟨rfl, HK5.out.2.1⟩
set_option maxRecDepth 100000 in
set_option maxHeartbeats 1000000 in
theorem refusal_behind (p : Pk6) (v : Value) (w : World) (hx : Exs w v p.exts) (hs : Sm p) (hb : p.bnd = true) (hk : p.kinds = true) (hf : formed p.exts = true) (hpc : p.piece = true) (hl8 : p.exts.length ≤ 8) (hr : p.rch = true) (hbh : 65535 < p.behind) :
    Calls Try.prog 21 #[.agg (p.vals v).toArray] w fun e w' => e = .returned (.int .i64 3) ∧ Below w.heap.size w w' := by
  obtain ⟨ao, cap, rfl, _⟩ := id hx
  obtain ⟨_, _, _, _, _, _, _, _, p0, p1, _⟩ := bnd_pl hb
  obtain ⟨V, hV, hVl, hD, hK⟩ := boxed6 p (.slice ao p.exts.length cap) w
  have HIv : Hid ((Try.prog.info? 27).map (·.size) = some V.length) := Lib.hid (by rw [hV]; exact Try.info6 p _)
  have C0 : Hid (∀ W, Calls Try.prog 36 #[.agg V.toArray] W fun e w' => e = .returned (.bool true) ∧ Below W.heap.size W w') := Lib.hid (fun W => by rw [hV, ← hb]; exact bounded_any p _ W)
  have C1 : Hid (∀ W, Below w.heap.size w W → Calls Try.prog 37 #[.agg V.toArray] W fun e w' => e = .returned (.bool true) ∧ Below W.heap.size W w') := Lib.hid (fun W hW => by rw [hV, ← hk]; exact kinds_any p _ W (hx.below hW (Nat.le_refl _)) (by have := hs.len; omega))
  have C2 : Hid (∀ W, Below w.heap.size w W → Calls Try.prog 38 #[.slice ao p.exts.length cap] W fun e w' => e = .returned (.bool true) ∧ Below W.heap.size W w') := Lib.hid (fun W hW => by rw [← hf]; exact formed_any _ p.exts W (hx.below hW (Nat.le_refl _)) (by have := hs.len; omega) (fun e he => by have := hs.body e he; omega))
  have C3 : Hid (∀ W, Calls Try.prog 39 #[.agg V.toArray] W fun e w' => e = .returned (.bool true) ∧ Below W.heap.size W w') := Lib.hid (fun W => by rw [hV, ← hpc]; exact piece_any p _ W (by have := hs.data; omega))
  have C5 : Hid (∀ W, Calls Try.prog 40 #[.agg V.toArray] W fun e w' => e = .returned (.bool true) ∧ Below W.heap.size W w') := Lib.hid (fun W => by rw [hV, ← hr]; exact reaches_any p _ W hs.data p0 p1)
  have C6 : Hid (∀ W, Below w.heap.size w W → Calls Try.prog 41 #[.agg V.toArray] W fun e w' => e = .returned (.int .i64 p.behind) ∧ Below W.heap.size W w') := Lib.hid (fun W hW => by rw [hV]; exact length_any p _ W (hx.below hW (Nat.le_refl _)) (by have := hs.len; omega) (by have := hs.data; omega) (by have := hs.sum; omega))
  have hlI : ¬ (8 : Int) < (p.exts.length : Int) := by omega
  have hlD := decide_eq_false hlI
  have hbI : (65535 : Int) < (p.behind : Int) := by omega
  generalize p.behind = bh at *
  rw [← hV]
  have hv35 : V[35]? = some (.slice ao p.exts.length cap) := by rw [hV]; exact vals_tail p _ 0
  clear hV hx
  have HK0 := Lib.hid hK
  have hrg := hK.hd.range
  clear hK hD hs hb hk hf hpc hr
  generalize hw1 : w.alloc (.cells V.toArray 27) = w1 at *
  go_enter Try.func21, Try.ntmps21
  go_upto_region 1 with (fail)
  clear hw1
  go_wp2_with (refine wpList_load_mid rfl 27 _ rfl _ 0 rfl V _ hrg Try.underlying27 rfl HIv.out ?_)
  refine (C0.out _).mono ?_
  rintro e u0 ⟨rfl, b1⟩
  have HK1 := Lib.hid (HK0.out.below b1 (Nat.le_refl _))
  have hrg := HK1.out.hd.range
  have d35 := HK1.out.hd.at hv35
  clear b1 HK0
  go_wp2_with (refine wpList_load_mid rfl 27 _ rfl _ 0 rfl V _ hrg Try.underlying27 rfl HIv.out ?_)
  refine (C1.out _ HK1.out.2.1).mono ?_
  rintro e u1 ⟨rfl, b1⟩
  have HK2 := Lib.hid (HK1.out.below b1 (Nat.le_refl _))
  have hrg := HK2.out.hd.range
  have d35 := HK2.out.hd.at hv35
  clear b1 HK1
  go_wp2_with fail
  refine (C2.out _ HK2.out.2.1).mono ?_
  rintro e u2 ⟨rfl, b1⟩
  have HK3 := Lib.hid (HK2.out.below b1 (Nat.le_refl _))
  have hrg := HK3.out.hd.range
  have d35 := HK3.out.hd.at hv35
  clear b1 HK2
  go_wp2_with (refine wpList_load_if (by rfl) 27 _ rfl _ 0 rfl V _ hrg Try.underlying27 rfl HIv.out ?_)
  refine (C3.out _).mono ?_
  rintro e u3 ⟨rfl, b1⟩
  have HK4 := Lib.hid (HK3.out.below b1 (Nat.le_refl _))
  have hrg := HK4.out.hd.range
  have d35 := HK4.out.hd.at hv35
  clear b1 HK3
  go_wp2_with (refine wpList_load_if (by rfl) 27 _ rfl _ 0 rfl V _ hrg Try.underlying27 rfl HIv.out ?_)
  refine (C5.out _).mono ?_
  rintro e u4 ⟨rfl, b1⟩
  have HK5 := Lib.hid (HK4.out.below b1 (Nat.le_refl _))
  have hrg := HK5.out.hd.range
  have d35 := HK5.out.hd.at hv35
  clear b1 HK4
  go_wp2_with (refine wpList_load_if (by rfl) 27 _ rfl _ 0 rfl V _ hrg Try.underlying27 rfl HIv.out ?_)
  refine (C6.out _ HK5.out.2.1).mono ?_
  rintro e u5 ⟨rfl, b1⟩
  have HK6 := Lib.hid (HK5.out.below b1 (Nat.le_refl _))
  have hrg := HK6.out.hd.range
  have d35 := HK6.out.hd.at hv35
  clear b1 HK5
  go_wp2_with fail
  go_ret
  exact ⟨rfl, HK6.out.2.1⟩
set_option maxRecDepth 100000 in
set_option maxHeartbeats 1000000 in
theorem refusal_ok (p : Pk6) (v : Value) (w : World) (hx : Exs w v p.exts) (hs : Sm p) (hb : p.bnd = true) (hk : p.kinds = true) (hf : formed p.exts = true) (hpc : p.piece = true) (hl8 : p.exts.length ≤ 8) (hr : p.rch = true) (hbh : p.behind ≤ 65535) :
    Calls Try.prog 21 #[.agg (p.vals v).toArray] w fun e w' => e = .returned (.int .i64 0) ∧ Below w.heap.size w w' := by
  obtain ⟨ao, cap, rfl, _⟩ := id hx
  obtain ⟨_, _, _, _, _, _, _, _, p0, p1, _⟩ := bnd_pl hb
  obtain ⟨V, hV, hVl, hD, hK⟩ := boxed6 p (.slice ao p.exts.length cap) w
  have HIv : Hid ((Try.prog.info? 27).map (·.size) = some V.length) := Lib.hid (by rw [hV]; exact Try.info6 p _)
  have C0 : Hid (∀ W, Calls Try.prog 36 #[.agg V.toArray] W fun e w' => e = .returned (.bool true) ∧ Below W.heap.size W w') := Lib.hid (fun W => by rw [hV, ← hb]; exact bounded_any p _ W)
  have C1 : Hid (∀ W, Below w.heap.size w W → Calls Try.prog 37 #[.agg V.toArray] W fun e w' => e = .returned (.bool true) ∧ Below W.heap.size W w') := Lib.hid (fun W hW => by rw [hV, ← hk]; exact kinds_any p _ W (hx.below hW (Nat.le_refl _)) (by have := hs.len; omega))
  have C2 : Hid (∀ W, Below w.heap.size w W → Calls Try.prog 38 #[.slice ao p.exts.length cap] W fun e w' => e = .returned (.bool true) ∧ Below W.heap.size W w') := Lib.hid (fun W hW => by rw [← hf]; exact formed_any _ p.exts W (hx.below hW (Nat.le_refl _)) (by have := hs.len; omega) (fun e he => by have := hs.body e he; omega))
  have C3 : Hid (∀ W, Calls Try.prog 39 #[.agg V.toArray] W fun e w' => e = .returned (.bool true) ∧ Below W.heap.size W w') := Lib.hid (fun W => by rw [hV, ← hpc]; exact piece_any p _ W (by have := hs.data; omega))
  have C5 : Hid (∀ W, Calls Try.prog 40 #[.agg V.toArray] W fun e w' => e = .returned (.bool true) ∧ Below W.heap.size W w') := Lib.hid (fun W => by rw [hV, ← hr]; exact reaches_any p _ W hs.data p0 p1)
  have C6 : Hid (∀ W, Below w.heap.size w W → Calls Try.prog 41 #[.agg V.toArray] W fun e w' => e = .returned (.int .i64 p.behind) ∧ Below W.heap.size W w') := Lib.hid (fun W hW => by rw [hV]; exact length_any p _ W (hx.below hW (Nat.le_refl _)) (by have := hs.len; omega) (by have := hs.data; omega) (by have := hs.sum; omega))
  have hlI : ¬ (8 : Int) < (p.exts.length : Int) := by omega
  have hlD := decide_eq_false hlI
  have hbI : ¬ (65535 : Int) < (p.behind : Int) := by omega
  generalize p.behind = bh at *
  rw [← hV]
  have hv35 : V[35]? = some (.slice ao p.exts.length cap) := by rw [hV]; exact vals_tail p _ 0
  clear hV hx
  have HK0 := Lib.hid hK
  have hrg := hK.hd.range
  clear hK hD hs hb hk hf hpc hr
  generalize hw1 : w.alloc (.cells V.toArray 27) = w1 at *
  go_enter Try.func21, Try.ntmps21
  go_upto_region 1 with (fail)
  clear hw1
  go_wp2_with (refine wpList_load_mid rfl 27 _ rfl _ 0 rfl V _ hrg Try.underlying27 rfl HIv.out ?_)
  refine (C0.out _).mono ?_
  rintro e u0 ⟨rfl, b1⟩
  have HK1 := Lib.hid (HK0.out.below b1 (Nat.le_refl _))
  have hrg := HK1.out.hd.range
  have d35 := HK1.out.hd.at hv35
  clear b1 HK0
  go_wp2_with (refine wpList_load_mid rfl 27 _ rfl _ 0 rfl V _ hrg Try.underlying27 rfl HIv.out ?_)
  refine (C1.out _ HK1.out.2.1).mono ?_
  rintro e u1 ⟨rfl, b1⟩
  have HK2 := Lib.hid (HK1.out.below b1 (Nat.le_refl _))
  have hrg := HK2.out.hd.range
  have d35 := HK2.out.hd.at hv35
  clear b1 HK1
  go_wp2_with fail
  refine (C2.out _ HK2.out.2.1).mono ?_
  rintro e u2 ⟨rfl, b1⟩
  have HK3 := Lib.hid (HK2.out.below b1 (Nat.le_refl _))
  have hrg := HK3.out.hd.range
  have d35 := HK3.out.hd.at hv35
  clear b1 HK2
  go_wp2_with (refine wpList_load_if (by rfl) 27 _ rfl _ 0 rfl V _ hrg Try.underlying27 rfl HIv.out ?_)
  refine (C3.out _).mono ?_
  rintro e u3 ⟨rfl, b1⟩
  have HK4 := Lib.hid (HK3.out.below b1 (Nat.le_refl _))
  have hrg := HK4.out.hd.range
  have d35 := HK4.out.hd.at hv35
  clear b1 HK3
  go_wp2_with (refine wpList_load_if (by rfl) 27 _ rfl _ 0 rfl V _ hrg Try.underlying27 rfl HIv.out ?_)
  refine (C5.out _).mono ?_
  rintro e u4 ⟨rfl, b1⟩
  have HK5 := Lib.hid (HK4.out.below b1 (Nat.le_refl _))
  have hrg := HK5.out.hd.range
  have d35 := HK5.out.hd.at hv35
  clear b1 HK4
  go_wp2_with (refine wpList_load_if (by rfl) 27 _ rfl _ 0 rfl V _ hrg Try.underlying27 rfl HIv.out ?_)
  refine (C6.out _ HK5.out.2.1).mono ?_
  rintro e u5 ⟨rfl, b1⟩
  have HK6 := Lib.hid (HK5.out.below b1 (Nat.le_refl _))
  have hrg := HK6.out.hd.range
  have d35 := HK6.out.hd.at hv35
  clear b1 HK5
  go_wp2_with fail
  go_ret
  exact ⟨rfl, HK6.out.2.1⟩
theorem refusal_any (p : Pk6) (v : Value) (w : World) (hx : Exs w v p.exts) (hs : Sm p) :
    Calls Try.prog 21 #[.agg (p.vals v).toArray] w fun e w' => e = .returned (.int .i64 p.why) ∧ Below w.heap.size w w' := by
  unfold Pk6.why
  by_cases hb : p.bnd = false
  · rw [if_pos hb]; exact refusal_bnd p v w hx hb
  · rw [if_neg hb]
    have hb : p.bnd = true := by simpa using hb
    by_cases hk : p.kinds = false
    · rw [if_pos hk]; exact refusal_kinds p v w hx hs hb hk
    · rw [if_neg hk]
      have hk : p.kinds = true := by simpa using hk
      by_cases hf : formed p.exts = false
      · rw [if_pos (.inl hf)]; exact refusal_formed p v w hx hs hb hk hf
      · have hf : formed p.exts = true := by simpa using hf
        by_cases hp : p.piece = false
        · rw [if_pos (.inr hp)]; exact refusal_piece p v w hx hs hb hk hf hp
        · have hp : p.piece = true := by simpa using hp
          rw [if_neg (by rw [hf, hp]; simp)]
          by_cases hl : 8 < p.exts.length
          · rw [if_pos (.inl hl)]; exact refusal_len p v w hx hs hb hk hf hp hl
          · by_cases hr : p.rch = false
            · rw [if_pos (.inr (.inl hr))]; exact refusal_rch p v w hx hs hb hk hf hp (by omega) hr
            · have hr : p.rch = true := by simpa using hr
              by_cases hh : 65535 < p.behind
              · rw [if_pos (.inr (.inr hh))]; exact refusal_behind p v w hx hs hb hk hf hp (by omega) hr hh
              · rw [if_neg (by rw [hr]; simp; omega)]; exact refusal_ok p v w hx hs hb hk hf hp (by omega) hr (by omega)
/-- What a packet that may be is. -/
structure Ok6 (p : Pk6) : Prop where
  bnd : p.bnd = true
  kinds : p.kinds = true
  form : formed p.exts = true
  piece : p.piece = true
  len : p.exts.length ≤ 8
  rch : p.rch = true
  behind : p.behind ≤ 65535
theorem why_ok {p : Pk6} (h : p.why = 0) : Ok6 p := by
  unfold Pk6.why at h
  split at h
  · cases h
  · rename_i h1
    split at h
    · cases h
    · rename_i h2
      split at h
      · cases h
      · rename_i h3
        split at h
        · cases h
        · rename_i h4
          exact ⟨by simpa using h1, by simpa using h2, by cases hf : formed p.exts <;> simp_all, by cases hp : p.piece <;> simp_all, by omega, by cases hr : p.rch <;> simp_all, by omega⟩
end Go.Proofs.Ytdljjcnihajchaa
